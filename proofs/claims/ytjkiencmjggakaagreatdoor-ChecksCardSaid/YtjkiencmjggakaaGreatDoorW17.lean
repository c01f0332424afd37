import Derived.Laws.BitsAllLaws
import Derived.Laws.Shifts
import Derived.Lib.ConvBytes
import Derived.Test.YtjkiencmjggakaaGreatDoorW16
import Derived.LaidEql
import Derived.Stop.Asserts
set_option maxHeartbeats 16000000
set_option maxRecDepth 100000
set_option linter.unusedVariables false
set_option linter.defProp false
set_option linter.unusedSimpArgs false
open Go.Proofs.Tryz
namespace Go.Proofs.YtjkiencmjggakaaGreatDoor
open Go.RowKit
variable {lo lc k:Nat}{ev:Value}{la:Option Addr}{Y:Nat->Value}{o:Oper}{Q:Exit->Act->World->Prop}{tx s':BA}
def U8(w:World)(B g:Nat):Prop:=B<=g/\∃c fz,w.heap[g]?=some (.cells c 5 fz)
def FrU(B:Nat)(w w':World):Prop:=Fr w w' (U8 w B)
section
variable {a b c w w':World} {B:Nat} {v:Value} {x:BA}
def FrU.refl(w:World):FrU B w w:=A_ _ _
def FrU.trans(h:FrU B a b)(k:FrU B b c):FrU B a c:=Fr.trans h k (λx hx ⟨h1,c,fz,h2⟩=>by
 by_cases g:U8 a B x
 .exact g
 .exact⟨h1,c,fz,by rw[<- h.block x hx g];exact h2⟩)
def FrU.all(h:FrU B w w'):Fr w w' (λg=>B<=g):=Fr.mono h (λ_ _ e=>e.1)
def FrU.of(h:Fr w w' N_):FrU B w w':=Fr.mono h v_
def FrU.size(h:FrU B w w'):w.heap.size<=w'.heap.size:=Fr.size h
def FrU.drew(h:FrU B w w'):FrU B w w'.drew:=Fr.drew h
def yv.u8(h:yv w B v x){g:Nat}(e:v.ownBlock=some g):U8 w B g:=by
 refine⟨(h.own e).1,?_⟩;rcases h.2 with⟨hn,_⟩|⟨g',cap,q,hv,hb,hg,_⟩
 .rw[hn]at e;simp[Value.ownBlock]at e
 .rw[hv]at e;simp[Value.ownBlock]at e;subst e;exact⟨_,_,hg⟩
def yv.frx{S:Nat->Prop}(h:yv w B v x)(hf:Fr w w' S)(q:∀g,v.ownBlock=some g->¬S g):yv w' B v x:=zj h hf q
def yv.si(h:yv w B v x)(hs:zq w w'):yv w' B v x:=h.frx ((A_ w N_).si hs) u_
def FrU.bl(h:FrU B w w'){cs:List Value}{t:TypeId}(hb:Blk w k cs t)(g:t≠5):Blk w' k cs t:=Fr.bl h hb (λ⟨_,c,fz,e⟩=>by
 unfold Blk at hb
 rw[hb]at e
 simp at e
 exact g e.2.1)
end
def ym(w:World)(B lo hi:Nat)(e:Ending)(w':World):Prop:=∃v' b',e=.returned v'/\yv w' B v' b'/\lo<=b'.size/\b'.size<=hi/\FrU B w w'
def ym.pre{w0 w w':World}{B hi:Nat}{e:Ending}(h:ym w B lo hi e w')(hf:FrU B w0 w):ym w0 B lo hi e w':=by
 obtain⟨v,b,h1,g,q,r,y⟩:=h;exact⟨v,b,h1,g,q,r,hf.trans y⟩
def ym.wide{w w':World}{B hi g:Nat}{e:Ending}(h:ym w B lo hi e w')(z:hi<=g):ym w B lo g e w':=by
 obtain⟨v,b,h1,g,q,r,y⟩:=h;exact⟨v,b,h1,g,q,ak_ r z,y⟩
def sz1(b:BA)(c:Nat):(b++bts [c]).size=b.size+1:=by rw[a8_,vY];rfl
def KV(l:List Nat)(b:BA)(h:l.length=1):0<(bts l++b).size:=by
 rw[a8_,vY,h];omega
def Qn(n:Int):0<(fI n).size:=by
 by_cases hn:n<0
 .obtain⟨u,hu,rfl⟩:∃u:Nat,1<=u/\n = -(u:Int):=⟨n.natAbs,M_,M_⟩;rw[Qs hu];exact KV _ _ rfl
 .obtain⟨u,rfl⟩:∃u:Nat,n=(u:Int):=⟨n.natAbs,M_⟩;by_cases h:u<10
  .rw[oN h,vY];simp
  .rw[Qi h,a8_,vY];simp
def jG{q:Array Oper}{r:List Oper}{a:Act}(C:o.guard=none)(s x:Operand)(ho:o.op=.call { callee:=.builtin .append,args:=#[s,x],argTypes:=#[97,97] }){B g:Nat}{w:World}{v:Value}{b:BA}{y:Int}(c:Nat)(hy:y=(c:Int))(hc:c<256)(hb:yv w B v b)(z:b.size<=100000000)(hB:B<=w.heap.size)(hg:g=w.heap.size)(hs:a.eval s=v)(hx:a.eval x=S_ g 1 1)(h:∀z w',yv w' B z (b++bts [c])->FrU B w w'->wpList prog q Q r (a.put o.dst z) w'):wpList prog q Q (o::r) a (w.alloc (.cells #[.int .u8 y] 5)):=by
 subst hy;obtain⟨ti,q,r,z,D⟩:=info_parts Wf;refine wpList_append_own_at _ C _ _ 97 ho B 5 ti _ 1 1 Zl q r z D rfl D_ _ b.size (Lib.strCells b) hs (World.ownsRow.alloc hb _) ⟨g,0,none⟩ 1 1 [U_ c] hx rfl (zN _ #[U_ c] _ _ hg) (by simp[Value.oneCell']) (by unfold maxLen;omega) M_ (by simp;omega) ?_;intro C q z r _ _;refine h C q ?_ ?_
 .unfold yv;rw[yH,jC hc,a8_,vY];exact z
 .exact Fr.mono (((A_ w _).alloc _).gw r (λk hk _=>hk):Fr w q (λg=>v.ownBlock=some g)) (λg _ e=>hb.u8 e)
def cq26_{p:Prop}(h:p:=by
 obtain⟨ti,y,z,C,D⟩:=info_parts Wf;(first|(have:=cc1;obtain⟨G,q,hr,F,r,_⟩:=Lib.run_append_own_string (P:=prog) w B 97 9 o.type 5 ti Zl uU y z C D _ b.size (Lib.strCells b) hb t (by unfold maxLen;omega) M_ hB)|(refine Lib.wpList_append_own_string _ hgd _ _ 97 9 ho B 5 ti Zl uU y z C D _ b.size (Lib.strCells b) hs hb t hx (by unfold maxLen;omega) M_ hB ?_));(first|(have:=cc1;unfold Oper.wp execOp;simp only[ho,resolve,invoke,builtin,Sem.run_bind,Sem.run_pure,Result.andThen_ok,List.map_toArray,aw_,bd_,hs,hx,hr])|(intro G q F r _));refine h G q ?_ ?_
 .unfold yv;rw[yH,a8_];exact F
 .exact Fr.mono ((A_ w _).gw r (λk hk _=>hk):Fr w q (λg=>v.ownBlock=some g)) (λg _ e=>hb.u8 e)):p:=h
def Kp{ops:Array Oper}{rest:List Oper}{a:Act}(hgd:o.guard=none)(s x:Operand)(ho:o.op=.call { callee:=.builtin .append,args:=#[s,x],argTypes:=#[97,9] }){B:Nat}{w:World}{v:Value}{b t:BA}(hb:yv w B v b)(hsz:b.size<=100000000)(ht:t.size<=4000)(hB:B<=w.heap.size)(hs:a.eval s=v)(hx:a.eval x=.string t)(h:∀v' w',yv w' B v' (b++t)->FrU B w w'->wpList prog ops Q rest (a.put o.dst v') w'):wpList prog ops Q (o::rest) a w:=by
 exact cq26_
def jk(w0:World):Prop:=∀(W:World) (B:Nat),w0.heap.size<=B->B<=W.heap.size->yg w0 W->∀(u:Value) (b:BA) (n:Int),-9223372036854775808<=n->n<=9223372036854775807->yv W B u b->b.size<=100000000->
 Calls prog 55 #[u,z_ n,z_ 10] W (ym W B (b.size+1) (b.size+21))
def Vw{w0:World}(h:Lib.TabIs prog w0 "internal/strconv.uint64pow10" .u64 Lib.pow10Tab):jk w0:=by
 intro W B h0 hB q u b n r y hb hs
 have z:Lib.TabBelow prog B W "internal/strconv.uint64pow10" .u64 Lib.pow10Tab:=λW' C=>(show yg w0 W' from λg hg=>(C.block g M_).trans (q g hg)).var h
 apply(Tryz.strconv_AppendInt_10 B b.size n r y u (Lib.strCells b) W hb hB M_ z).mono;rintro e w' ⟨z,rfl,ho,q,hk⟩;refine⟨z,b++fI n,rfl,?_,by rw[a8_];have:=Qn n;omega,by rw[a8_];have:=XT r y;omega,q.os,q.tape,q.output,q.size,λk z y=>?_⟩
 .unfold yv;rw[yH,a8_];have r:(fI n).size=(Lib.itoa n).length:=by unfold fI;show(Lib.itoa n).toArray.size=_;rw[List.size_toArray]
  rw[r];exact ho
 .by_cases r:k<B
  .exact q.block k r
  .have q:W.heap[k]?=some W.heap[k]:=Array.getElem?_eq_getElem z;rw[q];refine hk k _ q (by simp) (λc r e=>y ⟨M_,c,r,by rw[q,e]⟩)
section
variable {w:World} {B:Nat} {u:Value} {b:BA}
def Fw{t:Bool}(hb:yv w B u b)(hB:B<=w.heap.size)(hs:b.size<=100000000):Calls prog 54 #[u,.bool t] w (ym w B (b.size+1) (b.size+1)):=by
 refine hq_ λg r=>?_;replace hb:=zy hb;cases t
 .go_in;go_wp2_with (at_builtin;refine jG rfl _ _ rfl 70 rfl D_ hb hs hB rfl rfl rfl ?_;intro q y g h);try go_ret
  rw[r.o];exact⟨q,_,rfl,g,Nat.le_of_eq (sz1 _ _).symm,Nat.le_of_eq (sz1 _ _),h⟩
 .go_in;go_wp2_with (at_builtin;refine jG rfl _ _ rfl 84 rfl D_ hb hs hB rfl rfl rfl ?_;intro q y g h);try go_ret
  rw[r.o];exact⟨q,_,rfl,g,Nat.le_of_eq (sz1 _ _).symm,Nat.le_of_eq (sz1 _ _),h⟩
def ZF{c:Nat}{y:Int}(hy:y=(c:Int))(hc:c<256)(q:tx.size<=4000)(hb:yv w B u b)(hB:B<=w.heap.size)(hs:b.size<=90000000):Calls prog 56 #[u,.int .u8 y,.string tx] w (ym w B (b.size+1) (b.size+4002)):=by
 subst hy;refine hq_ λg z=>?_;replace hb:=zy hb;have g:(b++bts [c]).size<=90000001:=by rw[a8_,vY];simp only[av_];omega
 have g:(b++bts [c]++tx).size<=90004001:=by rw[a8_];omega
 go_in;go_wp2_with (first
  |(at_builtin;refine jG rfl _ _ rfl c rfl hc hb M_ hB rfl rfl rfl ?_;intro g g g h;have r:=h.size;replace g:=zy g;replace h:=zy h)
  |(at_builtin;refine Kp rfl _ _ rfl g M_ q M_ rfl rfl ?_;intro q q r q;have C:=q.size;replace r:=zy r;replace q:=zy q)
  |(at_builtin;refine jG rfl _ _ rfl c rfl hc r M_ M_ rfl rfl rfl ?_;intro C g g r))
 try go_ret
 rw[z.o];refine⟨C,_,rfl,g,?_,?_,(h.o.trans q).trans r⟩<;>rw[sz1,a8_,sz1]<;>omega
def JJ{n:Nat}(hb:yv w B u b)(hB:B<=w.heap.size)(hs:b.size<=100000000):Calls prog 84 #[u,I_ n] w (ym w B b.size (b.size+1)):=by
 refine hq_ λg g=>?_;replace hb:=zy hb;by_cases hn:n=0
 .subst hn;go_in;go_wp2;try go_ret
  rw[g.o];exact⟨u,b,rfl,hb,l_,M_,FrU.refl w⟩
 .have h:((n:Int)==0)=false:=by simp;omega
  go_in;go_wp2_with (at_builtin;refine jG rfl _ _ rfl 44 rfl D_ hb hs hB rfl rfl rfl ?_;intro r h h q);try go_ret
  rw[g.o];exact⟨r,_,rfl,h,by rw[sz1];omega,Nat.le_of_eq (sz1 _ _),q⟩
end
def eC(w0:World)(env:Nat->Option PB)(m:Nat):Prop:=∀(d:DT),ndT d<=m->∀(w:World) (P:Nat->Prop) (B:Nat) (t:PT) (v u:Value) (b:BA),DaV env w P d t v->(∀g,P g->g<B)->w0.heap.size<=B->B<=w.heap.size->yg w0 w->yv w B u b->b.size+8022*ndT d<=90000000->
 Calls prog 32 #[u,v] w (ym w B (b.size+1) (b.size+8022*ndT d-4011))
def tY(d:DT):1<=ndT d:=by obtain⟨_,_,_,_,_⟩:=d;unfold ndT;omega
def yg.fru{w0 w w':World}{B:Nat}(h:yg w0 w)(hf:FrU B w w')(h0:w0.heap.size<=B)(hB:B<=w.heap.size):yg w0 w':=h.fr hf.all M_ (λg e=>M_)
section
variable {w0 w:World} {env:Nat->Option PB} {m:Nat} {P:Nat->Prop} {B:Nat} {u:Value} {b:BA} {t:PT}
def PZ(Z:eC w0 env m){ds:List DT}{o c:Nat}{y z:Int}(hy:y=(o:Int))(hz:z=(c:Int))(C:o<256)(V:c<256)(hm:yc ds<=m)(hP:∀g,P g->g<B)(h0:w0.heap.size<=B)(hB:B<=w.heap.size)(J:yg w0 w)(hu:yv w B u b)(hs:b.size+8022*(1+yc ds)<=90000000)(ho:w.ownsRow 0 59 1 (.slice la ds.length lc) ds.length ((List.range ds.length).flatMap λi=>[Y i]))(hl:∀g,(Value.slice la ds.length lc).ownBlock=some g->P g)(hd:∀i d,ds[i]?=some d->DaV env w P d (xQ env t 0 i) (Y i)):Calls prog 57 #[u,.int .u8 y,.slice la ds.length lc,.int .u8 z] w (ym w B (b.size+1) (b.size+8022*yc ds+2)):=by
 subst hy;subst hz;refine hq_ λr O=>?_;have r:=mo ds;have start:H_ (∀(D:Value) (W:World),yv W B D (b++bts [o])->FrU B w W->∃q:Nat,Value.int .i64 0=I_ q/\q<=ds.length/\ds.length+1-q<=ds.length+1/\(∃r,yv W B D r/\b.size+1<=r.size/\r.size<=b.size+1+8022*yc (ds.take q))/\FrU B w W):=zy λD W h1 F=>⟨0,rfl,al_ _,M_,⟨_,h1,by rw[sz1];omega,by rw[sz1];omega⟩,F⟩;replace ho:=zy ho;replace hd:=zy hd;replace hl:=zy hl;replace hP:=zy hP;replace hu:=zy hu;replace J:=zy J;go_in;go_wp2_with (at_builtin;refine jG rfl _ _ rfl o rfl C hu M_ hB rfl rfl rfl ?_;intro I K C G;have H:=zy (start.o I K C G));go_loopg [0,9,10,17] (ds.length+1) (λm C G G v W=>∃q:Nat,v=I_ q/\q<=ds.length/\ds.length+1-q<=m/\(∃r,yv W B C r/\b.size+1<=r.size/\r.size<=b.size+1+8022*yc (ds.take q))/\FrU B w W);case atStart=>exact H
 case round=>
  obtain⟨q,rfl,C,C,⟨r,G,U,M⟩,C⟩:=hrel;have H:=C.size;by_cases L:q<ds.length
  .have X:(q:Int)<(ds.length:Int):=M_;have I:ds[q]?=some ds[q]:=af_ L;generalize ds[q]=d at I;obtain⟨N,t2⟩:=lE I;have H:=tY d;obtain⟨g,cap,H⟩:=zm ho M_;cases H;have hv:=hd.o q d I;obtain⟨T,x,hx⟩:=hv.iface;rw[hx]at hv;have K:∀g,P g->¬B<=g:=λg h=>by have:=hP.o g h;omega
   have H:wr.cell? ⟨g,q,none⟩=some (.iface T x):=by
    rw[<- hx];exact sY (zj ho C.all (λg e=>K g (hl.o g e))) L
   have R:=zy (JJ (n:=q) G M_ M_);have S:H_ (∀D w1 H,yv w1 B D H->r.size<=H.size->H.size<=r.size+1->FrU B wr w1->Calls prog 32 #[D,.iface T x] w1 (ym w1 B (b.size+1) (b.size+1+8022*yc (ds.take (q+1))))):=zy (λD w1 H h1 l1 l2 F=>by
    have r:=F.size
    have r:=C.trans F
    apply(Z d M_ w1 P B _ _ _ _ (hv.fr r.all K) hP h0 M_ (J.o.fru r h0 hB) h1 M_).mono
    rintro e w' ⟨Z,r,h1,F,J,J,J⟩
    exact⟨Z,r,h1,F,M_,by rw[N];omega,J⟩)
   have r:q<=90000000:=M_;replace C:=zy C;replace I:=zy I;replace G:=zy G;go_wp2_with (first
    |(go_at_call 84;apply R.o.mono;rintro e w1 ⟨D,H,rfl,D,l1,l2,r⟩;revert D l1 l2 r;refine g_ λD l1 l2 r=>?_)
    |(go_at_call 32;apply(S.o _ _ _ D l1 l2 r).mono;rintro e D ⟨D,c2,rfl,D,H,I,F⟩;revert D H I F;refine g_ λD H I F=>?_))
   go_roundg (ds.length+1-(q+1));case measure=>omega
   case rel=>exact⟨q+1,by simp,L,l_,⟨c2,D,H,I⟩,(C.o.trans r).trans F⟩
  .have X:¬((q:Int)<(ds.length:Int)):=M_;rw[bv_ M_]at M;replace C:=zy C;replace G:=zy G;go_wp2_with (at_builtin;refine jG rfl _ _ rfl c rfl V G M_ M_ rfl rfl rfl ?_;intro r r r D);try go_ret
   rw[O.o];exact⟨_,_,rfl,r,by rw[sz1];omega,by rw[sz1];omega,C.o.trans D⟩
end
def aW{a:Act}{K:Act->World->Prop}(s x:Operand)(ho:o.op=.call { callee:=.builtin .append,args:=#[s,x],argTypes:=#[97,97] }){B g:Nat}{w W:World}{v:Value}{b:BA}{y:Int}(c:Nat)(hy:y=(c:Int))(hc:c<256)(hb:yv w B v b)(q:b.size<=100000000)(hB:B<=w.heap.size)(hg:g=w.heap.size)(hs:a.eval s=v)(hx:a.eval x=S_ g 1 1)(r:W=w.alloc (.cells #[.int .u8 y] 5))(h:∀q w',yv w' B q (b++bts [c])->FrU B w w'->K (a.put o.dst q) w'):o.wp prog a W K Q:=by
 subst hy;subst r;obtain⟨ti,z,C,D,F⟩:=info_parts Wf;obtain⟨H,q,hr,G,r,_,_⟩:=run_append_own_at (P:=prog) (w.alloc (.cells #[U_ c] 5)) B 97 o.type 5 ti _ 1 1 Zl z C D F rfl D_ _ b.size (Lib.strCells b) (World.ownsRow.alloc hb _) ⟨g,0,none⟩ 1 1 [U_ c] rfl (zN _ #[U_ c] _ _ hg) (by simp[Value.oneCell']) (by unfold maxLen;omega) M_ (by simp;omega);unfold Oper.wp execOp;simp only[ho,resolve,invoke,builtin,Sem.run_bind,Sem.run_pure,Result.andThen_ok,List.map_toArray,aw_,bd_,hs,hx,hr];refine h H q ?_ ?_
 .unfold yv;rw[yH,jC hc,a8_,vY];exact G
 .exact Fr.mono (((A_ w _).alloc _).gw r (λk hk _=>hk):Fr w q (λg=>v.ownBlock=some g)) (λg _ e=>hb.u8 e)
def KM{a:Act}{K:Act->World->Prop}(s x:Operand)(ho:o.op=.call { callee:=.builtin .append,args:=#[s,x],argTypes:=#[97,9] }){B:Nat}{w:World}{v:Value}{b t:BA}(hb:yv w B v b)(hsz:b.size<=100000000)(ht:t.size<=4000)(hB:B<=w.heap.size)(hs:a.eval s=v)(hx:a.eval x=.string t)(h:∀v' w',yv w' B v' (b++t)->FrU B w w'->K (a.put o.dst v') w'):o.wp prog a w K Q:=by
 have cc1:=trivial
 exact cq26_
section
variable {w0 w:World} {env:Nat->Option PB} {m:Nat} {P:Nat->Prop} {B:Nat} {u:Value} {b:BA} {t:PT}
def Bh(ih:eC w0 env m){ks:List BA}{ds:List DT}(hm:yc ds<=m)(hP:∀g,P g->g<B)(h0:w0.heap.size<=B)(hB:B<=w.heap.size)(U:yg w0 w)(hu:yv w B u b)(hs:b.size+8022*(1+yc ds)<=90000000)(hk:∀k∈ks,k.size<=4000)(ho:w.ownsRow 0 234 2 (.slice la ds.length lc) ds.length ((List.range ds.length).flatMap λi=>[.string (ks.getD i noB),Y i]))(hl:∀g,(Value.slice la ds.length lc).ownBlock=some g->P g)(hd:∀i d,ds[i]?=some d->DaV env w P d (xQ env t 0 i) (Y i)):Calls prog 58 #[u,.slice la ds.length lc] w (ym w B (b.size+1) (b.size+8022*yc ds+2)):=by
 refine hq_ λr Q_=>?_;have r:=mo ds;have start:H_ (∀(z:Value) (W:World),yv W B z (b++bts [123])->FrU B w W->∃q:Nat,Value.int .i64 0=I_ q/\q<=ds.length/\ds.length+1-q<=ds.length+1/\(∃r,yv W B z r/\b.size+1<=r.size/\r.size<=b.size+1+8022*yc (ds.take q))/\FrU B w W):=zy λz W h1 F=>⟨0,rfl,al_ _,M_,⟨_,h1,by rw[sz1];omega,by rw[sz1];omega⟩,F⟩;replace ho:=zy ho;replace hd:=zy hd;replace hl:=zy hl;replace hP:=zy hP;replace hu:=zy hu;replace U:=zy U;replace hk:=zy hk;go_in;go_wp2_with (at_builtin;refine jG rfl _ _ rfl 123 rfl D_ hu M_ hB rfl rfl rfl ?_;intro I J D G;have H:=zy (start.o I J D G));go_loopg [0,5,6,12] (ds.length+1) (λm D I v6 v W=>∃q:Nat,v=I_ q/\q<=ds.length/\ds.length+1-q<=m/\(∃r,yv W B D r/\b.size+1<=r.size/\r.size<=b.size+1+8022*yc (ds.take q))/\FrU B w W);case atStart=>exact H
 case round=>
  obtain⟨q,rfl,D,D,⟨r,H,a2,a0⟩,G⟩:=hrel;have D:=G.size;by_cases Z:q<ds.length
  .have a3:(q:Int)<(ds.length:Int):=M_;have M:ds[q]?=some ds[q]:=af_ Z;generalize ds[q]=d at M;obtain⟨t1,t2⟩:=lE M;have D:=tY d;obtain⟨K,D⟩:=x_ (ks.getD q noB);have a1:K.size<=4000:=by
    rw[<- D,ap_];cases I:ks[q]? with
    |none=>exact al_ _
    |some y=>exact hk.o y (aj_ I)
   obtain⟨g,cap,I⟩:=zm ho M_;cases I;have hv:=hd.o q d M;obtain⟨T,x,hx⟩:=hv.iface;rw[hx]at hv;have X:∀g,P g->¬B<=g:=λg h=>by have:=hP.o g h;omega
   obtain⟨I,O⟩:=JC (K:=λi=>ks.getD i noB) (zj ho G.all (λg e=>X g (hl.o g e))) Z;rw[hx]at O;simp only[D]at I;obtain⟨J,N⟩:=e_ (wr.alloc (.cells #[.string K,.iface T x] 234));have L:Fr wr J N_:=N▸(A_ wr _).alloc _;have R:Blk J wr.heap.size [.string K,.iface T x] 234:=N▸B_ wr #[.string K,.iface T x] 234;have D:=L.size;have V:∀W,Fr J W N_->Calls prog 84 #[u0,I_ q] W (λe w'=>∃z C,e=.returned z/\H_ (yv w' B z C/\FrU B w w'/\Blk w' wr.heap.size [.string K,.iface T x] 234/\r.size<=C.size/\C.size<=r.size+1)/\w'.cell? ⟨wr.heap.size,0,none⟩=some (.string K)):=by
    intro W S;have hz:=S.size;apply(JJ (n:=q) (yv.fr (yv.fr H L u_) S u_) M_ M_).mono;rintro e w1 ⟨z,C,rfl,D,l1,l2,I⟩;have F:=I.bl (S.bl R (λf=>f)) D_;refine⟨z,C,rfl,zy ⟨D,G.trans (((FrU.of L).trans (FrU.of S)).trans I),F,l1,l2⟩,?_⟩;rw[F.cell 0];rfl
   have S:∀W z C,r.size<=C.size/\C.size<=r.size+1->yv W B z ((C++K)++bts [58])->FrU B w W->Calls prog 32 #[z,.iface T x] W (ym W B (b.size+1) (b.size+1+8022*yc (ds.take (q+1)))):=by
    intro W z C hC D I;have hz:=I.size;have a4:(C++K++bts [58]).size=C.size+K.size+1:=by rw[sz1,a8_]
    apply(ih d M_ W P B _ _ z _ (hv.fr I.all X) hP h0 M_ (U.o.fru I h0 hB) D M_).mono;rintro e w' ⟨v',I,h1,F,U,U,U⟩;exact⟨v',I,h1,F,M_,by rw[t1];omega,U⟩
   have r:q<=90000000:=M_;replace V:=zy V;replace S:=zy S;replace G:=zy G;replace M:=zy M;replace H:=zy H;replace L:=zy L;replace R:=zy R;go_wp2;rw[<- N];replace N:=zy N;refine tR_ (λW=>f_ W wr.heap.size 0 (.string K)) ?_;refine tY_ 0 ?_;refine tY_ 1 ?_;refine tY_ 3 ?_;refine tY_ 4 ?_;refine zL 2 rfl K_ (by have:=R.o.cell 0;exact this) (λF r=>?_);go_simp;apply(V.o _ ((A_ J _).drew)).mono;rintro e w1 ⟨z,C,rfl,D,c1⟩;have M:=zy D.o.2.2.2;have z:C.size<=90000001:=by have:=M.o;omega
   have z:(C++K).size<=90004001:=by rw[a8_];omega
   refine r _ _ ?_;refine zL 5 rfl K_ c1 (λF r=>?_);rw[i_ (show Region.wanted _ _=true by kernel_rfl)];refine KM _ _ rfl D.o.1 M_ a1 (ak_ hB D.o.2.1.size) rfl rfl ?_;intro v6 N J L;refine r _ _ ?_;have z:=L.bl D.o.2.2.1 D_;have R:=z.c0;have U:=z.c1;have I:=zy (D.o.2.1.trans L);replace J:=zy J;replace z:=zy z;refine tY_ 6 ?_;refine yh K_ R ?_ _;go_wp2;refine tR_ (λW=>f_ W wr.heap.size 1 (.iface T x)) ?_;refine tY_ 0 ?_;refine tY_ 3 ?_;refine tY_ 4 ?_;refine zL 1 rfl K_ U (λF r=>?_);go_simp;refine r _ _ ?_;have L:=I.o.size;have R:=(z.o.alloc (.cells #[.int .u8 58] 5));have D:=R.c1;refine zL 2 rfl K_ D (λF r=>?_);rw[i_ (show Region.wanted _ _=true by kernel_rfl)];refine aW _ _ rfl 58 rfl D_ (w:=N.drew) (yv.si J (zq.drew _)) M_ (ak_ hB L) rfl rfl rfl rfl ?_;intro D D U L;refine r _ _ ?_;have J:=I.o.drew.trans L;have D:=L.bl ((((A_ N N_).drew)).bl z id) D_;have z:=D.c1;refine zL 5 rfl K_ z (λF r=>?_);go_simp;apply(S.o _ _ _ M U J).mono;rintro e z ⟨z,c9,rfl,z,O,N,M⟩;refine r _ _ ?_;have F:=(M.bl D D_).c1;have r:=zy (J.trans M);revert z O N;refine h_ λz O N=>?_;refine tY_ 6 ?_;refine yh K_ F ?_ _;go_wp2;go_roundg (ds.length+1-(q+1));case measure=>omega
   case rel=>exact⟨q+1,by simp,Z,l_,⟨c9,z,O,N⟩,r⟩
  .have a3:¬((q:Int)<(ds.length:Int)):=M_;rw[bv_ M_]at a0;replace G:=zy G;replace H:=zy H;go_wp2_with (at_builtin;refine jG rfl _ _ rfl 125 rfl D_ H M_ M_ rfl rfl rfl ?_;intro r r r z);try go_ret
   rw[Q_.o];exact⟨_,_,rfl,r,by rw[sz1];omega,by rw[sz1];omega,G.o.trans z⟩
end
section
variable {w0 w:World} {env:Nat->Option PB} {m:Nat} {P:Nat->Prop} {B:Nat} {u:Value} {b:BA} {t:PT}
def KA(L:eC w0 env m)(J:jk w0){n:Nat}(hn:n<=4000){d:DT}{v:Value}(hm:ndT d<=m)(hv:DaV env w P d (xQ env t n 0) v)(hP:∀g,P g->g<B)(h0:w0.heap.size<=B)(hB:B<=w.heap.size)(G:yg w0 w)(hu:yv w B u b)(hs:b.size+8022*(1+ndT d)<=90000000):Calls prog 59 #[u,.agg #[I_ n,v]] w (ym w B (b.size+1) (b.size+8022*(1+ndT d)-4011)):=by
 refine hq_ λq M=>?_;obtain⟨T,x,rfl⟩:=hv.iface;have q:=tY d;have K:∀g,P g->¬B<=g:=λg h=>by have:=hP g h;omega
 obtain⟨y,D⟩:=e_ (w.alloc (.cells #[I_ n,.iface T x] 148));have z:Fr w y N_:=D▸(A_ w _).alloc _;have C:Blk y w.heap.size [I_ n,.iface T x] 148:=D▸B_ w #[I_ n,.iface T x] 148;have O:=z.size;have I:yv y B u b:=yv.fr hu z u_;have q:=sz1 b 60;have H:∀W q,yv W B q (b++bts [60])->FrU B w W->Calls prog 55 #[q,I_ n,z_ 10] W (ym W B ((b++bts [60]).size+1) ((b++bts [60]).size+21)):=λW q h1 r=>J W B h0 (by have:=r.size;omega) (G.fru r h0 hB) q _ (n:Int) M_ M_ h1 M_;have F:∀W q c,b.size<=c.size/\c.size<=b.size+22->yv W B q (c++bts [58])->FrU B w W->Calls prog 32 #[q,.iface T x] W (ym W B (b.size+1) (b.size+8022*ndT d-3980)):=λW q c hc h1 r=>by
  have N:=sz1 c 58;apply(L d hm W P B _ _ q _ (hv.fr r.all K) hP h0 (by have:=r.size;omega) (G.fru r h0 hB) h1 M_).mono;rintro e w' ⟨R,q,h1,r,N,N,N⟩;exact⟨R,q,h1,r,M_,M_,N⟩
 replace H:=zy H;replace F:=zy F;have G:=zy (FrU.of (B:=B) z);replace z:=zy z;have c0:=C.c0;replace C:=zy C;replace I:=zy I;replace D:=zy D;go_in;go_wp2;rw[<- D.o];refine tR_ (λW=>f_ W w.heap.size 0 (I_ n)) ?_;refine tY_ 0 ?_;refine tY_ 3 ?_;refine tY_ 4 ?_;refine zL 1 rfl K_ c0 (λr q=>?_);go_simp;refine q _ _ ?_;have z:=(C.o.alloc (.cells #[.int .u8 60] 5)).c0;refine zL 2 rfl K_ z (λr q=>?_);rw[i_ (show Region.wanted _ _=true by kernel_rfl)];refine aW _ _ rfl 60 rfl D_ (w:=y.drew) (yv.si I (zq.drew _)) M_ (ak_ hB O) rfl rfl rfl rfl ?_;intro z z J I;refine q _ _ ?_;have D:=G.o.drew.trans I;have z:=I.bl ((((A_ y N_).drew)).bl C id) D_;have y:=z.c0;refine zL 5 rfl K_ y (λr q=>?_);go_simp;apply(H.o _ _ J D).mono;rintro e K ⟨y,c3,rfl,G,l1,l2,H⟩;have O:b.size<=c3.size/\c3.size<=b.size+22:=M_;refine q _ _ ?_;have y:=H.bl z D_;have L:=y.c0;have N:=y.c1;have C:=zy (D.trans H);replace G:=zy G;replace y:=zy y;refine tY_ 6 ?_;refine yh K_ L ?_ _;go_wp2;refine tR_ (λW=>f_ W w.heap.size 1 (.iface T x)) ?_;refine tY_ 0 ?_;refine tY_ 3 ?_;refine tY_ 4 ?_;refine zL 1 rfl K_ N (λr q=>?_);go_simp;refine q _ _ ?_;have D:=C.o.size;have z:=(y.o.alloc (.cells #[.int .u8 58] 5)).c1;refine zL 2 rfl K_ z (λr q=>?_);rw[i_ (show Region.wanted _ _=true by kernel_rfl)];refine aW _ _ rfl 58 rfl D_ (w:=K.drew) (yv.si G (zq.drew _)) M_ (ak_ hB D) rfl rfl rfl rfl ?_;intro z z H G;refine q _ _ ?_;have D:=C.o.drew.trans G;have z:=G.bl ((((A_ K N_).drew)).bl y id) D_;have y:=z.c1;refine zL 5 rfl K_ y (λr q=>?_);go_simp;apply(F.o _ _ _ O H D).mono;rintro e y ⟨y,c9,rfl,y,F,F,F⟩;refine q _ _ ?_;have r:=(F.bl z D_).c1;have q:=D.trans F;have I:=q.size;replace q:=zy q;replace y:=zy y;refine tY_ 6 ?_;refine yh K_ r ?_ _;go_wp2_with (at_builtin;refine jG rfl _ _ rfl 62 rfl D_ y M_ M_ rfl rfl rfl ?_;intro r r r y);try go_ret
 rw[M.o];exact⟨_,_,rfl,r,by rw[sz1];omega,by rw[sz1];omega,q.o.trans y⟩
end
set_option maxRecDepth 100000
set_option linter.defProp false
@[go_sem]def WJ:=yB 134 59
@[go_sem]def Gb:=vv 134 59 (.agg #[])
section
variable {w0 w:World} {env:Nat->Option PB} {m:Nat} {P:Nat->Prop} {B:Nat} {u:Value} {b:BA} {t:PT}
def aC(hB:B<=w.heap.size)(hu:yv w B u b)(hs:b.size+8022<=90000000):Calls prog 32 #[u,.iface 134 (.agg #[])] w (ym w B (b.size+1) (b.size+4011)):=by
 refine hq_ λg g=>?_;have A:Fr w (w.alloc (.cells #[] 134)) N_:=(A_ w _).alloc _;have h:=zy (yv.fr hu A u_);have hz:=A.size;replace A:=zy A;go_in;go_wp2_with (at_builtin;refine jG rfl _ _ rfl 78 rfl D_ h M_ M_ (by simp) rfl rfl ?_;intro h h h q);try go_ret
 rw[g.o];exact⟨_,_,rfl,h,by rw[sz1];omega,by rw[sz1];omega,(FrU.of A).trans q⟩
def Ja{c:Bool}(hB:B<=w.heap.size)(hu:yv w B u b)(hs:b.size+8022<=90000000):Calls prog 32 #[u,.iface 135 (.bool c)] w (ym w B (b.size+1) (b.size+4011)):=by
 refine hq_ λg g=>?_;have h:=zy (Fw (t:=c) hu hB M_);go_in;go_wp2_with (go_at_call 54;apply h.o.mono;rintro e w1 h1;replace h1:=zy h1;obtain⟨h,_,rfl,_⟩:=h1.o);try go_ret
 rw[g.o];exact h1.o.wide M_
def Fj(g:jk w0){c:Nat}{n:Int}(hc:c=105\/c=108)(y : -9223372036854775808<=n)(z:n<=9223372036854775807)(h0:w0.heap.size<=B)(hB:B<=w.heap.size)(h:yg w0 w)(hu:yv w B u b)(hs:b.size+8022<=90000000):Calls prog 32 #[u,.iface 137 (z_ n)] w (ym w B (b.size+1) (b.size+4011)):=by
 refine hq_ λq q=>?_;have r:=zy (g w B h0 hB h u b n y z hu M_);go_in;go_wp2_with (go_at_call 55;apply r.o.mono;rintro e w1 h1;replace h1:=zy h1;obtain⟨g,_,rfl,_⟩:=h1.o);try go_ret
 rw[q.o];exact h1.o.wide M_
def cq25_{p:Prop}(h:p:=by
 refine hq_ λr q=>?_;(first|(have:=cc1;have g:=zy (ZF (c:=39) (y:=39) rfl D_ ht hu hB M_))|(have g:=zy (ZF (c:=34) (y:=34) rfl D_ ht hu hB M_)));clear hu;go_in;go_wp2_with (go_at_call 56;apply g.o.mono;rintro e w1 h1;replace h1:=zy h1;obtain⟨z,_,rfl,_⟩:=h1.o);try go_ret
 rw[q.o];exact h1.o.wide M_):p:=h
def KR(ht:tx.size<=4000)(hB:B<=w.heap.size)(hu:yv w B u b)(hs:b.size+8022<=90000000):Calls prog 32 #[u,.iface 139 (.string tx)] w (ym w B (b.size+1) (b.size+4011)):=by
 exact cq25_
def Jo(ht:tx.size<=4000)(hB:B<=w.heap.size)(hu:yv w B u b)(hs:b.size+8022<=90000000):Calls prog 32 #[u,.iface 153 (.string tx)] w (ym w B (b.size+1) (b.size+4011)):=by
 have cc1:=trivial
 exact cq25_
def Fv{n l:Nat}(hl:sk env t n=l)(r:l<256)(hB:B<=w.heap.size)(hu:yv w B u b)(hs:b.size+8022<=90000000):Calls prog 32 #[u,.iface 152 (.agg #[.int .u8 (l:Int),.int .i64 (n:Int)])] w (ym w B (b.size+1) (b.size+4011)):=by
 refine hq_ λz g=>?_;have A:Fr w (w.alloc (.cells #[.int .u8 (l:Int),.int .i64 (n:Int)] 152)) (λ_=>False):=(A_ w _).alloc _;have y:=zy (yv.fr hu A u_);have hz:=A.size;replace A:=zy A;clear hu hl;go_in;go_wp2_with (at_builtin;refine jG rfl _ _ rfl l rfl r y.o M_ M_ (by simp) rfl rfl ?_;intro C D h q);try go_ret
 rw[g.o];exact⟨_,_,rfl,h,by rw[sz1];omega,by rw[sz1];omega,(FrU.of A.o).trans q⟩
def cq23_{p:Prop}(h:p:=by
 refine hq_ λr q=>?_;(first|(have:=cc1;have g:=zy (PZ ih (t:=t) (o:=40) (c:=41) (y:=40) (z:=41) rfl rfl D_ D_ hm hP h0 hB hG hu hs ho hl hd))|(have g:=zy (PZ ih (t:=t) (o:=91) (c:=93) (y:=91) (z:=93) rfl rfl D_ D_ hm hP h0 hB hG hu hs ho hl hd)));clear ih hP hu ho hl hd hG;go_in;go_wp2_with (go_at_call 57;apply g.o.mono;rintro e w1 h1;replace h1:=zy h1;obtain⟨C,_,rfl,_⟩:=h1.o);try go_ret
 rw[q.o];exact h1.o):p:=h
def KS(ih:eC w0 env m){ds:List DT}(hm:yc ds<=m)(hP:∀g,P g->g<B)(h0:w0.heap.size<=B)(hB:B<=w.heap.size)(hG:yg w0 w)(hu:yv w B u b)(hs:b.size+8022*(1+yc ds)<=90000000)(ho:w.ownsRow 0 59 1 (.slice la ds.length lc) ds.length ((List.range ds.length).flatMap λi=>[Y i]))(hl:∀g,(Value.slice la ds.length lc).ownBlock=some g->P g)(hd:∀i d,ds[i]?=some d->DaV env w P d (xQ env t 0 i) (Y i)):Calls prog 32 #[u,.iface 142 (.slice la ds.length lc)] w (ym w B (b.size+1) (b.size+8022*yc ds+2)):=by
 exact cq23_
def KN(ih:eC w0 env m){ds:List DT}(hm:yc ds<=m)(hP:∀g,P g->g<B)(h0:w0.heap.size<=B)(hB:B<=w.heap.size)(hG:yg w0 w)(hu:yv w B u b)(hs:b.size+8022*(1+yc ds)<=90000000)(ho:w.ownsRow 0 59 1 (.slice la ds.length lc) ds.length ((List.range ds.length).flatMap λi=>[Y i]))(hl:∀g,(Value.slice la ds.length lc).ownBlock=some g->P g)(hd:∀i d,ds[i]?=some d->DaV env w P d (xQ env t 0 i) (Y i)):Calls prog 32 #[u,.iface 150 (.slice la ds.length lc)] w (ym w B (b.size+1) (b.size+8022*yc ds+2)):=by
 have cc1:=trivial
 exact cq23_
def Fq(q:eC w0 env m){ks:List BA}{ds:List DT}(hm:yc ds<=m)(hP:∀g,P g->g<B)(h0:w0.heap.size<=B)(hB:B<=w.heap.size)(h:yg w0 w)(hu:yv w B u b)(hs:b.size+8022*(1+yc ds)<=90000000)(hk:∀k∈ks,k.size<=4000)(ho:w.ownsRow 0 234 2 (.slice la ds.length lc) ds.length ((List.range ds.length).flatMap λi=>[.string (ks.getD i noB),Y i]))(hl:∀g,(Value.slice la ds.length lc).ownBlock=some g->P g)(hd:∀i d,ds[i]?=some d->DaV env w P d (xQ env t 0 i) (Y i)):Calls prog 32 #[u,.iface 145 (.slice la ds.length lc)] w (ym w B (b.size+1) (b.size+8022*yc ds+2)):=by
 refine hq_ λr r=>?_;have y:=zy (Bh q (t:=t) hm hP h0 hB h hu hs hk ho hl hd);go_in;go_wp2_with (go_at_call 58;apply y.o.mono;rintro e w1 h1;replace h1:=zy h1;obtain⟨h,_,rfl,_⟩:=h1.o);try go_ret
 rw[r.o];exact h1
def YS(r:eC w0 env m)(h:jk w0){n:Nat}(hn:n<=4000){d:DT}{v:Value}(hm:ndT d<=m)(hv:DaV env w P d (xQ env t n 0) v)(hP:∀g,P g->g<B)(h0:w0.heap.size<=B)(hB:B<=w.heap.size)(q:yg w0 w)(hu:yv w B u b)(hs:b.size+8022*(1+ndT d)<=90000000):Calls prog 32 #[u,.iface 148 (.agg #[I_ n,v])] w (ym w B (b.size+1) (b.size+8022*(1+ndT d)-4011)):=by
 refine hq_ λy y=>?_;obtain⟨T,x,rfl⟩:=hv.iface;have A:Fr w (w.alloc (.cells #[I_ n,.iface T x] 148)) N_:=(A_ w _).alloc _;have hz:=A.size;have z:=zy (KA r h hn hm (hv.fr A u_) hP h0 M_ (q.fr A M_ (λg f=>f.elim)) (yv.fr hu A u_) hs);replace A:=zy A;go_in;go_wp2_with (go_at_call 59;apply z.o.mono;rintro e w1 h1;replace h1:=zy h1;obtain⟨h,_,rfl,_⟩:=h1.o);try go_ret
 rw[y.o];exact h1.o.pre (FrU.of A)
def Fk(q:jk w0):∀m,eC w0 env m:=by
 intro m;induction m with
 |zero=>intro d h;obtain⟨_,_,_,_,_⟩:=d;unfold ndT at h;omega
 |succ m ih=>
  intro d hm w P B t v u b hv hP h0 hB g hu hs;cases hv with
  |flat h hsy=>
   have r:1<=ndT d:=by obtain⟨_,_,_,_,_⟩:=d;unfold ndT;omega
   cases h with
   |nothing=>exact(aC hB hu M_).mono (λe w' h=>h.wide M_)
   |truth b=>exact(Ja hB hu M_).mono (λe w' h=>h.wide M_)
   |num c n hc i0 i1=>exact(Fj q hc i0 i1 h0 hB g hu M_).mono (λe w' h=>h.wide M_)
   |text tx h=>exact(KR h hB hu M_).mono (λe w' h=>h.wide M_)
   |bytes tx h=>exact(Jo h hB hu M_).mono (λe w' h=>h.wide M_)
   |sym n l h=>exact(Fv (hsy n l rfl).1 (hsy n l rfl).2 hB hu M_).mono (λe w' h=>h.wide M_)
  |branch n h hd=>
   unfold ndT at hm hs;simp only[yc,Nat.add_zero]at hm hs;exact(YS ih q h M_ hd hP h0 hB g hu hs).mono (λe w' h=>h.wide (Nat.le_of_eq (by simp[ndT,yc])))
  |row Y hc ho hl hd=>
   unfold ndT at hm hs;obtain⟨la,lc,rfl⟩:=zl ho;rcases hc with⟨rfl,rfl⟩|⟨rfl,rfl⟩
   .exact(KS ih M_ hP h0 hB g hu hs ho hl hd).mono (λe w' h=>h.wide (by unfold ndT;omega))
   .exact(KN ih M_ hP h0 hB g hu hs ho hl hd).mono (λe w' h=>h.wide (by unfold ndT;omega))
  |map Y hl hk ho hl2 hd=>
   unfold ndT at hm hs;obtain⟨la,lc,rfl⟩:=zl ho;exact(Fq ih M_ hP h0 hB g hu hs hk ho hl2 hd).mono (λe w' h=>h.wide (by unfold ndT;omega))
def aF(r:jk w0){d:DT}{v:Value}(hv:DaV env w P d t v)(hk:w0.heap.size<=w.heap.size)(y:yg w0 w)(hs:8022*ndT d<=90000000):Calls prog 16 #[v] w λe w'=>∃tx:BA,0<tx.size/\e=.returned (.string tx)/\Fr w w' N_:=by
 refine hq_ λq z=>?_;obtain⟨T,x,rfl⟩:=hv.iface;have q:=Fk r (ndT d) d l_ w (λg=>P g/\g<w.heap.size) w.heap.size t _ (L_) noB (hv.mono (λg h1 C=>⟨C,h1⟩)) (λg h=>h.2) hk l_ y (World.ownsRow_nil _ _ _ _) (by show 0+_<=_;omega);replace q:=zy q;go_in;go_wp2_with (go_at_call 32;apply q.o.mono;rintro e w1 ⟨q,tx,rfl,h1,l1,_,q⟩;have r:=Qo h1;revert h1 l1 q;refine h_ λh1 l1 q=>?_);try go_ret
 rw[z.o];exact⟨tx,by have:=l1.o;omega,rfl,q.o.all.mono (λg hg e=>M_)⟩
end
section
variable {w w':World} {br:Nat} {sv rv:Value} {s:BA} {i n:Nat}
end
section
variable {w:World} {br:Nat} {sv rv:Value} {s:BA} {i n:Nat} {dt:TypeId} {dx:Value}
end
section
variable {w:World} {br:Nat} {sv rv:Value} {s:BA} {i n:Nat} {dt:TypeId} {dx:Value}
end
structure gR where
 dt:TypeId
 dx:Value
 bt:TypeId
 bx:Value
def gR.t(E:gR)(e:Nat):TypeId:=if e=7 then E.bt else E.dt
def gR.x(E:gR)(e:Nat):Value:=if e=7 then E.bx else E.dx
section
variable {w0 W W':World} {P:Nat->Prop} {ss:BA} {ds:List PD} {sv rv:Value} {xs:List Value} {s:BA} {E:gR} {br i n i' n':Nat}
end
section
variable {env:Nat->Option PB} {t:PT} {w w1 w' W:World} {sv rv:Value} {s:BA} {E:gR} {br j m:Nat} {d:DT} {v:Value} {res:Except Nat (DT×Nat×Nat)} {e:Ending}
end
section
variable {w0 w:World} {P:Nat->Prop} {ss:BA} {ds:List PD} {sv rv:Value} {xs:List Value} {s:BA} {E:gR} {br i n:Nat} {env:Nat->Option PB} {t:PT}
end
section
variable {w0 w W W':World} {P:Nat->Prop} {ss:BA} {ds:List PD} {sv rv:Value} {xs:List Value} {s:BA} {E:gR} {br i n j nn j' nn':Nat} {cx:List Value} {ct:TypeId} {t:PT} {lv:Value} {l:List DT}
end
section
variable {w0 w:World} {P:Nat->Prop} {ss:BA} {ds:List PD} {sv rv:Value} {xs:List Value} {s:BA} {E:gR} {br i n:Nat}
end
section
variable {w0 w W W':World} {P:Nat->Prop} {ss:BA} {ds:List PD} {sv rv:Value} {xs:List Value} {s:BA} {E:gR} {br i n j nn j' nn':Nat} {cx:List Value} {ct:TypeId} {t:PT} {lv:Value} {l:List (BA×DT)}
end
section
variable {w0 w:World} {P:Nat->Prop} {ss:BA} {ds:List PD} {sv rv:Value} {xs:List Value} {s:BA} {E:gR} {br i n:Nat}
end
section
variable {w0 w:World} {P:Nat->Prop} {ss:BA} {ds:List PD} {sv rv:Value} {xs:List Value} {s:BA} {E:gR} {br i n:Nat}
end
section
variable {w0 w:World} {P:Nat->Prop} {ss:BA} {ds:List PD} {sv rv:Value} {xs:List Value} {s:BA} {E:gR} {br i n:Nat}
end
section
variable {w0:World} {P:Nat->Prop} {ss:BA} {ds:List PD} {sv rv:Value} {xs:List Value} {s:BA} {E:gR} {br i n:Nat} {f p:Nat}
end
section
variable {w0:World} {P:Nat->Prop} {ss:BA} {ds:List PD} {sv rv:Value} {xs:List Value} {s:BA} {E:gR} {br i n:Nat} {f p:Nat} {t:PT}
end
open Go.Extern.Stop Go.Stop Go.Extern
def JS(v:Value)(w:World):(Extern.ReflectliteType.typeOf #[.iface 383 v]).run prog w=.ok (.iface 155 (.agg #[.pointer (some ⟨23,383,none⟩)])) w:=by kernel_rfl
def tH:∃M:Array Value->Sem Value,(∀(g:Array Value) (w:World),(callFunc 255 g).run prog w=((M g).run prog w).andThen λv w'=>.ok (.value v) w')/\∀w,(M #[.agg #[.pointer (some ⟨23,383,none⟩)]]).run prog w=.ok (.bool true) w:=
 ⟨Extern.ReflectliteType.method λt=>do Go.Extern.Rtype.noPackHeld "Comparable" t;pure (.bool (<- typeInfo t).comparable),@run_callFunc_extern prog 255 _ (Extern.ReflectliteType.method λt=>do Go.Extern.Rtype.noPackHeld "Comparable" t;pure (.bool (<- typeInfo t).comparable)) func255 K_ K_ K_ K_,λw=>K_⟩
def gK(v:Value)(w:World):(Go.method 525 155 v "Comparable").run prog w=.ok (255,v) w:=by kernel_rfl
def Fm:(Tryz.prog.info? 383).map (·.comparable)=some true:=K_
def Fu:(Tryz.prog.info? 385).map (·.size)=some 1:=K_
def Po(v:Value)(g:TypeId)(w:World):(Instr.typeAssert (.iface 383 v) g 157 true).run prog w=.ok (.tuple #[.nilIface,.bool false]) w:=run_typeAssert_lacksB underlying157 K_ K_ v g w
def YI(v:Value)(g:TypeId)(w:World):(Instr.typeAssert (.iface 383 v) g 159 true).run prog w=.ok (.tuple #[.nilIface,.bool false]) w:=run_typeAssert_lacksB underlying159 K_ K_ v g w
def aL(v:Value)(g:TypeId)(w:World):(Instr.typeAssert (.iface 383 v) g 161 true).run prog w=.ok (.tuple #[.nilIface,.bool false]) w:=run_typeAssert_lacksB underlying161 K_ K_ v g w
def Pa(v:Value)(g:TypeId)(w:World):(Instr.typeAssert (.iface 179 v) g 157 true).run prog w=.ok (.tuple #[.nilIface,.bool false]) w:=run_typeAssert_lacksB underlying157 K_ K_ v g w
def oU(v:Value)(g:TypeId)(w:World):(Instr.typeAssert (.iface 179 v) g 159 true).run prog w=.ok (.tuple #[.iface 179 v,.bool true]) w:=run_typeAssert_hasB underlying159 K_ v g w
def lz(v:Value)(w:World):(Go.method 525 179 v "Unwrap").run prog w=.ok (265,v) w:=by kernel_rfl
def Pe(v:Value)(g:TypeId)(w:World):(Instr.typeAssert (.iface 359 v) g 157 true).run prog w=.ok (.tuple #[.nilIface,.bool false]) w:=run_typeAssert_lacksB underlying157 K_ K_ v g w
def oB(v:Value)(g:TypeId)(w:World):(Instr.typeAssert (.iface 359 v) g 159 true).run prog w=.ok (.tuple #[.iface 359 v,.bool true]) w:=run_typeAssert_hasB underlying159 K_ v g w
def cO(v:Value)(w:World):(Go.method 525 359 v "Unwrap").run prog w=.ok (287,v) w:=by kernel_rfl
inductive ve (W:World) (a:Addr):Nat->Value->Prop
 |leaf:ve W a 0 (.iface 383 (.pointer (some a)))
 |fault (g:Nat) (p:Int) (v:Value) (n:Nat) (hb:Blk W g [.int .i64 p,v] 181) (h:ve W a n v):ve W a (n+1) (.iface 179 (P_ g))
 |within (g:Nat) (tx:BA) (v:Value) (n:Nat) (hb:Blk W g [.string tx,v] 361) (h:ve W a n v):ve W a (n+1) (.iface 359 (P_ g))
def ve.iface{W:World}{a:Addr}{n:Nat}{v:Value}(h:ve W a n v):∃T x,v=.iface T x:=by
 cases h<;>exact⟨_,_,rfl⟩
def Wh{W:World}{a b:Addr}{h q:Array Value}{ta tb:TypeId}(ha:W.heap[a.block]?=some (.cells h ta (0,0)))(hb:W.heap[b.block]?=some (.cells q tb (0,0))){n:Nat}{E:Value}(h:ve W a n E):Calls prog 34 #[E,.iface 383 (.pointer (some b)),.bool true] W λe w'=>e=.returned (.bool (decide (a=b)))/\w'=W:=by
 refine hq_ λq q=>?_;obtain⟨i,hi,r⟩:=b4_.1 Fm;obtain⟨j,y,C⟩:=b4_.1 Fu;have z:=Po;have z:=YI;have z:=aL;have z:=Pa;have z:=oU;have z:=lz;have z:=Pe;have z:=oB;have z:=cO;have start:H_ (∃k,k<n+1/\ve W a k E):=zy ⟨n,M_,h⟩;go_in;go_wp2;go_loopg [0] (n+1) (λm v h=>∃k,k<m/\ve W a k v/\h=W);case atStart=>(obtain⟨k,h1,h⟩:=start.o;exact⟨k,h1,h,rfl⟩)
 case round=>
  obtain⟨k,hk,hc,rfl⟩:=hrel;cases hc with
  |leaf=>
   by_cases h:a=b
   .subst h;have z:=run_eql_iface_ptr_same (P:=prog) wr a underlying32 underlying383 hi r y;go_wp2;rw[q.o];exact⟨by simp,rfl⟩
   .have z:=run_eql_iface_ptr_other (P:=prog) wr underlying32 underlying383 hi r y (by rw[C];decide) h ha hb;go_wp2;rw[q.o];exact⟨by simp[h],rfl⟩
  |fault g p v k' hB h1=>
   have q:=run_eql_iface_types (P:=prog) 179 383 (P_ g) (.pointer (some b)) underlying32 D_ wr;obtain⟨h,r,rfl⟩:=h1.iface;have c1:=hB.c1;replace h1:=zy h1;go_wp2;go_roundg (k'+1);case measure=>omega
   case rel=>exact⟨k',M_,h1,rfl⟩
  |within g tx v k' hB h1=>
   have q:=run_eql_iface_types (P:=prog) 359 383 (P_ g) (.pointer (some b)) underlying32 D_ wr;obtain⟨h,r,rfl⟩:=h1.iface;have c1:=hB.c1;replace h1:=zy h1;go_wp2;go_roundg (k'+1);case measure=>omega
   case rel=>exact⟨k',M_,h1,rfl⟩
def Wt{W:World}{a b:Addr}{g h:Array Value}{ta tb:TypeId}(ha:W.heap[a.block]?=some (.cells g ta (0,0)))(hb:W.heap[b.block]?=some (.cells h tb (0,0))){n:Nat}{E:Value}(g:ve W a n E):Calls prog 18 #[E,.iface 383 (.pointer (some b))] W λe w'=>e=.returned (.bool (decide (a=b)))/\w'=W:=by
 have h:=zy (Wh ha hb g);obtain⟨q,q,rfl⟩:=g.iface;have g:=@run_callFunc_extern prog 33 _ Extern.ReflectliteType.typeOf func33 K_ K_ K_ K_;have g:=JS;obtain⟨g,g,g⟩:=tH;have g:=gK;go_in;go_wp2_with (go_at_call 34;apply h.o.mono;rintro e w' ⟨rfl,rfl⟩);go_ret;exact⟨rfl,rfl⟩
def Yy(b:Addr)(w:World):Calls prog 18 #[.nilIface,.iface 383 (.pointer (some b))] w λe w'=>e=.returned (.bool false)/\w'=w:=by
 have hn:=run_eql_iface_nil_left (P:=prog) w 383 (.pointer (some b)) underlying32;go_in;go_wp2;go_ret;exact⟨rfl,rfl⟩
def gA:List Nat:=[7,0,1,2,3,4,5,6,8,9]
structure xh(A:Nat->Addr)(w:World):Prop where
 var:∀g∈gA,ji g w 383 (.pointer (some (A g)))
 row:∀g∈gA,∃c t,w.heap[(A g).block]?=some (.cells c t (0,0))
 ne:∀g∈gA,∀g'∈gA,g≠g'->A g≠A g'
def xh.fr{A:Nat->Addr}{w w':World}(h:xh A w)(hf:Fr w w' N_):xh A w':=by
 refine⟨λg hg=>(h.var g hg).fr hf id,λg hg=>?_,h.ne⟩;obtain⟨c,t,hr⟩:=h.row g hg;have hl:(A g).block<w.heap.size:=by
  by_cases q:(A g).block<w.heap.size
  .exact q
  .rw[Array.getElem?_eq_none M_]at hr;cases hr
 exact⟨c,t,(hf.block _ hl id).trans hr⟩
def Ql{A:Nat->Addr}{w:World}(S:xh A w){g q n:Nat}{E:Value}(r:q∈gA)(hg:g∈gA)(h:ve w (A q) n E):Calls prog 18 #[E,.iface 383 (.pointer (some (A g)))] w λe w'=>e=.returned (.bool (decide (q=g)))/\w'=w:=by
 obtain⟨c,t,ha⟩:=S.row q r;obtain⟨y,t',hb⟩:=S.row g hg;apply(Wt ha hb h).mono;rintro e w' ⟨rfl,rfl⟩;refine⟨?_,rfl⟩;by_cases e:q=g
 .subst e;simp
 .simp[e,S.ne q r g hg e]
def WI:List (Nat×Int):=[(7,1),(0,2),(1,3),(2,4),(3,5),(4,6),(5,7),(6,8),(8,1),(9,1)]
def jc{A:Nat->Addr}{w:World}(S:xh A w){q n:Nat}{k:Int}{E:Value}(hp:(q,k)∈WI)(r:q∈gA)(h:ve w (A q) n E):Calls prog 9 #[E] w λe w'=>e=.returned (z_ k)/\w'=w:=by
 have q:=zy (λg (hg:g∈gA)=>Ql S r hg h);have V:=zy S.var;have r:=V.o 7 D_;have y:=V.o 0 D_;have z:=V.o 1 D_;have C:=V.o 2 D_;have D:=V.o 3 D_;have F:=V.o 4 D_;have G:=V.o 5 D_;have H:=V.o 6 D_;have I:=V.o 8 D_;have J:=V.o 9 D_;unfold ji at r y z C D F G H I J;obtain⟨r,r,rfl⟩:=h.iface;simp only[WI,ao_,ad_,a9_,or_false]at hp;rcases hp with⟨rfl,rfl⟩|⟨rfl,rfl⟩|⟨rfl,rfl⟩|⟨rfl,rfl⟩|⟨rfl,rfl⟩|⟨rfl,rfl⟩|⟨rfl,rfl⟩|⟨rfl,rfl⟩|⟨rfl,rfl⟩|⟨rfl,rfl⟩;all_goals
  go_in;go_wp2_with (first
   |(go_at_call 18;apply(q.o _ D_).mono;rintro e w' ⟨rfl,rfl⟩)
   |go_in)
  go_ret;exact⟨rfl,rfl⟩
section
variable {A:Nat->Addr} {w:World} {n:Nat} {E:Value}
def kL(S:xh A w)(h:ve w (A 7) n E):Calls prog 9 #[E] w λe w'=>e=.returned (z_ 1)/\w'=w:=jc S D_ D_ h
def qK(S:xh A w)(h:ve w (A 0) n E):Calls prog 9 #[E] w λe w'=>e=.returned (z_ 2)/\w'=w:=jc S D_ D_ h
def kC(S:xh A w)(h:ve w (A 1) n E):Calls prog 9 #[E] w λe w'=>e=.returned (z_ 3)/\w'=w:=jc S D_ D_ h
def kh(S:xh A w)(h:ve w (A 2) n E):Calls prog 9 #[E] w λe w'=>e=.returned (z_ 4)/\w'=w:=jc S D_ D_ h
def vL(S:xh A w)(h:ve w (A 3) n E):Calls prog 9 #[E] w λe w'=>e=.returned (z_ 5)/\w'=w:=jc S D_ D_ h
def fV(S:xh A w)(h:ve w (A 5) n E):Calls prog 9 #[E] w λe w'=>e=.returned (z_ 7)/\w'=w:=jc S D_ D_ h
end
def oF{A:Nat->Addr}{w:World}(S:xh A w):Calls prog 17 #[.nilIface] w λe w'=>e=.returned (.bool false)/\w'=w:=by
 have h:=S.var 7 D_;have q:=S.var 8 D_;have r:=S.var 9 D_;unfold ji at h q r;have g:=Yy;go_in;go_wp2_with (go_at_call 18;apply(g _ _).mono;rintro e w' ⟨rfl,rfl⟩);try go_ret
 exact⟨rfl,rfl⟩
def aU{A:Nat->Addr}{w:World}(S:xh A w):Calls prog 9 #[.nilIface] w λe w'=>e=.returned (O_)/\w'=w:=by
 have q:=S.var 0 D_;have r:=S.var 1 D_;have y:=S.var 2 D_;have z:=S.var 3 D_;have C:=S.var 4 D_;have D:=S.var 5 D_;have F:=S.var 6 D_;unfold ji at q r y z C D F;have g:=Yy;have h:=zy (oF S);go_in;go_wp2_with (first
  |(go_at_call 17;apply h.o.mono;rintro e w' ⟨rfl,rfl⟩)
  |(go_at_call 18;apply(g _ _).mono;rintro e w' ⟨rfl,rfl⟩))
 try go_ret
 exact⟨rfl,rfl⟩
def wa(A:Nat->Addr):lG:=
 ⟨383,.pointer (some (A 7)),383,.pointer (some (A 0)),383,.pointer (some (A 1)),383,.pointer (some (A 2)),383,.pointer (some (A 3))⟩
def xh.errs{A:Nat->Addr}{w:World}(S:xh A w):(wa A).At w:=
 ⟨S.var _ D_,S.var _ D_,S.var _ D_,S.var _ D_,S.var _ D_⟩
def jN.chain{A:Nat->Addr}{w:World}{v:Value}(h:jN w lo (wa A).nt (wa A).nx v):∃n,ve w (A 3) n v:=by
 induction h with
 |base=>exact⟨0,.leaf⟩
 |within g hg tx hb h q=>
  obtain⟨n,q⟩:=q;exact⟨n+1,.within g tx _ n hb q⟩
def jj.fr{E:lG}{w w':World}{a:Int×Int}(h:jj E w lo ev a)(hf:Fr w w' N_):jj E w' lo ev a:=by
 rcases h with h|h|⟨h1,g⟩|⟨h1,g⟩|⟨h1,g⟩|⟨h1,q,g,r⟩
 .exact .inl h
 .exact .inr (.inl h)
 .exact .inr (.inr (.inl ⟨h1,g.fr hf u_⟩))
 .exact .inr (.inr (.inr (.inl ⟨h1,g.fr hf u_⟩)))
 .exact .inr (.inr (.inr (.inr (.inl ⟨h1,g.fr hf u_⟩))))
 .exact .inr (.inr (.inr (.inr (.inr ⟨h1,q,g.fr hf u_,r.fr hf u_⟩))))
def jj.zero{E:lG}{w:World}{a:Int×Int}(h:jj E w lo ev a)(h0:a.1=0):a.2=0/\ev=.nilIface:=by
 rcases h with⟨_,g,q⟩|⟨h1,_⟩|⟨h1,_⟩|⟨h1,_⟩|⟨h1,_⟩|⟨h1,_⟩
 .exact⟨g,q⟩
 all_goals (rw[h1]at h0;exact absurd h0 D_)
def jj.num{A:Nat->Addr}{w:World}{a:Int×Int}(S:xh A w)(h:jj (wa A) w lo ev a)(h0:a.1≠0):∃T x,ev=.iface T x/\Calls prog 9 #[ev] w λe w'=>e=.returned (z_ a.1)/\w'=w:=by
 have key:∀(v:Value) (p:Int) (r:Value),zT w lo v p r->∃T x,v=.iface T x:=λv p r ⟨g,_,h,_⟩=>⟨_,_,h⟩;have y:∀(v:Value) (p:Int) (r:Value) (b:Addr) (n:Nat),zT w lo v p r->ve w b n r->ve w b (n+1) v:=λv p r b n ⟨g,_,h,hb⟩ hc=>h▸.fault g p r n hb hc;rcases h with⟨h1,_⟩|⟨h1,q,z⟩|⟨h1,q⟩|⟨h1,q⟩|⟨h1,q⟩|⟨h1,r,q,z⟩
 .exact absurd h1 h0
 .refine⟨_,_,z,?_⟩;rw[h1,z];exact kL S .leaf
 .obtain⟨T,x,hv⟩:=key _ _ _ q;refine⟨T,x,hv,?_⟩;rw[h1];exact qK S (y _ _ _ _ _ q .leaf)
 .obtain⟨T,x,hv⟩:=key _ _ _ q;refine⟨T,x,hv,?_⟩;rw[h1];exact kC S (y _ _ _ _ _ q .leaf)
 .obtain⟨T,x,hv⟩:=key _ _ _ q;refine⟨T,x,hv,?_⟩;rw[h1];exact kh S (y _ _ _ _ _ q .leaf)
 .obtain⟨T,x,hv⟩:=key _ _ _ q;obtain⟨n,hc⟩:=z.chain;refine⟨T,x,hv,?_⟩;rw[h1];exact vL S (y _ _ _ _ _ q hc)
mutual
def uG:∀t:PT,xJ t->brT false t
 | .leaf _ _,_=>by unfold brT;trivial
 | .wrap _ _ t,h=>by unfold brT;unfold xJ at h;exact uG t h
 | .alts _ l,h=>by unfold brT;unfold xJ at h;exact⟨.inr h.1,eK l h.2⟩
def eK:∀l:List PT,(∀t∈l,xJ t)->lJ false l
 | [],_=>by unfold lJ;trivial
 |t::r,h=>by unfold lJ;exact⟨uG t (h t (b0_ ..)),eK r (λu hu=>h u (List.mem_cons_of_mem _ hu))⟩
end
def kN{s:BA}(hs:s.size<=300){ds:List PD}{t:PT}(h:ze s=.ok (ds,t))(hn:xY ds t=[])(hu:xZ ds t=[]):jy ds/\brE false ds/\brT false t/\okT (zx ds) t/\qU (zx ds):=by
 have g:=(xA h).1 hn;have q:=(xA h).2.1 hu;have hw:wrU (zx ds) (vS ds++zZ t) (jK [] ds (-1))<0:=by rw[g];decide
 have hm:mix t (jP ds (-1))<0:=by rw[q];decide
 obtain⟨g,q,_,_⟩:=pX hs h hw hm;have hg:=(bQ hs h hn hu).1;refine⟨hg,λc fs e f hf=>uG _ ((hg c _ e).1.2.2 f hf),uG t (xO hs h).2.1,q,g⟩
def uj(w:World)(ev:Value)(n:Int):Prop:=∀W,Fr w W N_->Calls prog 9 #[ev] W λe w'=>e=.returned (z_ n)/\w'=W
def uj.fr{w W:World}{n:Int}(h:uj w ev n)(hf:Fr w W N_):uj W ev n:=λV g=>h V (hf.trans g u_)
def jj.numIs{A:Nat->Addr}{w:World}{a:Int×Int}(S:xh A w)(h:jj (wa A) w lo ev a)(h0:a.1≠0):uj w ev a.1:=λW g=>by
 obtain⟨_,_,_,h⟩:=(h.fr g).num (S.fr g) h0;exact h
def jN.numIs{A:Nat->Addr}{w:World}(S:xh A w)(h:jN w lo (wa A).nt (wa A).nx ev):uj w ev 5:=λW g=>by
 obtain⟨n,hc⟩:=(h.fr g u_).chain;exact vL (S.fr g) hc
def lI{A:Nat->Addr}{w:World}(S:xh A w):uj w .nilIface 0:=λ_ g=>aU (S.fr g)
mutual
def qD:∀t:PT,xJ t->vu t
 | .leaf _ _,_=>by unfold vu;trivial
 | .wrap _ _ t,h=>by unfold vu;unfold xJ at h;exact qD t h
 | .alts _ l,h=>by unfold vu;unfold xJ at h;exact⟨h.1,rJ l h.2⟩
def rJ:∀l:List PT,(∀t∈l,xJ t)->gm l
 | [],_=>by unfold gm;trivial
 |t::r,h=>by unfold gm;exact⟨qD t (h t (b0_ ..)),rJ r (λu hu=>h u (List.mem_cons_of_mem _ hu))⟩
end
def Wm{ds:List PD}(hg:jy ds):Wc (zx ds):=λc _ e=>⟨(hg c _ e).1.1,λg h=>qD _ ((hg c _ e).1.2.2 g h)⟩
def pE(s:BA)(i:Nat):bt s i=(s.data.toList.getD i 0).toNat:=by
 unfold bt;rw[ap_];split
 .rename_i h;have g:i<s.data.toList.length:=by rw[Array.length_toList];exact h
  rw[af_ g];rfl
 .rename_i h;rw[a4_ (by rw[Array.length_toList];exact Nat.le_of_not_lt h)];rfl
def Zz(a b:BA)(k:Nat):bt (a++b) k=if k<a.size then bt a k else bt b (k-a.size):=by
 have e:(a++b).data.toList=a.data.toList++b.data.toList:=by simp
 have hl:a.data.toList.length=a.size:=Array.length_toList;rw[pE,e];split
 .rw[pE,ap_,ap_,ar_ M_]
 .rw[pE,ap_,ap_,as_ M_,hl]
def Qf{a b:BA}(hs:a.size=b.size)(h:∀k,k<a.size->bt a k=bt b k):a=b:=by
 apply ByteArray.ext;apply Array.ext
 .exact hs
 .intro i h1 g;have:=h i h1;rw[vR a i h1,vR b i g]at this;exact UInt8.toNat_inj.1 this
def At(s:BA)(i:Nat)(b:BA):Prop:=i+b.size<=s.size/\∀k,k<b.size->bt s (i+k)=bt b k
def At.app{s a b:BA}{i:Nat}:At s i (a++b)↔At s i a/\At s (i+a.size) b:=by
 unfold At;rw[a8_];constructor
 .rintro⟨h1,g⟩;refine⟨⟨M_,λk hk=>?_⟩,M_,λk hk=>?_⟩
  .rw[g k M_,Zz,i_ hk]
  .rw[br_,g (a.size+k) M_,Zz,n_ M_,b8_]
 .rintro⟨⟨h1,g⟩,h,h⟩;refine⟨M_,λk hk=>?_⟩;rw[Zz];split
  .exact g k (by assumption)
  .rw[<- h (k-a.size) M_]
   congr 1
   omega
def At.eq{s a b:BA}{i:Nat}(h:At s i a)(g:At s i b)(hs:a.size=b.size):a=b:=
 Qf hs (λk hk=>by rw[<- h.2 k hk,g.2 k M_])
def FW{s:BA}{i j:Nat}(h:i+k<j)(g:j<=s.size):bt (s.extract i j) k=bt s (i+k):=by
 rw[pE,pE]
 congr 1
 rw[ap_,ap_]
 congr 1
 rw[ByteArray.data_extract,Array.toList_extract,List.extract_eq_take_drop,List.getElem?_take_of_lt M_,List.getElem?_drop]
def At.ext{s:BA}{i j:Nat}(h:i<=j)(g:j<=s.size):At s i (s.extract i j):=by
 have hs:(s.extract i j).size=j-i:=by rw[bl_];omega
 exact⟨M_,λk hk=>(FW M_ g).symm⟩
def JZ:noB.size=0:=rfl
def At.nil{s:BA}{i:Nat}(h:i<=s.size):At s i noB:=⟨h,λk hk=>absurd hk (by rw[JZ];omega)⟩
def QJ:∀(l:List Nat) (k:Nat),bt (bts l) k=l.getD k 0 % 256:=by
 intro l k;rw[pE];show(((l.map UInt8.ofNat)).getD k 0).toNat=_;rw[ap_,ap_,aq_];cases l[k]?<;>simp
def At.cons{s:BA}{i c:Nat}{l:List Nat}(hc:c<256):At s i (bts (c::l))↔i<s.size/\bt s i=c/\At s (i+1) (bts l):=by
 have e:bts (c::l)=bts [c]++bts l:=cg [c] l;have h1:(bts [c]).size=1:=vY [c];rw[e,At.app,h1];constructor
 .rintro⟨⟨a,b⟩,d⟩;have:=b 0 M_;rw[QJ]at this;refine⟨M_,?_,d⟩;simpa[Nat.mod_eq_of_lt hc] using this
 .rintro⟨a,b,d⟩;refine⟨⟨M_,λk hk=>?_⟩,d⟩;obtain rfl:k=0:=M_;rw[QJ];simpa[Nat.mod_eq_of_lt hc] using b
def At.one{s:BA}{i c:Nat}(hc:c<256):At s i (bts [c])↔i<s.size/\bt s i=c:=by
 rw[At.cons hc];constructor
 .rintro⟨a,b,_⟩;exact⟨a,b⟩
 .rintro⟨a,b⟩;exact⟨a,b,At.nil a⟩
def Vh(x:BA):Prop:=∀k,k<x.size->97<=bt x k/\bt x k<=122
def Bv:Option BA->List BA->Prop
 | _,[]=>True
 |last,k::r=>bK last k=true/\Vh k/\k.size<=9223372036854775807/\Bv (some k) r
inductive Dat (env:Nat->Option PB):DT->PT->Prop
 |null {p:Nat}:Dat env (.mk 110 0 noB [] []) (.leaf 110 p)
 |bool {p n:Nat} (h:n<=1):Dat env (.mk 116 (n:Int) noB [] []) (.leaf 116 p)
 |num {p:Nat} {n:Int} (h0 : -2147483648<=n) (h1:n<=2147483647):Dat env (.mk 105 n noB [] []) (.leaf 105 p)
 |long {p:Nat} {n:Int} (h0 : -9223372036854775808<=n) (h1:n<=9223372036854775807):Dat env (.mk 108 n noB [] []) (.leaf 108 p)
 |text {p:Nat} {x:BA} (h:Vh x) (h1:x.size<=9223372036854775807):Dat env (.mk 115 0 x [] []) (.leaf 115 p)
 |bytes {c p:Nat} {x:BA} (he:env c=some (.bytes x.size)) (hb:zu c=false) (h:Vh x):Dat env (.mk 102 0 x [] []) (.leaf c p)
 |sym {c p n:Nat} {l:List (Nat×Nat)} {o:Option (Nat×Nat)} (he:env c=some (.enum l o)) (hb:zu c=false) (hn:n<l.length):Dat env (.mk 101 (n:Int) noB [] []) (.leaf c p)
 |recd {c p:Nat} {fs:List PF} {ds:List DT} (he:env c=some (.recd fs)) (hb:zu c=false) (hl:ds.length=fs.length) (h:∀(i:Nat) (d:DT) (t:PT),ds[i]?=some d->(fs.map PF.ty)[i]?=some t->Dat env d t):Dat env (.mk 114 0 noB [] ds) (.leaf c p)
 |list {p:Nat} {u:PT} {ds:List DT} (hl:ds.length<=9223372036854775807) (h:∀d∈ds,Dat env d u):Dat env (.mk 91 0 noB [] ds) (.wrap 91 p u)
 |map {p:Nat} {u:PT} {ks:List BA} {ds:List DT} (hl:ds.length<=9223372036854775807) (hk:ks.length=ds.length) (hr:Bv none ks) (h:∀d∈ds,Dat env d u):Dat env (.mk 123 0 noB ks ds) (.wrap 123 p u)
 |alts {n p:Nat} {l:List PT} {u:PT} {d:DT} (hn:n<=9223372036854775807) (hl:l[n]?=some u) (h:Dat env d u):Dat env (.mk 40 (n:Int) noB [] [d]) (.alts p l)
def WK{c:Nat}(h:zu c=false):c≠110/\c≠116/\c≠105/\c≠108/\c≠115:=by
 simp[zu]at h;omega
def Pre(s s':BA):Prop:=At s' 0 s
def Pre.bt{s:BA}(h:Pre s s')(hk:k<s.size):_root_.Go.Proofs.YtjkiencmjggakaaGreatDoor.bt s' k=_root_.Go.Proofs.YtjkiencmjggakaaGreatDoor.bt s k:=by
 have:=h.2 k hk;rwa[bn_]at this
def Pre.size{s:BA}(h:Pre s s'):s.size<=s'.size:=by have:=h.1;omega
def Pre.at{s x:BA}{i:Nat}(h:Pre s s')(hx:At s i x):At s' i x:=
 ⟨by have:=h.size;have:=hx.1;omega,λk hk=>by rw[h.bt (by have:=hx.1;omega)];exact hx.2 k hk⟩
def stp(s:BA)(j:Nat):Prop:=¬(48<=bt s j/\bt s j<=57)
section
variable {env:Nat->Option PB}
end
def Bl(env:Nat->Option PB):Prop:=∀c l o,env c=some (.enum l o)->(l.map Prod.fst).Nodup/\∀x∈l.map Prod.fst,97<=x/\x<=122
end Go.Proofs.YtjkiencmjggakaaGreatDoor
