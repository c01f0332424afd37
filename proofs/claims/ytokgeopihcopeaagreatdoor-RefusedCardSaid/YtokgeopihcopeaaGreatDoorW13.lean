import Derived.Test.YtokgeopihcopeaaGreatDoorW12
import Derived.Laws.AppendOwnNone
set_option linter.unusedVariables false
set_option maxHeartbeats 16000000
set_option maxRecDepth 100000
set_option linter.defProp false
set_option linter.unusedSimpArgs false
open Go.Proofs.Tryz
namespace Go.Proofs.YtokgeopihcopeaaGreatDoor
open Go.RowKit
variable {xs:Ay}{q:Nat}{fs:An}{t:PT}{c:Int}
def mp(t:PT):Prop:=∀(w:World) (P:Nat->Prop) (v:Value) (et:TypeId) (ex:Value),TyV w P t v->vN 2 w et ex->
 Calls prog 76 #[v] w (yD w (.iface et ex) (xj t))
def Qw(c p:Nat):mp (.leaf c p):=by
 intro w P v g g hv f;refine hq_ λg e=>?_;obtain⟨u,x,rfl,h1,a,b⟩:∃u x,v=.iface u x/\u≠222/\u≠223/\u≠226:=by
  cases hv with
  |base _ _ h=>exact⟨_,_,rfl,(je c).1,(je c).2.1,(je c).2.2.1⟩
  |name _ _ h=>exact⟨_,_,rfl,D_,D_,D_⟩
 have g:=kC u h1;have g:=gW u a;have g:=vQ u b;go_in;go_wp2;try go_ret
 rw[e.o];refine⟨.nilIface,rfl,A_ w _,?_⟩;rw[xj]
def cwQk1_{p:Prop}(h:p:=by
 (first|(have:=cc1;simp only[qX,n_ hc])|(subst hc;simp only[qX,if_true]));go_in;go_wp2_with (go_at_call 76;apply(hcall.o _).mono;rintro e w2 ⟨v2,rfl,hf2,hm⟩;replace hf2:=zy hf2;replace hm:=zy hm);try go_ret
 rw[Q_.o];refine⟨v2,rfl,((A_ w N_).alloc _).trans hf2.o u_,?_⟩;rw[xj];have hm':=hm.o;cases hL:xj t with
 |nil=>rw[hL]at hm';exact hm'
 |cons x r=>rw[hL]at hm';exact hm'.ls x6_):p:=h
def Qk(c p:Nat)(t:PT)(j:mp t):mp (.wrap c p t):=by
 intro w P v k l hv g;refine hq_ λm Q_=>?_;obtain⟨v2,f,rfl⟩:∃v2,TyV w P t v2/\v=.iface (qX c) (.agg #[I_ p,v2]):=by
  cases hv with
  |wrap _ _ h=>exact⟨_,h,rfl⟩
 obtain⟨a,b,rfl⟩:=f.iface;have hcall:H_ (∀T,Calls prog 76 #[.iface a b] (w.alloc (.cells #[I_ p,.iface a b] T)) (yD (w.alloc (.cells #[I_ p,.iface a b] T)) (.iface k l) (xj t))):=zy (λT=>by
  have hf:Fr w (w.alloc (.cells #[I_ p,.iface a b] T)) N_:=(A_ w _).alloc _
  exact j _ P _ _ _ (f.fr hf u_) (g.fr hf id))
 by_cases hc:c=91
 .exact cwQk1_
 .have cc1:=Nat;exact cwQk1_
def Xj{l:Af}(h:l[q]?=some t)(a:Ao):jX a (l.drop q)=(if t.kind=40\/t.kind∈a then [t.place] else [])++(xj t++jX (a++[t.kind]) (l.drop (q+1))):=by
 have hl:=(ak_.1 h).1;rw[bs_ hl,jX,(ak_.1 h).2]
def Fd{w:Aw}{e:Av}{g m cap n:Nat}(h:w.ownsRow 0 e 1 (S_ g m cap) n xs)(r:q<=n):w.ownsRow 0 e 1 (S_ g q cap) q (xs.take q):=by
 obtain⟨h1,b⟩:=h;refine⟨by rw[b9_,h1];omega,.inr ?_⟩;rcases b with⟨e,_⟩|⟨g',p,a,e,f,j,u,k,l,o⟩
 .cases e
 .cases e;refine⟨g,cap,a,rfl,f,j,M_,k,l,?_⟩;rw[<- o,List.take_take]
  congr 1
  omega
def BX(w0:Aw)(l:Af)(m:Nat)(v:Ax)(W:Aw):Prop:=
 ∃q:Nat,v=I_ q/\q<=l.length/\l.length+1-q<=m/\Fr w0 W N_/\jX [] l=jX ((l.take q).map PT.kind) (l.drop q)/\∀t∈l.take q,t.kind≠40
def wR{w:Aw}{P:Az}{T:Av}{x:Ax}(h:TyV w P t (.iface T x)):∀W,(method 553 T x "Place").run prog W=.ok (72,I_ t.place) W:=by
 cases h with
 |base c p hc=>
  simp only[zi,ay_,beq_iff_eq]at hc;rcases hc with(((rfl|rfl)|rfl)|rfl)|rfl
  .intro W;show(method 553 215 (.agg #[I_ p]) "Place").run prog W=_;kernel_rfl
  .intro W;show(method 553 217 (.agg #[I_ p]) "Place").run prog W=_;kernel_rfl
  .intro W;show(method 553 218 (.agg #[I_ p]) "Place").run prog W=_;kernel_rfl
  .intro W;show(method 553 219 (.agg #[I_ p]) "Place").run prog W=_;kernel_rfl
  .intro W;show(method 553 220 (.agg #[I_ p]) "Place").run prog W=_;kernel_rfl
 |name c p hc=>intro W;kernel_rfl
 |wrap c p h=>
  intro W;unfold qX;split
  .kernel_rfl
  .kernel_rfl
 |alts p X ho hP h=>intro W;kernel_rfl
def cwQg1_{p:Prop}(h:p:=by
 (first|(have:=cc1;rw[decide_eq_true hks])|(rw[decide_eq_true hk40]));(first|(have:=cc1;rw[i_ (.inr hks)]at he)|(rw[i_ (.inl hk40)]at he));have hL:=zy (show xj (.alts p l)=t.place::(xj t++jX ((l.take q).map PT.kind++[t.kind]) (l.drop (q+1))) by rw[xj,he];rfl);(first|(have:=cc1;refine t2_ 10 c4 ?_)|(refine tY_ 2 ?_));(first|(have:=cc1;refine yq K_ c4 ?_ _)|(refine vo 3 rfl K_ (λ_ _ _ h=>h) K_ ?_));(first|(have:=cc1;have e2:=E1.fr fW4 id)|(refine vo 4 rfl K_ (λ_ _ _ h=>h) K_ ?_));(first|(have:=cc1;have hT2:=hT.fr fW4 u_)|(refine vo 5 rfl K_ (λ_ _ _ h=>h) K_ ?_));(first|(have:=cc1;replace fW4:=zy fW4)|(refine vo 6 rfl K_ (λ_ _ _ h=>h) K_ ?_));(first|(have:=cc1;replace e2:w4.cell? ⟨2,0,none⟩=some (.iface et ex):=e2)|(refine vo 7 rfl K_ (λ_ _ _ h=>h) K_ ?_;refine vo 8 rfl K_ (λ_ _ _ h=>h) K_ ?_;refine vo 9 rfl K_ (λ_ _ _ h=>h) K_ ?_;refine t2_ 10 c2 ?_;refine yq K_ c2 ?_ _;have e2:=E1.fr fW2 id;have hT2:=hT.fr fW2 u_;replace fW2:=zy fW2;clear he htk;replace e2:w2.cell? ⟨2,0,none⟩=some (.iface et ex):=e2));have hpm:=wR hT2;(try have:=cc1;clear he htk hCh hCk);go_wp2;refine tr_ 6 (λW=>z_ W 2 0 (.iface et ex)) ?_;refine tz_ 0 ?_;refine tz_ 2 ?_;refine zh 1 rfl K_ (λ_=>e2) (λK hK=>?_);go_simp;apply(xp (t.place:Int) _).mono;rintro e w' ⟨rfl,rfl⟩;refine hK _ _ ?_;clear hK K;refine tz_ 3 ?_;refine t1_ 4 e2 ?_;(first|(have:=cc1;have e3:(w4.drew.alloc (.cells #[I_ t.place,.iface et ex] 186)).cell? ⟨2,0,none⟩=some (.iface et ex):=(World.cell?_alloc_lt (w4.drew) _ ⟨2,0,none⟩ (by exact World.block_lt_of_cell? w4 ⟨2,0,none⟩ e2)).trans e2)|(have e3:(w2.drew.alloc (.cells #[I_ t.place,.iface et ex] 186)).cell? ⟨2,0,none⟩=some (.iface et ex):=(World.cell?_alloc_lt (w2.drew) _ ⟨2,0,none⟩ (by exact World.block_lt_of_cell? w2 ⟨2,0,none⟩ e2)).trans e2));refine t1_ 5 e3 ?_;refine t1_ 6 e3 ?_;refine td_ ?_ _;go_wp2;try go_ret
 rw[Q_.o];(first|(have:=cc1;have hF2:=hFw.o.trans fW4.o u_)|(have hF2:=hFw.o.trans fW2.o u_));have hs2:=hF2.size;refine⟨_,rfl,(hF2.alloc _).drew,?_⟩;rw[hL.o];(first|(have:=cc1;exact⟨w4.heap.size,hs2,rfl,(B_ w4 _ _).drew⟩)|(exact⟨w2.heap.size,hs2,rfl,(B_ w2 _ _).drew⟩))):p:=h
def Qg(p:Nat)(l:Af)(a4:l.length<=300)(E:∀t∈l,sp t)(M:∀t∈l,mp t):mp (.alts p l):=by
 intro w P v et ex hv U;refine hq_ λa3 Q_=>?_;obtain⟨X,F,ho,hP,hX,rfl⟩:∃X F,w.ownsRow 0 46 1 F l.length ((List.range l.length).map X)/\(∀g,F.ownBlock=some g->P g)/\(∀i t,l[i]?=some t->TyV w P t (X i))/\v=.iface 226 (.agg #[I_ p,F]):=by
  cases hv with
  |alts _ X ho hP h=>exact⟨X,_,ho,hP,h,rfl⟩
 obtain⟨G,z,rfl⟩:=zw ho;obtain⟨w0,hw0⟩:=e_ (w.alloc (.cells #[I_ p,.slice G l.length z] 226));have b:Fr w w0 N_:=yh_
 have H:Blk w0 w.heap.size [I_ p,.slice G l.length z] 226:=by rw[hw0];exact B_ w #[I_ p,.slice G l.length z] 226
 have a0:=zy (U.fr b id);have L:=zy (zj ho b u_);have a1:=zy (λi t e=>(hX i t e).fr b u_);replace H:=zy H;replace b:=zy b;have start:H_ (BX w0 l (l.length+1) (O_) w0):=zy ⟨0,rfl,am_ _,M_,A_ _ _,rfl,λt F=>by simp at F⟩;have F:=kC 226 D_;have G:=gW 226 D_;have U:=gK;replace M:=zy M;replace E:=zy E;go_in;go_wp2;rw[<- hw0];go_loopg [6,28] (l.length+1) (λm u v W=>BX w0 l m v W);case atStart=>exact start
 case round=>
  obtain⟨q,rfl,F,hm,hf,he,O⟩:=hrel;have a:=hf.bl H id;by_cases A:q<l.length
  .have a2:(q:Int)<(l.length:Int):=M_;have hd:l[q]?=some l[q]:=aj_ A;have J:l[q]∈l:=bi_ A;generalize l[q]=t at hd J;obtain⟨g,F,F⟩:=zg L M_;cases F;have F:=zj L hf u_;have n:=λi t e=>(a1.o i t e).fr hf u_;obtain⟨T,x,c0,hT⟩:=mA F n hd;have G:(q:Int)<=(z:Int):=by
    obtain⟨_,G⟩:=L.o;rcases G with⟨e,_⟩|⟨g',G,G,e,G,G,G,G,G,G⟩
    .cases e
    .cases e;omega
   have Y:=E.o t J;have C:=Fd F (Nat.le_of_lt A);rw[Xj hd]at he;have htk:(l.take (q+1)).map PT.kind=(l.take q).map PT.kind++[t.kind]:=by rw[a8_,hd];simp
   have E1:=a0.o.fr hf id;have hFw:=zy (b.o.trans hf u_);have c1:=a.c1;have V:=zy (And.intro a (And.intro E1 (And.intro C (And.intro n (And.intro hT hf)))));go_wp2;have F:zq wr wr.drew:=zq.drew wr;obtain⟨a,E1,C,n,hT,hf⟩:=V.o;have N:Fr wr wr.drew N_:=(A_ wr _).si F;refine tR_ (λW=>z_ W w.heap.size 1 (S_ g l.length z)) ?_;refine tY_ 0 ?_;refine zJ 1 rfl K_ c1 (λK hK=>?_);go_simp;apply(sS (hT.fr N u_) Y).mono;rintro e w2 ⟨rfl,z⟩;refine hK _ _ ?_;have fW2:Fr wr w2 N_:=N.trans z u_;have c2:=(fW2.bl a id).c1;by_cases hk40:t.kind=40
   .exact cwQg1_
   .rw[decide_eq_false hk40];have hCk:=mX (hT.fr fW2 u_) Y hk40;refine tY_ 2 ?_;refine tY_ 3 ?_;refine tY_ 4 ?_;refine tY_ 5 ?_;refine tY_ 6 ?_;refine tY_ 7 ?_;refine zJ 8 rfl K_ c2 (λK hK=>?_);go_simp;apply hCk.mono;rintro e w3 ⟨rfl,z⟩;refine hK _ _ ?_;have D:Fr wr w3 N_:=fW2.trans z u_;have c3:=(D.bl a id).c1;have hCh:=sI (l:=l) (X:=X) (k:=t.kind) (zj C D u_) (Nat.le_of_lt A) hP (λi u hi hu=>⟨by rw[cb_,i_ hi,ax_,ce_ M_];rfl,(n i u hu).fr D u_⟩) E O M_;refine zJ 9 rfl K_ c3 (λK hK=>?_);go_simp;apply hCh.mono;rintro e w4 ⟨rfl,z⟩;refine hK _ _ ?_;have fW4:Fr wr w4 N_:=D.trans z u_;have c4:=(fW4.bl a id).c1;by_cases hks:t.kind∈(l.take q).map PT.kind
    .have cc1:=Nat;exact cwQg1_
    .rw[decide_eq_false hks];rw[n_ (λh=>h.elim hk40 hks),bq_]at he;refine t2_ 10 c4 ?_;refine yq K_ c4 ?_ _;have R:=zy (M.o t J w4 P (.iface T x) et ex (hT.fr fW4 u_) (E1.fr fW4 id));replace fW4:=zy fW4;cases hu:xj t with
     |nil=>
      rw[hu,bq_]at he;replace he:=zy he;replace hu:=zy hu;go_wp2_with (go_at_call 76;apply R.o.mono;rintro e w5 ⟨Z,rfl,f,j⟩;rw[hu.o]at j;replace j:Z=.nilIface:=j;subst j;replace f:=zy f);go_roundg (l.length+1-(q+1));case measure=>omega
      case rel=>
       obtain⟨_,_,_,_,_,hf⟩:=V.o;refine⟨q+1,rfl,A,l_,(hf.trans fW4 u_).trans f u_,by rw[htk];exact he,λu a=>?_⟩;rw[a8_,hd]at a;rcases a4_.1 a with h|h
       .exact O u h
       .simp only[Option.toList_some,a2_]at h;rw[h];exact hk40
     |cons y r=>
      rw[hu,bk_]at he;have hL:=zy (show xj (.alts p l)=y::(r++jX ((l.take q).map PT.kind++[t.kind]) (l.drop (q+1))) by rw[xj,he]);replace hu:=zy hu;go_wp2_with (go_at_call 76;apply R.o.mono;rintro e w5 ⟨Z,rfl,f,j⟩;rw[hu.o]at j;obtain⟨g5,a,rfl,I⟩:=j;replace f:=zy f;replace I:=zy I);try go_ret
      rw[Q_.o];have hF2:=hFw.o.trans fW4 u_;have hs2:=hF2.size;refine⟨_,rfl,hF2.trans f u_,?_⟩;rw[hL.o];exact⟨g5,M_,rfl,I⟩
  .have a2:¬((q:Int)<(l.length:Int)):=M_;rw[b0_ M_,jX]at he;have hL:=zy (show xj (.alts p l)=[] by rw[xj,he]);replace hf:=zy hf;go_wp2;try go_ret
   rw[Q_.o];refine⟨.nilIface,rfl,b.o.trans hf u_,?_⟩;rw[hL.o]
def Vq:∀(n:Nat) (t:PT),SizeOf.sizeOf t<=n->xS t->shT t->mp t:=by
 intro n;induction n with
 |zero=>intro t h;cases t<;>simp at h
 |succ n ih=>
  intro t h hb hs;cases t with
  |leaf c p=>exact Qw c p
  |wrap c p t=>
   unfold xS at hb;unfold shT at hs;exact Qk c p t (ih t (by simp at h;omega) hb hs.2)
  |alts p ts=>
   unfold xS at hb;unfold shT at hs;have a:∀t∈ts,shT t:=by
    have:=hs.2;clear hs hb h;induction ts with
    |nil=>intro t ht;simp at ht
    |cons x r ihr=>
     unfold eS at this;intro t ht;rcases aq_.1 ht with rfl|ht
     .exact this.1
     .exact ihr this.2 t ht
   refine Qg p ts hb.1 (λt ht=>?_) (λt ht=>ih t yo_ (hb.2 t ht) (a t ht));have:=a t ht;cases t with
   |wrap c p t=>unfold shT at this;exact this.1
   |leaf c p=>trivial
   |alts p l=>trivial
def xG.append{w:Aw}{P:Az}{s:BA}{g:An}{ys:Ay}(h:xG w P s fs xs)(k:xG w P s g ys)(hl:xs.length=fs.length*4):xG w P s (fs++g) (xs++ys):=λi f e=>by
 by_cases hi:i<fs.length
 .rw[ar_ hi]at e;obtain⟨a,b,c,d,h1,g,j,l,m⟩:=h i f e;exact⟨a,b,c,d,by rw[ar_ M_];exact h1,by rw[ar_ M_];exact g,by rw[ar_ M_];exact j,by rw[ar_ M_];exact l,m⟩
 .rw[aw_ M_]at e;obtain⟨a,b,c,d,h1,g,j,l,m⟩:=k _ f e;refine⟨a,b,c,d,?_,?_,?_,?_,m⟩
  .rw[aw_ M_,show 4*i-xs.length=4*(i-fs.length) by omega];exact h1
  .rw[aw_ M_,show 4*i+1-xs.length=4*(i-fs.length)+1 by omega];exact g
  .rw[aw_ M_,show 4*i+2-xs.length=4*(i-fs.length)+2 by omega];exact j
  .rw[aw_ M_,show 4*i+3-xs.length=4*(i-fs.length)+3 by omega];exact l
def xG.one{w:Aw}{P:Az}{s:BA}(h:xG w P s fs xs)(hl:xs.length=fs.length*4):∀u∈xs,u.oneCell'=true:=by
 intro u hu;obtain⟨j,f⟩:=List.mem_iff_getElem?.1 hu;have g:=(ak_.1 f).1;have o:j / 4<fs.length:=M_;obtain⟨a,b,c,d,h1,k,l,m,rfl,rfl,n,g⟩:=h (j / 4) _ (aj_ o);have hr:j=4*(j / 4)\/j=4*(j / 4)+1\/j=4*(j / 4)+2\/j=4*(j / 4)+3:=M_;rcases hr with e|e|e|e
 .rw[<- e,f]at h1;simp only[af_]at h1;rw[h1];rfl
 .rw[<- e,f]at k;simp only[af_]at k;rw[k];rfl
 .rw[<- e,f]at l;simp only[af_]at l;obtain⟨T,x,q⟩:=n.iface;rw[l,q];rfl
 .rw[<- e,f]at m;simp only[af_]at m;have:∃f,d=.pointer f:=by
   unfold DfV at g;split at g
   .exact⟨_,g⟩
   .obtain⟨g',k,_,e,_⟩:=g;exact⟨_,e⟩
  obtain⟨f,q⟩:=this;rw[m,q];rfl
def kt{ds:Ar}{d:PD}(h:ds[q]?=some d):zk (ds.take (q+1))=zk (ds.take q)++d.body.fs:=by
 unfold zk;rw[a8_,h];simp
def mD{ds:Ar}(q:Nat):(zk (ds.take q)).length<=(zk ds).length:=by
 have h:zk ds=zk (ds.take q)++zk (ds.drop q):=by
  unfold zk;rw[<- bb_,List.take_append_drop]
 rw[h,ag_];omega
def uf(X:Dn)(fs:An)(ys:Ay):Prop:=∀i f d,fs[i]?=some f->ys[4*i+3]?=some d->X f d
def uf.append{X:Dn}{a:An}{ys:Ay}(h:uf X fs xs)(k:uf X a ys)(hl:xs.length=fs.length*4):uf X (fs++a) (xs++ys):=λi f d e a=>by
 by_cases hi:i<fs.length
 .rw[ar_ hi]at e;rw[ar_ M_]at a;exact h i f d e a
 .rw[aw_ M_]at e;rw[aw_ M_]at a;exact k (i-fs.length) f d e (by rw[<- a];congr 1;omega)
def Zq(X:Dn)(w:Aw)(ds:Ar)(sv:Ax):Prop:=
 ∀(W:World) (g q cap m:Nat) (d:PD) (p:Nat) (fs:List PF) (fv:Value) (zs:List Value),Fr w W N_->sv=S_ g m cap->ds[q]?=some d->d.body=.recd fs->W.cell? ⟨g,q*3+2,none⟩=some (.iface 231 (.agg #[I_ p,fv]))->W.ownsRow 0 194 4 fv fs.length zs->uf X fs zs
def Xn(X:Dn)(w0:Aw)(P:Az)(s:BA)(ds:Ar)(m:Nat)(fv v:Ax)(W:Aw):Prop:=
 ∃(q:Nat) (ys:List Value),v=I_ q/\q<=ds.length/\ds.length+1-q<=m/\Fr w0 W N_/\W.ownsRow w0.heap.size 194 4 fv (zk (ds.take q)).length ys/\xG W P s (zk (ds.take q)) ys/\uf X (zk (ds.take q)) ys
def tB{X:Dn}{w:Aw}{P:Az}{s:BA}{ds:Ar}{sv rv:Ax}(D:yR w P s ds sv xs)(f7:(zk ds).length<=300)(V:∀g,P g->g<w.heap.size)(hX:Zq X w ds sv):Calls prog 75 #[.agg #[sv,rv]] w λe w'=>∃fv ys,e=.returned fv/\Fr w w' N_/\xh w' (λg=>P g\/w.heap.size<=g) s (zk ds) fv ys/\uf X (zk ds) ys:=by
 refine hq_ λe8 Q_=>?_;obtain⟨sa,sc,rfl⟩:=zw D.row;have f6:=D.len;obtain⟨w0,hw0⟩:=e_ (w.alloc (.cells #[.slice sa ds.length sc,rv] 48));have K:Fr w w0 N_:=yh_
 have g0:w0.heap.size=w.heap.size+1:=by rw[hw0];simp
 have D0:=zy (D.fr K u_);have start:H_ (Xn X w0 P s ds (ds.length+1) (L_) (O_) w0):=zy ⟨0,[],rfl,am_ _,M_,A_ _ _,World.ownsRow_nil _ _ _ _,(λi f e=>by simp[zk]at e),(λi f d e=>by simp[zk]at e)⟩;replace K:=zy K;replace V:=zy V;replace hX:=zy hX;go_in;go_wp2;rw[<- hw0];go_loopg [3,11] (ds.length+1) (λm u v W=>Xn X w0 P s ds m u v W);case atStart=>exact start
 case round=>
  obtain⟨q,ys,rfl,hq,hm,hf,r,H,C⟩:=hrel;replace C:=zy C;have f9:=hf.size;obtain⟨n,hn⟩:=x_ ((zk (ds.take q)).length);rw[hn]at r;obtain⟨z,A,rfl⟩:=zw r;by_cases a1:q<ds.length
  .have e4:(q:Int)<(ds.length:Int):=M_;have hd:ds[q]?=some ds[q]:=aj_ a1;generalize ds[q]=d at hd;obtain⟨g,e9,d7⟩:=zg D0.o.row M_;cases d7;have Dw:=D0.o.fr hf u_;obtain⟨T,x,c0,c1,c2,hb⟩:=Dw.cells hd;have a:=kt hd;have a0:=mD (ds:=ds) (q+1);rw[a,ag_]at a0;rw[hn]at a0;obtain⟨pl,b4⟩:=x_ d.place;obtain⟨lt,a9⟩:=x_ d.letter;rw[b4]at c0;rw[a9]at c1;have F:=(A_ wr N_).alloc (.cells #[I_ pl,U_ lt,.iface T x] 178);have M:=zj r F u_;have I:=H.fr F u_;have N:=hb.fr F u_;have L:=hf.trans F u_;have a6:=zy (λfs p fv zs (Z:d.body=.recd fs) (hTx:(Value.iface T x)=.iface 231 (.agg #[Z_ (p:Nat),fv])) (O:wr.ownsRow 0 194 4 fv fs.length zs)=>hX.o wr g q sc ds.length d p fs fv zs (K.o.trans hf u_) rfl hd Z (hTx▸c2) O);generalize Z:d.body=bd at hb N a a0 a6;have a3:H_ (∀W,bd.fs=[]->Fr (wr.alloc (.cells #[I_ pl,U_ lt,.iface T x] 178)) W N_->Xn X w0 P s ds (ds.length+1-(q+1)) (.slice z n A) (Z_ ((q:Int)+1)) W):=zy (λW Y J=>⟨q+1,ys,rfl,a1,l_,L.trans J u_,by rw[a,Y,bg_,hn];exact zj M J u_,(by rw[a,Y,bg_];exact I.fr J u_),(by rw[a,Y,bg_];exact C)⟩);cases hb with
   |enum p ho hP hu hp=>
    go_wp2;go_roundg (ds.length+1-(q+1));case measure=>omega
    case rel=>exact a3.o _ rfl ((A_ _ _).alloc _)
   |bytes p k=>
    go_wp2;go_roundg (ds.length+1-(q+1));case measure=>omega
    case rel=>exact a3.o _ rfl ((A_ _ _).alloc _)
   |recd p ho hP h hp=>
    rename_i fs g1 zs;obtain⟨R,b,rfl⟩:=zw ho;obtain⟨ti,a8,d8,d9,e1⟩:=info_parts oK;have G:=(A_ (wr.alloc (.cells #[I_ pl,U_ lt,.iface 231 (.agg #[I_ p,.slice R fs.length b])] 178)) N_).alloc (.cells #[I_ p,.slice R fs.length b] 231);have E:=zy (zj M G u_);have b7:=zy (I.fr G u_);have b9:=zy (L.trans G u_);have f2:fs.length<=300:=by have:(PB.recd fs).fs.length=fs.length:=rfl;omega
    have O:=ho.1;have b6:=zy (a6.o fs p _ zs rfl rfl ho);have e7:=zy (h.one O);have b5:=zy ((h.fr ((A_ wr N_).alloc (.cells #[I_ pl,U_ lt,.iface 231 (.agg #[I_ p,.slice R fs.length b])] 178)) u_).fr G u_);rcases ho.2 with⟨e,f8⟩|⟨l,f0,f1,e,k1,k2,k3,k4,k5,k6⟩
    .have d2:fs=[]:=List.length_eq_zero_iff.1 M_;subst d2;simp only[av_,Value.slice.injEq,true_and]at e;obtain⟨rfl,rfl⟩:=e;go_wp2_with (at_builtin;go_must (refine wpList_append_own_none rfl _ _ 188 rfl w0.heap.size 194 ti 4 ue a8 (.slice z n A) n ys rfl E rfl ?_));go_roundg (ds.length+1-(q+1));case measure=>omega
     case rel=>exact a3.o _ rfl ((A_ _ _).alloc _)
    .have e':R=some ⟨l,0,none⟩:=by cases e;rfl
     subst e';have e6:=zy (λ(W:World) (J:Fr wr W N_) j u (e2:zs[j]?=some u)=>(show W.cell? ((⟨l,0,none⟩:Addr).add j)=some u from by
      have:=zr (zj ho J u_) rfl e2
      unfold Addr.add
      split
      .rename_i h0;rw[h0]at this;exact this
      .simpa using this))
     have a4:=zy (λg (hg:P g)=>show ¬(Value.slice z n A).ownBlock=some g from λe0=>o2_ (E.o.lt g e0) (V.o g hg));have b8:=zy (show Fr wr ((wr.alloc (.cells #[I_ pl,U_ lt,.iface 231 (.agg #[I_ p,S_ l fs.length b])] 178)).alloc (.cells #[I_ p,S_ l fs.length b] 231)) N_ from((A_ wr _).alloc _).alloc _)
     go_wp2_with (at_builtin;go_must (refine wpList_append_own_at _ rfl _ _ 188 rfl w0.heap.size 194 ti _ 4 40 ue a8 d8 d9 e1 rfl D_ (.slice z n A) n ys rfl E ⟨l,0,none⟩ fs.length b zs rfl O (e6.o _ b8) e7 ?b1 ?b2 ?b3 ?_)
                  case b1=>unfold maxLen;omega
                  case b2=>omega
                  case b3=>simp;omega
                  intro v5 w5 a2 a7 e5 e3
                  obtain⟨a5,c5,rfl⟩:=zw a2
                  have hG:=zy a7
                  have hO:=zy a2
                  clear a7 e3 e5 a2)
     go_roundg (ds.length+1-(q+1));case measure=>omega
     case rel=>
      have U:Fr ((wr.alloc (.cells #[I_ pl,U_ lt,.iface 231 (.agg #[I_ p,S_ l fs.length b])] 178)).alloc (.cells #[I_ p,S_ l fs.length b] 231)) w5 (λg=>(Value.slice z n A).ownBlock=some g):=Y_ (A_ _ _) hG (λk e _=>e);refine⟨q+1,ys++zs,rfl,a1,l_,b9.o.trans U (λy hy e=>o1_ (E.o.lt y e)),?_,?_,?_⟩
      .rw[a,ag_,hn];exact hO
      .rw[a];exact xG.append (b7.o.fr U a4) (b5.o.fr U a4) (by rw[hn];exact E.o.1)
      .rw[a];exact C.o.append b6 (by rw[hn];exact E.o.1)
  .have e4:¬((q:Int)<(ds.length:Int)):=M_;rw[bc_ M_]at hn H C;have d6:=zy (show xh wr (λg=>P g\/w.heap.size<=g) s (zk ds) (.slice z n A) ys from⟨by rw[hn];exact yl r,λg e=>.inr (o1_ (r.lt g e)),H.mono (λg _ hg=>.inl hg)⟩);replace hf:=zy hf;go_wp2;try go_ret
   rw[Q_.o];exact⟨_,ys,rfl,K.o.trans hf u_,d6,C⟩
def aV{w:Aw}{P:Az}{s:BA}{ds:Ar}{sv rv:Ax}(D:yR w P s ds sv xs)(b:(zk ds).length<=300)(a:∀g,P g->g<w.heap.size):Calls prog 75 #[.agg #[sv,rv]] w λe w'=>∃fv ys,e=.returned fv/\Fr w w' N_/\xh w' (λg=>P g\/w.heap.size<=g) s (zk ds) fv ys:=
 (tB (X:=λ_ _=>True) D b a (λ_ _ _ _ _ _ _ _ _ _ _ _ _ _ _ _ _ _ _ _ _=>trivial)).mono (by
  rintro e w' ⟨fv,ys,h1,a,b,_⟩
  exact⟨fv,ys,h1,a,b⟩)
def Gv{f:PF}(h:fs[q]?=some f):(fs.drop q).flatMap (λf=>xj f.ty)=xj f.ty++(fs.drop (q+1)).flatMap (λf=>xj f.ty):=by
 have hl:=(ak_.1 h).1;rw[bs_ hl,a9_,(ak_.1 h).2]
def uY{w:Aw}{P:Az}{s:BA}{ds:Ar}{sv rv:Ax}{z:Av}{A:Ax}(D:yR w P s ds sv xs)(k:TyV w P t rv)(L:vN 2 w z A)(a2:(zk ds).length<=300)(U:∀f∈zk ds,xS f.ty/\shT f.ty)(V:xS t/\shT t)(N:∀g,P g->g<w.heap.size):Calls prog 42 #[.agg #[sv,rv]] w (yD w (.iface z A) (vz ds t)):=by
 refine hq_ λa4 J=>?_;obtain⟨Z,sc,rfl⟩:=zw D.row;obtain⟨rT,rx,rfl⟩:=k.iface;have h:Fr w (w.alloc (.cells #[.slice Z ds.length sc,.iface rT rx] 48)) N_:=(A_ w _).alloc _;have F:=B_ w #[.slice Z ds.length sc,.iface rT rx] 48;have K:=zy (aV (rv:=.iface rT rx) (D.fr h u_) a2 (λg hg=>bl_ (N g hg) h.size));have a1:=zy (k.fr h u_);have M:=zy (L.fr h id);replace F:=zy F;replace h:=zy h;go_in;go_wp2_with (go_at_call 75;apply K.o.mono;rintro e w1 ⟨fv,ys,rfl,j,n⟩;obtain⟨L,L,rfl⟩:=zw n.row;replace j:=zy j;replace n:=zy n);have start:H_ (∃q:Nat,Value.int .i64 0=I_ q/\q<=(zk ds).length/\(zk ds).length+1-q<=(zk ds).length+1/\Fr w1 w1 N_/\vz ds t=((zk ds).drop q).flatMap (λf=>xj f.ty)++xj t):=zy ⟨0,rfl,am_ _,M_,A_ _ _,rfl⟩;go_loopg [9] ((zk ds).length+1) (λm v W=>∃q:Nat,v=I_ q/\q<=(zk ds).length/\(zk ds).length+1-q<=m/\Fr w1 W N_/\vz ds t=((zk ds).drop q).flatMap (λf=>xj f.ty)++xj t);case atStart=>exact start
 case round=>
  obtain⟨q,rfl,K,hm,hf,he⟩:=hrel;by_cases H:q<(zk ds).length
  .have a3:(q:Int)<((zk ds).length:Int):=M_;have hd:(zk ds)[q]?=some (zk ds)[q]:=aj_ H;have I:(zk ds)[q]∈zk ds:=bi_ H;generalize (zk ds)[q]=f at hd I;obtain⟨g,K,K⟩:=zg n.o.row M_;cases K;obtain⟨T,x,d,c0,c1,c2,c3,k,a0⟩:=(n.o.fr hf u_).cells hd;rw[Gv hd]at he;obtain⟨l,R⟩:=x_ f.letter;obtain⟨pl,X⟩:=x_ f.place;rw[R]at c1;rw[X]at c0;have n:=(A_ wr N_).alloc (.cells #[I_ pl,U_ l,.iface T x,.pointer d] 194);have C:=zy (Vq _ f.ty l_ (U f I).1 (U f I).2 _ _ _ z A (k.fr n u_) (((M.o.fr j id).fr hf id).fr n id));have O:=zy (hf.trans n u_);cases hu:xj f.ty with
   |nil=>
    rw[hu,bq_]at he;replace he:=zy he;replace hu:=zy hu;go_wp2_with (go_at_call 76;apply C.o.mono;rintro e w3 ⟨E,rfl,a,b⟩;rw[hu.o]at b;replace b:E=.nilIface:=b;subst b;replace a:=zy a);go_roundg ((zk ds).length+1-(q+1));case measure=>omega
    case rel=>exact⟨q+1,rfl,H,l_,O.o.trans a u_,he⟩
   |cons y r=>
    rw[hu,bk_,bk_]at he;replace he:=zy he;replace hu:=zy hu;go_wp2_with (go_at_call 76;apply C.o.mono;rintro e w3 ⟨E,rfl,a,b⟩;rw[hu.o]at b;obtain⟨g3,k,rfl,G⟩:=b;replace a:=zy a;replace G:=zy G);try go_ret
    rw[J.o];have u:=(h.o.trans j u_).trans O u_;have Y:=u.size;refine⟨_,rfl,u.trans a u_,?_⟩;rw[he.o];exact⟨g3,M_,rfl,G⟩
  .have a3:¬((q:Int)<((zk ds).length:Int)):=M_;rw[b0_ M_,b5_,bq_]at he;have k:=hf.bl (j.o.bl F id) id;have n:=k.c1;have C:=zy (Vq _ t l_ V.1 V.2 wr P (.iface rT rx) z A ((a1.o.fr j u_).fr hf u_) ((M.o.fr j id).fr hf id));replace he:=zy he;replace hf:=zy hf;go_wp2_with (go_at_call 76;apply C.o.mono;rintro e w3 ⟨E,rfl,a,b⟩;replace a:=zy a;replace b:=zy b);try go_ret
   rw[J.o];have u:=(h.o.trans j u_).trans hf u_;have Y:=u.size;refine⟨E,rfl,u.trans a u_,?_⟩;rw[he.o];have a:=b.o;cases hu:xj t with
   |nil=>rw[hu]at a;exact a
   |cons y r=>rw[hu]at a;exact a.ls Y
def yw(w:Aw)(br:Nat)(sv rv:Ax)(s:BA)(i:Nat)(nb:Aq):Prop:=Blk w br [sv,rv,.string s,I_ i,.bool nb] 119
section
variable {w w':Aw} {br:Nat} {sv rv:Ax} {s:BA} {i:Nat} {nb:Aq}
def yw.c0(h:yw w br sv rv s i nb):w.cell? ⟨br,0,none⟩=some sv:=by rw[F_ h];rfl
def yw.c1(h:yw w br sv rv s i nb):w.cell? ⟨br,1,none⟩=some rv:=by rw[F_ h];rfl
def yw.c2(h:yw w br sv rv s i nb):w.cell? ⟨br,2,none⟩=some (.string s):=by rw[F_ h];rfl
def yw.c3(h:yw w br sv rv s i nb):w.cell? ⟨br,3,none⟩=some (I_ i):=by rw[F_ h];rfl
def yw.c4(h:yw w br sv rv s i nb):w.cell? ⟨br,4,none⟩=some (.bool nb):=by rw[F_ h];rfl
def yw.th(h:yw w br sv rv s i nb)(o:Nat):w.frozen? ⟨br,o,none⟩=false:=Blk.th h o
def yw.si(h:yw w br sv rv s i nb)(hw:zq w w'):yw w' br sv rv s i nb:=by obtain⟨n,rfl⟩:=hw;exact h
def yw.inc(h:yw w br sv rv s i nb):yw (w.setCell ⟨br,3,none⟩ (Z_ ((i:Int)+1))) br sv rv s (i+1) nb:=G_ h 3 _
end
def Bd(w:Aw)(br:Nat)(sv rv:Ax)(s:BA)(i:Nat)(nb:Aq)(d:Nat)(b:Aq)(w':Aw):Prop:=
 Fr w w' (· = br)/\((bt s i=d/\b=true/\yw w' br sv rv s (i+1) nb/\i<s.size)\/(bt s i≠d/\b=false/\yw w' br sv rv s i nb))
def uK{w:Aw}{br:Nat}{sv rv:Ax}{s:BA}{i:Nat}{nb:Aq}(d:Nat)(h:yw w br sv rv s i nb)(hs:s.size<=4000)(hi:i<=s.size)(hd:c=(d:Int))(j:0<d):Calls prog 119 #[P_ br,.int .u8 c] w λe w'=>∃b,e=.returned (.bool b)/\Bd w br sv rv s i nb d b w':=by
 subst hd;refine hq_ λj a=>?_;have c2:=h.c2;have c3:=h.c3;have f3:=h.th 3;by_cases hl:i<s.size
 .have f:(i:Int)<(s.size:Int):=M_;have g:decide ((i:Int)<(s.size:Int))=true:=decide_eq_true f;obtain⟨x,hx⟩:=x_ (bt s i);have j:((s[i]'hl).toNat:Int)=(x:Int):=by rw[<- hx,xO s i hl]
  by_cases hb:x=d
  .subst hb;replace hx:=zy hx;replace h:=zy h;go_in;go_wp2;go_quiet (fail);go_wp2;try go_ret
   rw[a.o];exact⟨true,rfl,((A_ w _).si (zq.drewN _ _)).setCell _ _ (λ_=>rfl),.inl ⟨hx,rfl,(h.o.si (zq.drewN _ _)).inc,hl⟩⟩
  .have hn:((x:Int)==(d:Int))=false:=x1_
   replace hx:=zy hx;replace h:=zy h;go_in;go_wp2;go_quiet (fail);go_wp2;try go_ret
   rw[a.o];exact⟨false,rfl,(A_ w _).si (zq.drewN _ _),.inr ⟨by rw[hx.o];exact hb,rfl,h.o.si (zq.drewN _ _)⟩⟩
 .have f:¬((i:Int)<(s.size:Int)):=M_;have g:decide ((i:Int)<(s.size:Int))=false:=decide_eq_false f;have hb:H_ (bt s i≠d):=zy (by rw[wh M_];omega);replace h:=zy h;go_in;go_wp2;go_quiet (fail);go_wp2;try go_ret
  rw[a.o];exact⟨false,rfl,(A_ w _).si (zq.drewN _ _),.inr ⟨hb,rfl,h.o.si (zq.drewN _ _)⟩⟩
def yy{w:Aw}{br:Nat}{sv rv:Ax}{s:BA}{i:Nat}{nb:Aq}(d:Nat)(h:yw w br sv rv s i nb)(hs:s.size<=4000)(hi:i<=s.size)(hd:c=(d:Int))(a:0<d)(hb:bt s i=d):Calls prog 119 #[P_ br,.int .u8 c] w λe w'=>e=.returned (.bool true)/\Fr w w' (· = br)/\yw w' br sv rv s (i+1) nb:=by
 apply(uK d h hs hi hd a).mono;rintro e w' ⟨b,rfl,hf,a⟩;rcases a with⟨_,rfl,h1,_⟩|⟨hn,_⟩
 .exact⟨rfl,hf,h1⟩
 .exact absurd hb hn
def xv{w:Aw}{br:Nat}{sv rv:Ax}{s:BA}{i:Nat}{nb:Aq}(d:Nat)(h:yw w br sv rv s i nb)(hs:s.size<=4000)(hi:i<=s.size)(hd:c=(d:Int))(a:0<d)(hb:bt s i≠d):Calls prog 119 #[P_ br,.int .u8 c] w λe w'=>e=.returned (.bool false)/\Fr w w' (· = br)/\yw w' br sv rv s i nb:=by
 apply(uK d h hs hi hd a).mono;rintro e w' ⟨b,rfl,hf,a⟩;rcases a with⟨hy,_⟩|⟨_,rfl,h1⟩
 .exact absurd hy hb
 .exact⟨rfl,hf,h1⟩
def iF(c:Nat)(w:Aw):Calls prog 177 #[U_ c] w λe w'=>e=.returned (.bool (decide (97<=c/\c<=122)))/\w'=w:=by
 have hb:decide (97<=c/\c<=122)=(decide ((97:Int)<=(c:Int))&&decide ((c:Int)<=122)):=by
  rw[Bool.decide_and,show decide ((97:Int)<=(c:Int))=decide (97<=c) by congr 1;exact propext M_,show decide ((c:Int)<=122)=decide (c<=122) by congr 1;exact propext M_]
 rw[hb];by_cases h1:(97:Int)<=(c:Int)
 .go_in;go_wp2;go_ret;exact⟨by simp[h1],rfl⟩
 .go_in;go_wp2;go_ret;exact⟨by simp;omega,rfl⟩
def cq3_{p:Prop}(h:p:=by
 refine hq_ λu x=>?_;have c3:=h.c3;(first|(have:=cc1;have start:H_ (∃k,i<=k/\k<=s.size/\s.size+1-k<=s.size+1/\Fr w w (· = br)/\yw w br sv rv s k nb/\zt 48 57 s i=zt 48 57 s k):=zy ⟨i,l_,hi,M_,A_ _ _,h,rfl⟩)|(have start:H_ (∃k,i<=k/\k<=s.size/\s.size+1-k<=s.size+1/\Fr w w (· = br)/\yw w br sv rv s k nb/\zt 97 122 s i=zt 97 122 s k):=zy ⟨i,l_,hi,M_,A_ _ _,h,rfl⟩));replace h:=zy h;go_in;go_wp2;clear c3;(first|(have:=cc1;go_loopg [] (s.size+1) (λm W=>∃k,i<=k/\k<=s.size/\s.size+1-k<=m/\Fr w W (· = br)/\yw W br sv rv s k nb/\zt 48 57 s i=zt 48 57 s k))|(go_loopg [] (s.size+1) (λm W=>∃k,i<=k/\k<=s.size/\s.size+1-k<=m/\Fr w W (· = br)/\yw W br sv rv s k nb/\zt 97 122 s i=zt 97 122 s k)));case atStart=>exact start.o
 case round=>
  clear start;obtain⟨k,C,E,hm,hf,f,he⟩:=hrel;have c2:=f.c2;have c3:=f.c3;have f3:=f.th 3;have D:(i:Int)<=(k:Int):=M_;have F:(k:Int)<=(s.size:Int):=M_;replace hf:=zy hf;replace f:=zy f
  first
   |have:=cc1
    have fin:H_ (zt 48 57 s k=k->∀W,zq wr W->u (.returned (.string (s.extract i k))) W):=zy (λhk W g=>by
     rw[x.o,he,hk]
     exact⟨rfl,hf.o.si g,f.o.si g⟩)
   |have fin:H_ (zt 97 122 s k=k->∀W,zq wr W->u (.returned (.string (s.extract i k))) W):=zy (λhk W g=>by
     rw[x.o,he,hk]
     exact⟨rfl,hf.o.si g,f.o.si g⟩)
  by_cases hk:k<s.size
  .have r:(k:Int)<(s.size:Int):=M_;have y:decide ((k:Int)<(s.size:Int))=true:=decide_eq_true r;obtain⟨c,hc⟩:=x_ (bt s k);have A:((s[k]'hk).toNat:Int)=(c:Int):=by rw[<- hc,xO s k hk]
   (first|(have:=cc1;have l:H_ (∀(q:Nat) (b:Bool),decide (48<=c/\c<=57)=b->Calls prog 220 #[U_ c] (wr.drewN q) λe w'=>e=.returned (.bool b)/\w'=wr.drewN q):=zy (λq b hb=>by rw[<- hb];exact oV c _))|(have l:H_ (∀(q:Nat) (b:Bool),decide (97<=c/\c<=122)=b->Calls prog 177 #[U_ c] (wr.drewN q) λe w'=>e=.returned (.bool b)/\w'=wr.drewN q):=zy (λq b hb=>by rw[<- hb];exact iF c _)));(first|(have:=cc1;refine have a:zt 48 57 s k=if 48<=c/\c<=57 then zt 48 57 s (k+1) else k:=?_;?_)|(refine have a:zt 97 122 s k=if 97<=c/\c<=122 then zt 97 122 s (k+1) else k:=?_;?_))
   .rw[zt,dif_pos hk,hc]
   (first|(have:=cc1;by_cases j:48<=c/\c<=57)|(by_cases j:97<=c/\c<=122))
   .rw[i_ j]at a;have n:=zy (decide_eq_true j);have z:=zy (he.trans a);clear a he fin;replace hc:=zy hc;go_wp2;go_quiet (first|((first|go_at_call 177|go_at_call 220);exact Calls.quiet_of_same (l.o _ _ n.o)));go_wp2;go_roundg (s.size+1-(k+1));case measure=>omega
    case rel=>exact⟨k+1,M_,hk,l_,(hf.o.si (zq.drewN _ _)).setCell _ _ (λ_=>rfl),(f.o.si (zq.drewN _ _)).inc,z.o⟩
   .rw[n_ j]at a;have n:=zy (decide_eq_false j);replace a:=zy a;replace hc:=zy hc;clear he;go_wp2;go_quiet (first|((first|go_at_call 177|go_at_call 220);exact Calls.quiet_of_same (l.o _ _ n.o)));go_wp2;go_quiet (fail);go_wp2;try go_ret
    exact fin.o a.o _ ((zq.drewN _ _).trans (zq.drewN _ _))
  .have r:¬((k:Int)<(s.size:Int)):=M_;have y:decide ((k:Int)<(s.size:Int))=false:=decide_eq_false r;(first|(have:=cc1;have a:=zy (show zt 48 57 s k=k by rw[zt,dif_neg hk]))|(have a:=zy (show zt 97 122 s k=k by rw[zt,dif_neg hk])));clear he;go_wp2;go_quiet (fail);go_wp2;go_quiet (fail);go_wp2;try go_ret
   exact fin.o a.o _ ((zq.drewN _ _).trans (zq.drewN _ _))):p:=h
def wk{w:Aw}{br:Nat}{sv rv:Ax}{s:BA}{i:Nat}{nb:Aq}(h:yw w br sv rv s i nb)(hs:s.size<=4000)(hi:i<=s.size):Calls prog 176 #[P_ br,.func (.func 177) #[] #[]] w λe w'=>e=.returned (.string (s.extract i (zt 97 122 s i)))/\Fr w w' (· = br)/\yw w' br sv rv s (zt 97 122 s i) nb:=by
 exact cq3_
def oV(c:Nat)(w:Aw):Calls prog 220 #[U_ c] w λe w'=>e=.returned (.bool (decide (48<=c/\c<=57)))/\w'=w:=by
 have hb:decide (48<=c/\c<=57)=(decide ((48:Int)<=(c:Int))&&decide ((c:Int)<=57)):=by
  rw[Bool.decide_and,show decide ((48:Int)<=(c:Int))=decide (48<=c) by congr 1;exact propext M_,show decide ((c:Int)<=57)=decide (c<=57) by congr 1;exact propext M_]
 rw[hb];by_cases h1:(48:Int)<=(c:Int)
 .go_in;go_wp2;go_ret;exact⟨by simp[h1],rfl⟩
 .go_in;go_wp2;go_ret;exact⟨by simp;omega,rfl⟩
def aS{w:Aw}{br:Nat}{sv rv:Ax}{s:BA}{i:Nat}{nb:Aq}(h:yw w br sv rv s i nb)(hs:s.size<=4000)(hi:i<=s.size):Calls prog 176 #[P_ br,.func (.func 220) #[] #[]] w λe w'=>e=.returned (.string (s.extract i (zt 48 57 s i)))/\Fr w w' (· = br)/\yw w' br sv rv s (zt 48 57 s i) nb:=by
 have cc1:=Nat
 exact cq3_
inductive qx:DT->Value->Prop
 |nothing:qx (.mk 110 0 noB [] []) (.iface 136 (.agg #[]))
 |truth (b:Bool):qx (.mk 116 (if b=true then 1 else 0) noB [] []) (.iface 137 (.bool b))
 |num (c:Nat) (n:Int) (hc:c=105\/c=108) (h0 : -9223372036854775808<=n) (h1:n<=9223372036854775807):qx (.mk c n noB [] []) (.iface 139 (.int .i64 n))
 |text (tx:BA) (h:tx.size<=4000):qx (.mk 115 0 tx [] []) (.iface 141 (.string tx))
 |bytes (tx:BA) (h:tx.size<=4000):qx (.mk 102 0 tx [] []) (.iface 155 (.string tx))
 |sym (n l:Nat) (h:n<=4000):qx (.mk 101 (n:Int) noB [] []) (.iface 154 (.agg #[U_ l,I_ n]))
inductive xW (w:Aw) (P:Az):DT->Value->Prop
 |flat {d:DT} {v:Value} (h:qx d v):xW w P d v
 |branch (n:Nat) (h:n<=4000) {d:DT} {v:Value} (hd:xW w P d v):xW w P (.mk 40 (n:Int) noB [] [d]) (.iface 150 (.agg #[I_ n,v]))
 |row {c:Nat} {T:TypeId} {ds:List DT} {lv:Value} (Y:Nat->Value) (hc:(c=91/\T=144)\/(c=114/\T=152)) (ho:w.ownsRow 0 52 1 lv ds.length ((List.range ds.length).flatMap λi=>[Y i])) (hP:∀g,lv.ownBlock=some g->P g)
  (hd:∀i d,ds[i]?=some d->xW w P d (Y i)):xW w P (.mk c 0 noB [] ds) (.iface T lv)
 |map {ks:List BA} {ds:List DT} {lv:Value} (Y:Nat->Value) (hl:ks.length=ds.length) (hk:∀k∈ks,k.size<=4000) (ho:w.ownsRow 0 201 2 lv ds.length ((List.range ds.length).flatMap λi=>[.string (ks.getD i noB),Y i])) (hP:∀g,lv.ownBlock=some g->P g)
  (hd:∀i d,ds[i]?=some d->xW w P d (Y i)):xW w P (.mk 123 0 noB ks ds) (.iface 147 lv)
section
variable {w w':Aw} {P Q S:Az} {d:DT} {v:Ax}
def xW.mono(h:xW w P d v)(a:∀g,g<w.heap.size->P g->Q g):xW w Q d v:=by
 induction h with
 |flat h=>exact .flat h
 |branch n h hd ih=>exact .branch n h ih
 |row Y hc ho hP hd ih=>exact .row Y hc ho (λg e=>a g (ho.lt g e).2 (hP g e)) ih
 |map Y hl hk ho hP hd ih=>exact .map Y hl hk ho (λg e=>a g (ho.lt g e).2 (hP g e)) ih
def xW.fr(h:xW w P d v)(hf:Fr w w' S)(a:∀g,P g->¬S g):xW w' P d v:=by
 induction h with
 |flat h=>exact .flat h
 |branch n h hd ih=>exact .branch n h ih
 |row Y hc ho hP hd ih=>exact .row Y hc (zj ho hf (λg e=>a g (hP g e))) hP ih
 |map Y hl hk ho hP hd ih=>exact .map Y hl hk (zj ho hf (λg e=>a g (hP g e))) hP ih
def xW.iface(h:xW w P d v):∃T x,v=.iface T x:=by
 cases h with
 |flat h=>cases h<;>exact⟨_,_,rfl⟩
 |branch n h hd=>exact⟨_,_,rfl⟩
 |row Y hc ho hP hd=>exact⟨_,_,rfl⟩
 |map Y hl hk ho hP hd=>exact⟨_,_,rfl⟩
end
section
variable {w w':Aw} {B:Nat} {P Q S:Az} {lv:Ax} {ds:Ae}
end
section
variable {w w':Aw} {B:Nat} {P Q S:Az} {es:Ag} {ys:Ay}
end
def wX(es:Ag):Option BA:=es.getLast?.map Prod.fst
def jF(es:Ag)(e:BA×DT):wX (es++[e])=some e.1:=by unfold wX;simp
def GX(o:Ew)(n:Nat)(ys:Ay):Prop:=match o with|none=>n=0|some lk=>∃m,n=m+1/\ys[m*2]?=some (.string lk)
def Br(W:Aw)(t:BA)(e:Ak)(w':Aw):Prop:=Fr W w' N_/\
 ((∃v,Lib.parseIntB 64 t.data.toList=.ok v/\e=.returned (.tuple #[Z_ v,.nilIface]))\/((∀v,Lib.parseIntB 64 t.data.toList≠.ok v)/\∃v T x,e=.returned (.tuple #[Z_ v,.iface T x])))
def qw(s:BA)(i:Nat):Prop:=0<(zM s i).size/\¬(bt (zM s i) 0=48/\(1<(zM s i).size\/xm s i=true))
def eY(w:Aw)(br:Nat)(sv rv:Ax)(s:BA)(i:Nat)(nb:Aq)(lo hi:Int)(e:Ak)(w':Aw):Prop:=
 ∃n b,e=.returned (.tuple #[Z_ n,.bool b])/\Fr w w' (· = br)/\yw w' br sv rv s (zI s i) nb/\
  (b=true↔(qw s i/\∃v,Lib.parseIntB 64 (s.extract i (zI s i)).data.toList=.ok v/\lo<=v/\v<=hi))/\(b=true->Lib.parseIntB 64 (s.extract i (zI s i)).data.toList=.ok n)
section
variable {w:Aw} {br:Nat} {sv rv:Ax} {s:BA} {i:Nat} {nb:Aq} {lo hi:Int}
def VA(h:yw w br sv rv s i nb)(hs:s.size<=4000)(hi:i<=s.size):Calls prog 119 #[P_ br,.int .u8 45] w λe w'=>e=.returned (.bool (xm s i))/\Fr w w' (· = br)/\yw w' br sv rv s (sgn s i) nb:=by
 apply(uK 45 h hs hi rfl D_).mono;rintro e w' ⟨b,rfl,hf,a⟩;rcases a with⟨hy,rfl,h1,_⟩|⟨hn,rfl,h1⟩
 .refine⟨?_,hf,?_⟩
  .unfold xm;rw[hy];rfl
  .unfold sgn;rw[i_ hy];exact h1
 .refine⟨?_,hf,?_⟩
  .have:xm s i=false:=by unfold xm;exact beq_eq_false_iff_ne.2 M_
   rw[this]
  .unfold sgn;rw[n_ hn];exact h1
def lu(hi:i<=s.size):i<=sgn s i/\sgn s i<=s.size/\sgn s i<=zI s i/\zI s i<=s.size:=by
 have h1:i<=sgn s i/\sgn s i<=s.size:=by
  unfold sgn;split
  .rename_i h;have:i<s.size:=by
    by_cases b:i<s.size
    .exact b
    .unfold bt at h;rw[dif_neg b]at h;exact absurd h D_
   omega
  .omega
 have a:=yh 48 57 s _ (sgn s i) l_;exact⟨h1.1,h1.2,a.1,a.2 h1.2⟩
def cwbZ1_{p:Prop}(h:p:=by
 (first|(have:=cc1;have hnf:=zy (show ¬qw s i by rw[hfit];simp))|(have:=cc2;have hnf:=zy (show ¬qw s i by rw[hfit];simp[h1]))|((have e0:t.toList=[]:=by rw[ByteArray.toList_eq];exact ck_ (by rw[Array.length_toList];exact ht0));have hnf:=zy (show ¬qw s i by rw[hfit];omega)));clear hfit;(try have:=cc2;have h1':(1:Int)<(t.size:Int):=M_);go_in;go_wp2_with (first
  |(go_at_call 119;apply hC1.o.mono;rintro e w1 ⟨rfl,hf1,h1⟩;have F1:=zy hf1;have R1:=zy h1;clear hf1 h1)
  |(go_at_call 176;apply(hC2.o _ R1.o).mono;rintro e w2 ⟨rfl,hf2,h2⟩;have F2:=zy (F1.o.trans hf2 u_);have R2:=zy h2;clear hf2 h2))
 exact hbad.o hnf.o _ F2.o R2.o):p:=h
def bZ(h:yw w br sv rv s i nb)(hs:s.size<=4000)(C:i<=s.size)(hP:∀W,Fr w W (· = br)->Calls prog 221 #[.string (s.extract i (zI s i)),Z_ 10,Z_ 64] W (Br W (s.extract i (zI s i)))):Calls prog 170 #[P_ br,Z_ lo,Z_ hi] w (eY w br sv rv s i nb lo hi):=by
 refine hq_ λz A=>?_;obtain⟨l1,l2,J,L⟩:=lu C;have c3:=h.c3;have hC1:=zy (VA h hs C);have hC2:H_ (∀W,yw W br sv rv s (sgn s i) nb->Calls prog 176 #[P_ br,.func (.func 220) #[] #[]] W λe w'=>e=.returned (.string (zM s i))/\Fr W w' (· = br)/\yw w' br sv rv s (zI s i) nb):=zy (λW C=>aS C hs l2);have hbad:H_ (¬qw s i->∀W,Fr w W (· = br)->yw W br sv rv s (zI s i) nb->z (.returned (.tuple #[O_,.bool false])) W):=zy (λhn W hf m=>by
  rw[A.o]
  exact⟨0,false,rfl,hf,m,⟨λe=>absurd e D_,λe=>absurd e.1 hn⟩,λe=>absurd e D_⟩)
 have l:H_ (qw s i->∀n b W,Fr w W (· = br)->yw W br sv rv s (zI s i) nb->(b=true↔∃v,Lib.parseIntB 64 (s.extract i (zI s i)).data.toList=.ok v/\lo<=v/\v<=hi)->(b=true->Lib.parseIntB 64 (s.extract i (zI s i)).data.toList=.ok n)->z (.returned (.tuple #[Z_ n,.bool b])) W):=zy (λhn n b W hf m hb hv=>by
  rw[A.o]
  exact⟨n,b,rfl,hf,m,hb.trans ⟨λe=>⟨hn,e⟩,λe=>e.2⟩,hv⟩)
 replace hP:=zy hP;have hfit:qw s i=(0<(zM s i).size/\¬(bt (zM s i) 0=48/\(1<(zM s i).size\/xm s i=true))):=rfl;have m:i<=zI s i:=M_;generalize zM s i=t at hC2 hfit;generalize zI s i=k at *;generalize xm s i=neg at *;generalize sgn s i=j at *;by_cases ht0:t.size=0
 .exact cwbZ1_
 .have h0:0<t.size:=M_;have e0:¬t.toList=[]:=by
   rw[ByteArray.toList_eq];intro e;have:t.data.toList.length=t.size:=Array.length_toList;rw[e,av_]at this;omega
  have m:t.toList.isEmpty=false:=by cases m:t.toList with|nil=>exact absurd m e0|cons _ _=>rfl
  obtain⟨c,hc⟩:=x_ (bt t 0);have m:((t[0]'h0).toNat:Int)=(c:Int):=by rw[<- hc,xO t 0 h0]
  rw[hc]at hfit;replace hc:=zy hc;have H:(c=48/\neg=true)\/(c=48/\neg=false/\1<t.size)\/c≠48\/(c=48/\neg=false/\t.size=1):=by
   cases neg
   .by_cases c=48
    .by_cases 1<t.size
     .simp_all
     .exact .inr (.inr (.inr ⟨by assumption,rfl,M_⟩))
    .simp_all
   .by_cases c=48<;>simp_all
  rcases H with⟨rfl,rfl⟩|⟨rfl,rfl,h1⟩|I|⟨rfl,rfl,h1⟩
  .have cc1:=Nat;exact cwbZ1_
  .have cc2:=Nat;exact cwbZ1_
  case' neg.inr.inr.inl=>have hf:=zy (show qw s i by rw[hfit];exact⟨h0,λe=>I e.1⟩)
  case' neg.inr.inr.inl=>have m:((c:Int)==48)=false:=x1_
  case' neg.inr.inr.inr=>have hf:=zy (show qw s i by rw[hfit];exact⟨h0,by simp[h1]⟩)
  case' neg.inr.inr.inr=>have h1':¬(1:Int)<(t.size:Int):=M_
  all_goals clear hfit
  all_goals
   go_in;go_wp2_with (first
    |(go_at_call 119;apply hC1.o.mono;rintro e w1 ⟨rfl,hf1,h1⟩;have F1:=zy hf1;have R1:=zy h1)
    |(go_at_call 176;apply(hC2.o _ R1).mono;rintro e w2 ⟨rfl,hf2,h2⟩;have F2:=zy (F1.o.trans hf2 u_);have R2:=zy h2))
   have z:=R2.o.c2;have A:=R2.o.c3;refine tR_ (λW=>z_ W br 2 (.string s)/\z_ W br 3 (I_ k)) ?_;refine zc 0 (P_ br) rfl K_ (λ_ _ _ h=>h) K_ x5_ ?_;refine zc 1 (P_ br) rfl K_ (λ_ _ _ h=>h) K_ x5_ ?_;refine zc 2 (.pointer (some ⟨br,2,none⟩)) rfl K_ (λ_ _ _ h=>h) K_ x5_ ?_;refine zc 3 (.string s) rfl K_ (λ_ _ _ h=>h) K_ x5_ ?_;refine zc 4 (I_ i) rfl K_ (λ_ _ _ h=>h) K_ x5_ ?_;refine zc 5 (P_ br) rfl K_ (λ_ _ _ h=>h) K_ x5_ ?_;refine zc 6 (P_ br) rfl K_ (λ_ _ _ h=>h) K_ x5_ ?_;refine zc 7 (.pointer (some ⟨br,3,none⟩)) rfl K_ (λ_ _ _ h=>h) K_ x5_ ?_;refine zc 8 (I_ k) rfl K_ (λ_ _ _ h=>h) K_ x5_ ?_;refine zc 9 (.string (s.extract i k)) rfl K_ (λ_ _ _ h=>h) K_ x5_ ?_;refine zJ 10 rfl K_ ⟨z,A⟩ (λK g=>?_);go_simp;apply(hP.o _ F2.o.drew).mono;rintro e C ⟨m,hm⟩;have f:=zy (F2.o.drew.trans m v_);have a:H_ (yw C br sv rv s k nb):=zy (m.bl R2 id);have D:=a.o.c2;have E:=a.o.c3;replace hm:=zy hm;rcases hm.o with⟨v,hv,rfl⟩|⟨y,v,T,x,rfl⟩
   .replace hv:=zy hv;refine g _ _ ?_;refine zc 11 (.tuple #[Z_ v,.nilIface]) rfl K_ (λ_ _ _ h=>h) K_ x5_ ?_;refine zc 12 (Z_ v) rfl K_ (λ_ _ _ h=>h) K_ x5_ ?_;refine zc 13 .nilIface rfl K_ (λ_ _ _ h=>h) K_ x5_ ?_;refine zc 14 (Z_ v) rfl K_ (λ_ _ _ h=>h) K_ x5_ ?_;refine zc 15 .nilIface rfl K_ (λ_ _ _ h=>h) K_ x5_ ?_;refine yq K_ ⟨D,E⟩ ?_ _;by_cases r:v≥lo
    .have G:decide (v≥lo)=true:=decide_eq_true r;by_cases p:v<=hi
     .have F:decide (v<=hi)=true:=decide_eq_true p;go_wp2;exact l.o hf v true _ f a ⟨λ_=>⟨v,hv,r,p⟩,λ_=>rfl⟩ (λ_=>hv)
     .have F:decide (v<=hi)=false:=decide_eq_false p;go_wp2;exact l.o hf v false _ f a ⟨λe=>absurd e D_,λ⟨u,hu,_,h2⟩=>by rw[hv.o]at hu;cases hu;exact absurd h2 M_⟩ (λe=>absurd e D_)
    .have G:decide (v≥lo)=false:=decide_eq_false r;go_wp2;exact l.o hf v false _ f a ⟨λe=>absurd e D_,λ⟨u,hu,h1,_⟩=>by rw[hv.o]at hu;cases hu;exact absurd h1 M_⟩ (λe=>absurd e D_)
   .replace y:=zy y;refine g _ _ ?_;refine zc 11 (.tuple #[Z_ v,.iface T x]) rfl K_ (λ_ _ _ h=>h) K_ x5_ ?_;refine zc 12 (Z_ v) rfl K_ (λ_ _ _ h=>h) K_ x5_ ?_;refine zc 13 (.iface T x) rfl K_ (λ_ _ _ h=>h) K_ x5_ ?_;refine zc 14 (Z_ v) rfl K_ (λ_ _ _ h=>h) K_ x5_ ?_;refine zc 15 (.iface T x) rfl K_ (λ_ _ _ h=>h) K_ x5_ ?_;refine yq K_ ⟨D,E⟩ ?_ _;go_wp2;exact l.o hf v false _ f a ⟨λe=>absurd e D_,λ⟨u,hu,_,_⟩=>absurd hu (y.o u)⟩ (λe=>absurd e D_)
end
def pF(n:Int)(h : -9223372036854775808<=n)(a:n<=9223372036854775807):wrap64 n=n:=by
 have:=IntKind.wrap_i64 n;unfold wrap64;omega
def iE:∀a b:List UInt8,dv (a++b)=dv a*10 ^ b.length+dv b
 | [],b=>by simp[dv]
 |c::r,b=>by
  simp only[bk_,dv,iE r b,ag_,Nat.pow_add,Nat.add_mul,Nat.mul_assoc];omega
def Pm{t:BA}{a:Nat}(h:a<t.size):∃c,t.data.toList[a]?=some c/\bt t a=c.toNat:=by
 refine⟨t[a],?_,xO t a h⟩;rw[Array.getElem?_toList];exact Array.getElem?_eq_getElem h
def bi{neg:Aq}{t:BA}(hd:jE t.data.toList)(hb:dv t.data.toList<=9223372036854775807+(if neg=true then 1 else 0)):∀a,a<=t.size->lC neg t a=if neg=true then -(dv (t.data.toList.take a):Int) else (dv (t.data.toList.take a):Int):=by
 intro a;induction a with
 |zero=>intro _;simp[lC,dv]
 |succ a ih=>
  intro ha;obtain⟨c,hc,e⟩:=Pm (t:=t) (a:=a) M_;have hm:c∈t.data.toList:=ai_ hc;have b:=hd c hm;have f:t.data.toList.take (a+1)=t.data.toList.take a++[c]:=by rw[a8_,hc];rfl
  have h1:=iE (t.data.toList.take a) [c];have b:=iE (t.data.toList.take (a+1)) (t.data.toList.drop (a+1));rw[List.take_append_drop]at b;have b:dv (t.data.toList.take (a+1))<=dv t.data.toList:=by
   have:1<=10 ^ (t.data.toList.drop (a+1)).length:=Nat.one_le_pow _ _ D_;have:=Nat.mul_le_mul_left (dv (t.data.toList.take (a+1))) this;omega
  simp only[ao_,Nat.pow_one,dv,av_,Nat.pow_zero,Nat.mul_one,bp_]at h1;rw[f]at b⊢;rw[lC,ih M_,e];rw[h1]at b⊢;generalize dv (t.data.toList.take a)=x at *;generalize dv t.data.toList=y at *;cases neg with
  |true=>
   simp only[if_true]at hb⊢;unfold cC;rw[i_ rfl,pF (10 * -(x:Int)) M_ M_,pF (c.toNat:Int) M_ M_,pF ((c.toNat:Int)-48) M_ M_,pF _ M_ M_];omega
  |false=>
   simp only[a1_,if_false,bp_]at hb⊢;unfold cC;rw[n_ D_,pF (10*(x:Int)) M_ M_,pF (c.toNat:Int) M_ M_,pF ((c.toNat:Int)-48) M_ M_,pF _ M_ M_];omega
def tL{s:BA}{i:Nat}{v:Int}(h0:0<(zM s i).size)(hp:Lib.parseIntB 64 (s.extract i (zI s i)).data.toList=.ok v):lC (xm s i) (zM s i) (zM s i).size=v/\-9223372036854775808<=v/\v<=9223372036854775807:=by
 have hd:jE (zM s i).data.toList:=kM s (sgn s i);have f:(zM s i).size=(zM s i).data.toList.length:=Array.length_toList.symm;have b:(zM s i).data.toList≠[]:=by
  intro e;rw[e,av_]at f;omega
 have g:(zM s i).data.toList.take (zM s i).size=(zM s i).data.toList:=by rw[f];exact List.take_length
 by_cases h45:bt s i=45
 .have a:xm s i=true:=zg_
  have k:i<s.size:=zp M_;have hs:sgn s i=i+1:=z2_
  have h:=yh 48 57 s _ (i+1) l_;have he:(s.extract i (zI s i)).data.toList=45::(zM s i).data.toList:=by
   unfold zM zI;rw[hs,qn M_ (h.2 M_)];refine List.cons_eq_cons.2 ⟨?_,rfl⟩;rw[xO s i k]at h45;exact UInt8.toNat_inj.1 (h45.trans D_)
  rw[he,iB b hd]at hp;split at hp
  .rename_i j;cases hp;refine⟨?_,M_,M_⟩;rw[a,bi hd (by simp only[if_true];omega) _ l_,i_ rfl,g]
  .cases hp
 .have a:xm s i=false:=by
   unfold xm;exact beq_eq_false_iff_ne.2 M_
  have hs:sgn s i=i:=by unfold sgn;rw[n_ h45]
  have he:s.extract i (zI s i)=zM s i:=by unfold zM;rw[hs]
  rw[he,bM b hd]at hp;split at hp
  .rename_i j;cases hp;refine⟨?_,M_,M_⟩;rw[a,bi hd (by simp only[a1_,if_false];omega) _ l_,n_ D_,g]
  .cases hp
set_option maxRecDepth 100000
set_option linter.defProp false
@[go_sem]def UK:=yI 137 52
@[go_sem]def Md:=vt 137 52 (.bool false)
@[go_sem]def Bv:=yI 139 52
@[go_sem]def UG:=vt 139 52 (O_)
@[go_sem]def Mt:=yI 141 52
@[go_sem]def Cg:=vt 141 52 (.string ⟨#[]⟩)
@[go_sem]def Mn:=yI 144 52
@[go_sem]def WT:=vt 144 52 (L_)
@[go_sem]def Cf:=yI 147 52
@[go_sem]def Pu:=vt 147 52 (L_)
@[go_sem]def Bq:=yI 150 52
@[go_sem]def Xy:=vt 150 52 (.agg #[O_,.nilIface])
@[go_sem]def Bz:=yI 152 52
@[go_sem]def Xz:=vt 152 52 (L_)
@[go_sem]def PO:=yI 154 52
@[go_sem]def UW:=vt 154 52 (.agg #[.int .u8 0,O_])
@[go_sem]def UP:=yI 155 52
@[go_sem]def Ms:=vt 155 52 (.string ⟨#[]⟩)
end Go.Proofs.YtokgeopihcopeaaGreatDoor
