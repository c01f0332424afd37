import Derived.Lib.AppendStr
import Derived.Deep.RegionWith
import Derived.Test.YtjkiencmjggakaaGreatDoorW13
import Derived.Test.YtjkiencmjggakaaGreatDoorShelf
set_option maxHeartbeats 16000000
set_option maxRecDepth 100000
set_option linter.defProp false
set_option linter.unusedSimpArgs false
open Go.Proofs.Tryz
namespace Go.Proofs.YtjkiencmjggakaaGreatDoor
open Go.RowKit
variable {b:BA}{c lo n:Nat}{cT vT:TypeId}{cx u vx:Value}
def yv(w:World)(B:Nat)(v:Value)(b:BA):Prop:=w.ownsRow B 5 1 v b.size (Lib.strCells b)
def Zl:Tryz.prog.underlying 97=some (.slice 5):=K_
def Wf:(Tryz.prog.info? 5).map (λi=>(i.zero,i.size,i.bytes))=some (some (.int .u8 0),1,1):=K_
def yH(a b:BA):Lib.strCells (a++b)=Lib.strCells a++Lib.strCells b:=by
 unfold Lib.strCells;simp
def jC(h:c<256):Lib.strCells (bts [c])=[U_ c]:=by
 unfold Lib.strCells bts;simp;omega
def Own(w:World)(v v':Value):Prop:=v'.ownBlock=v.ownBlock\/∃h,v'.ownBlock=some h/\w.heap.size<=h
def Own.trans{w W:World}{v g a:Value}(h:Own w v g)(k:a.ownBlock=g.ownBlock\/a.ownBlock=some W.heap.size)(hs:w.heap.size<=W.heap.size):Own w v a:=by
 rcases k with k|k
 .unfold Own;rw[k];exact h
 .exact .inr ⟨_,k,hs⟩
def Own.fr{w W a:World}{v k:Value}(h:Own w v k)(m:Fr w W (λg=>v.ownBlock=some g))(r:Fr W a (λg=>k.ownBlock=some g)):Fr w a (λg=>v.ownBlock=some g):=by
 refine m.trans r (λx hx e=>?_);rcases h with h|⟨q,h,a⟩
 .rw[<- h];exact e
 .rw[h]at e;simp only[ah_]at e;omega
def Zf(w:World)(B:Nat)(v:Value)(b:BA)(e:Ending)(w':World):Prop:=∃v',e=.returned v'/\yv w' B v' b/\Fr w w' (λg=>v.ownBlock=some g)/\Own w v v'
def QM(w:World)(B:Nat)(v:Value)(b:BA)(e:Ending)(w':World):Prop:=∃v',e=.returned v'/\yv w' B v' b/\Fr w w' (λg=>v.ownBlock=some g)
def GV(w:World)(B:Nat)(b:BA)(e:Ending)(w':World):Prop:=∃v',e=.returned v'/\yv w' B v' b/\Fr w w' (λg=>B<=g)
def yv.own{w:World}{B:Nat}{v:Value}(h:yv w B v b){g:Nat}(e:v.ownBlock=some g):B<=g/\g<w.heap.size:=World.ownsRow.lt h g e
def Kq(w:World)(B:Nat)(v:Value)(T:BA)(q:Nat)(v0 v5:Value)(W:World):Prop:=
 ∃(z f:Nat) (acc:BA),v5=.int .u64 (z:Int)/\z<18446744073709551616/\z<128 ^ (f+1)/\f<=q/\T=acc++bts (iJ f z)/\yv W B v0 acc/\Fr w W (λg=>v.ownBlock=some g)/\Own w v v0
section
variable {w W w5:World} {B z f:Nat} {T acc:BA} {v v0 v5:Value} {o:Obj} {x:Int}
def Kq.more{a:Nat}(hz:128<=z)(h:z<18446744073709551616)(hf:z<128 ^ (f+1))(q:f=a+1)(r:T=acc++bts (iJ f z))(h:Fr w W (λg=>v.ownBlock=some g))(m:Own w v v0)(ho:w5.ownsRow B 5 1 v5 (acc.size+1) (Lib.strCells acc++[.int .u8 x]))(hx:x=((z % 128+128:Nat):Int))(hg:(W.alloc o).grownBy w5 v0.ownBlock)(hl:v5.ownBlock=v0.ownBlock\/v5.ownBlock=some (W.alloc o).heap.size):Kq w B v T a v5 (.int .u64 ((z / 128:Nat):Int)) w5:=by
 subst q hx;refine⟨z / 128,a,acc++bts [z % 128+128],rfl,M_,?_,l_,?_,?_,?_,?_⟩
 .rw[Nat.pow_succ]at hf;omega
 .rw[r,iJ,n_ M_,ByteArray.append_assoc,<- cg];rfl
 .unfold yv;rw[yH,jC M_,a8_,vY];exact ho
 .exact m.fr h (((A_ W _).alloc o).gw hg (λk hk _=>hk))
 .exact m.trans hl (by have:=h.size;simp;omega)
def Kq.last(hz:z<128)(m:T=acc++bts (iJ f z))(a:Fr w W (λg=>v.ownBlock=some g))(h:Own w v v0)(ho:w5.ownsRow B 5 1 v5 (acc.size+1) (Lib.strCells acc++[.int .u8 x]))(hx:x=(z:Int))(hg:(W.alloc o).grownBy w5 v0.ownBlock)(hl:v5.ownBlock=v0.ownBlock\/v5.ownBlock=some (W.alloc o).heap.size):Zf w B v T (.returned v5) w5:=by
 subst hx;refine⟨v5,rfl,?_,?_,?_⟩
 .have e:iJ f z=[z]:=by cases f<;>simp[iJ,hz]
  rw[m,e];unfold yv;rw[yH,jC M_,a8_,vY];exact ho
 .exact h.fr a (((A_ W _).alloc o).gw hg (λk hk _=>hk))
 .exact h.trans hl (by have:=a.size;simp;omega)
end
def tc:∀{ds:List DT},(∀(i:Nat) (d:DT),ds[i]?=some d->okD d)->uu ds
 | [],_=>by simp[uu]
 |d::r,h=>by
  unfold uu;exact⟨h 0 d rfl,tc (λi e he=>h (i+1) e he)⟩
def vX.ok{w:World}{P:Nat->Prop}{d:DT}{v:Value}(h:vX w P d v):okD d:=by
 induction h with
 |flat h=>
  cases h with
  |nothing=>simp[okD,uu,lg];exact al_ _
  |truth b=>cases b<;>simp[okD,uu,lg]<;>exact al_ _
  |num c n hc h0 h1=>simp only[okD,uu,lg];refine⟨⟨h0,h1,M_⟩,λe=>M_,by show(0:Nat)<=_;omega,by simp,λe=>M_,trivial⟩
  |text tx h=>simp[okD,uu,lg,h]
  |bytes tx h=>simp[okD,uu,lg,h]
  |sym n l h=>simp only[okD,uu,lg];refine⟨⟨M_,M_,by simp⟩,λe=>M_,by show(0:Nat)<=_;omega,by simp,λe=>M_,trivial⟩
 |branch n h hd ih=>simp only[okD,uu,lg];refine⟨⟨M_,M_,by simp⟩,λe=>M_,by show(0:Nat)<=_;omega,by simp,λe=>M_,ih,trivial⟩
 |row Y hc ho hP hd ih=>simp only[okD,lg];refine⟨⟨M_,M_,M_⟩,λe=>M_,by show(0:Nat)<=_;omega,by simp,λe=>M_,tc ih⟩
 |map Y hl hk ho hP hd ih=>simp only[okD,lg];refine⟨⟨M_,M_,by simp⟩,λe=>M_,by show(0:Nat)<=_;omega,hk,λ_=>hl,tc ih⟩
def yv.fr{w w':World}{B:Nat}{v:Value}{S:Nat->Prop}(h:yv w B v b)(hf:Fr w w' S)(a:∀g,v.ownBlock=some g->¬S g):yv w' B v b:=zj h hf a
def QM.all{e:Ending}{w w':World}{B:Nat}{b0:BA}(hu:yv w B u b0)(h:QM w B u b e w'):GV w B b e w':=by
 obtain⟨v,rfl,h1,a⟩:=h;exact⟨v,rfl,h1,a.mono (λg _ e=>(hu.own e).1)⟩
def Zf.all{e:Ending}{w w':World}{B:Nat}{b0:BA}(hu:yv w B u b0)(h:Zf w B u b e w'):GV w B b e w':=by
 obtain⟨v,rfl,h1,a,_⟩:=h;exact⟨v,rfl,h1,a.mono (λg _ e=>(hu.own e).1)⟩
def Qo{w:World}{B:Nat}{v:Value}(h:yv w B v b):(convert 97 9 v).run prog w=.ok (.string b) w:=by
 obtain⟨xs,a⟩:∃xs:List Int,xs=b.data.toList.map λx=>((x.toNat:Nat):Int):=⟨_,rfl⟩;have hb:strOfNums xs=b:=by
  apply ByteArray.ext;unfold strOfNums;subst a;apply Array.toList_inj.1;rw[List.map_map];show b.data.toList.map _=_;conv=>rhs;rw[<- List.map_id b.data.toList]
  apply List.map_congr_left;intro x _;show UInt8.ofNat ((x.toNat:Int).toNat)=x;rw[Int.toNat_natCast,UInt8.ofNat_toNat]
 have hl:xs.length=b.size:=by subst a;rw[bo_];rfl
 have h0:=h;rcases h.2 with⟨rfl,e⟩|⟨g,cap,k,rfl,_⟩
 .have:=run_convert_bytes_nil (P:=prog) w 97 5 underlying97 underlying5 0 0 9 underlying9;have hz:b.data.size=0:=e;have he:b=ByteArray.empty:=ByteArray.ext (Array.eq_empty_of_size_eq_zero hz);rw[he];exact this
 .have:=run_convert_bytes_arg (P:=prog) w 97 5 underlying97 underlying5 g 0 b.size cap xs hl (λi hi=>by
   rw[bn_]
   refine zr h0 rfl ?_
   unfold Lib.strCells
   subst a
   rw[ap_,aq_,aq_,af_ (show i<b.data.toList.length from hi)]
   rfl) 9 underlying9
  rw[hb]at this;exact this
inductive DaV (env:Nat->Option PB) (w:World) (P:Nat->Prop):DT->PT->Value->Prop
 |flat {d:DT} {t:PT} {v:Value} (h:pm d v) (hs:∀n l:Nat,v=.iface 152 (.agg #[U_ l,I_ n])->sk env t n=l/\l<256):DaV env w P d t v
 |branch (n:Nat) (h:n<=4000) {d:DT} {t:PT} {v:Value} (hd:DaV env w P d (xQ env t n 0) v):DaV env w P (.mk 40 (n:Int) noB [] [d]) t (.iface 148 (.agg #[I_ n,v]))
 |row {c:Nat} {T:TypeId} {ds:List DT} {t:PT} {lv:Value} (Y:Nat->Value) (hc:(c=91/\T=142)\/(c=114/\T=150)) (ho:w.ownsRow 0 59 1 lv ds.length ((List.range ds.length).flatMap λi=>[Y i])) (hP:∀g,lv.ownBlock=some g->P g)
  (hd:∀i d,ds[i]?=some d->DaV env w P d (xQ env t 0 i) (Y i)):DaV env w P (.mk c 0 noB [] ds) t (.iface T lv)
 |map {ks:List BA} {ds:List DT} {t:PT} {lv:Value} (Y:Nat->Value) (hl:ks.length=ds.length) (hk:∀k∈ks,k.size<=4000) (ho:w.ownsRow 0 234 2 lv ds.length ((List.range ds.length).flatMap λi=>[.string (ks.getD i noB),Y i])) (hP:∀g,lv.ownBlock=some g->P g)
  (hd:∀i d,ds[i]?=some d->DaV env w P d (xQ env t 0 i) (Y i)):DaV env w P (.mk 123 0 noB ks ds) t (.iface 145 lv)
section
variable {env:Nat->Option PB} {w w':World} {P Q S:Nat->Prop} {d:DT} {t:PT} {v:Value}
def DaV.mono(h:DaV env w P d t v)(hQ:∀g,g<w.heap.size->P g->Q g):DaV env w Q d t v:=by
 induction h with
 |flat h hs=>exact .flat h hs
 |branch n h hd ih=>exact .branch n h ih
 |row Y hc ho hP hd ih=>exact .row Y hc ho (λg e=>hQ g (ho.lt g e).2 (hP g e)) ih
 |map Y hl hk ho hP hd ih=>exact .map Y hl hk ho (λg e=>hQ g (ho.lt g e).2 (hP g e)) ih
def DaV.fr(h:DaV env w P d t v)(hf:Fr w w' S)(a:∀g,P g->¬S g):DaV env w' P d t v:=by
 induction h with
 |flat h hs=>exact .flat h hs
 |branch n h hd ih=>exact .branch n h ih
 |row Y hc ho hP hd ih=>exact .row Y hc (zj ho hf (λg e=>a g (hP g e))) hP ih
 |map Y hl hk ho hP hd ih=>exact .map Y hl hk (zj ho hf (λg e=>a g (hP g e))) hP ih
def DaV.dat(h:DaV env w P d t v):vX w P d v:=by
 induction h with
 |flat h hs=>exact .flat h
 |branch n h hd ih=>exact .branch n h ih
 |row Y hc ho hP hd ih=>exact .row Y hc ho hP ih
 |map Y hl hk ho hP hd ih=>exact .map Y hl hk ho hP ih
def DaV.iface(h:DaV env w P d t v):∃T x,v=.iface T x:=h.dat.iface
def DaV.plain{T:TypeId}{x:Value}(h:pm d (.iface T x))(a:T≠152):DaV env w P d t (.iface T x):=.flat h (λn l e=>by cases e;exact absurd rfl a)
end
def kH(env:Nat->Option PB)(w:World)(B:Nat)(P:Nat->Prop)(t:PT)(lv:Value)(ds:List DT):Prop:=
 ∃Y:Nat->Value,w.ownsRow B 59 1 lv ds.length ((List.range ds.length).flatMap λi=>[Y i])/\∀i d,ds[i]?=some d->DaV env w P d (xQ env t 0 i) (Y i)
def mD{α:Type}{l:List α}{a x:α}{i:Nat}(h:(l++[a])[i]?=some x):(i<l.length/\l[i]?=some x)\/(i=l.length/\x=a):=by
 by_cases hi:i<l.length
 .rw[ar_ hi]at h;exact .inl ⟨hi,h⟩
 .rw[as_ M_]at h;have h0:i-l.length=0:=by
   rcases Nat.eq_zero_or_pos (i-l.length) with e|e
   .exact e
   .rw[a4_ (by simp;omega)]at h;cases h
  rw[h0]at h;simp only[aa_,ah_]at h;exact .inr ⟨M_,h.symm⟩
section
variable {env:Nat->Option PB} {w w':World} {B:Nat} {P Q S:Nat->Prop} {t:PT} {lv:Value} {ds:List DT}
def kH.nil(env:Nat->Option PB)(w:World)(B:Nat)(P:Nat->Prop)(t:PT):kH env w B P t (L_) []:=⟨λ_=>.nilIface,World.ownsRow_nil _ _ _ _,λi d h=>by simp at h⟩
def kH.fr(h:kH env w B P t lv ds)(hf:Fr w w' S)(k:∀g,P g->¬S g)(hv:∀g,lv.ownBlock=some g->¬S g):kH env w' B P t lv ds:=by
 obtain⟨Y,a,b⟩:=h;exact⟨Y,zj a hf hv,λi d e=>(b i d e).fr hf k⟩
def kH.row(h:kH env w B P t lv ds):∃ys,w.ownsRow B 59 1 lv ds.length ys:=by
 obtain⟨Y,a,_⟩:=h;exact⟨_,a⟩
def kH.grow{w1 a:World}{lv v5 v:Value}{d:DT}{Y:Nat->Value}(m:∀i d,ds[i]?=some d->DaV env w1 (λg=>B<=g/\lv.ownBlock≠some g) d (xQ env t 0 i) (Y i))(hd:DaV env w1 (λg=>B<=g/\lv.ownBlock≠some g) d (xQ env t 0 ds.length) v)(hf:Fr w1 a (λg=>lv.ownBlock=some g\/g=c))(hc:c<B)(hl:v5.ownBlock=lv.ownBlock\/∃h,v5.ownBlock=some h/\w1.heap.size<=h)(ho:a.ownsRow B 59 1 v5 (ds.length+1) (((List.range ds.length).flatMap λi=>[Y i])++[v])):kH env a B (λg=>B<=g/\v5.ownBlock≠some g) t v5 (ds++[d]):=by
 have up:∀{d u v},DaV env w1 (λg=>B<=g/\lv.ownBlock≠some g) d u v->DaV env a (λg=>B<=g/\v5.ownBlock≠some g) d u v:=λh=>by
  have h1:DaV env w1 (λg=>(B<=g/\lv.ownBlock≠some g)/\g<w1.heap.size) _ _ _:=h.mono (λg h1 k=>⟨k,h1⟩);refine(h1.fr hf (λg hg e=>?_)).mono (λg _ hg=>⟨hg.1.1,λe=>?_⟩)
  .rcases e with e|e
   .exact hg.1.2 e
   .have:=hg.1.1;omega
  .rcases hl with h|⟨q,h,r⟩
   .exact hg.1.2 (h▸e)
   .rw[h]at e;have:=hg.2;simp only[ah_]at e;omega
 refine⟨λi=>if i<ds.length then Y i else v,?_,λi e he=>?_⟩
 .rw[ai_,av_,bp_,be_,yT ds.length _ (λi=>[Y i]) (λi hi=>by simp[hi])];simpa using ho
 .rcases mD he with⟨hi,he⟩|⟨rfl,rfl⟩
  .simp only[hi,if_true];exact up (m i e he)
  .simp only[a3_,if_false];exact up hd
def kH.dat(h:kH env w B P t lv ds)(hP:∀g,g<w.heap.size->P g->Q g)(k:∀g,lv.ownBlock=some g->Q g){T:TypeId}(hc:(c=91/\T=142)\/(c=114/\T=150)):DaV env w Q (.mk c 0 noB [] ds) t (.iface T lv):=by
 obtain⟨Y,a,b⟩:=h;exact .row Y hc (zS a) k (λi d e=>(b i d e).mono hP)
end
def pO(env:Nat->Option PB)(w:World)(P:Nat->Prop)(t:PT)(es:List (BA×DT))(ys:List Value):Prop:=
 ∃Y:Nat->Value,(ys=(List.range es.length).flatMap λi=>[.string ((es.map Prod.fst).getD i noB),Y i])/\(∀i e,es[i]?=some e->DaV env w P e.2 (xQ env t 0 i) (Y i))/\∀e∈es,e.1.size<=4000
section
variable {env:Nat->Option PB} {w w':World} {B:Nat} {P Q S:Nat->Prop} {t:PT} {es:List (BA×DT)} {ys:List Value}
def pO.nil(env:Nat->Option PB)(w:World)(P:Nat->Prop)(t:PT):pO env w P t [] []:=⟨λ_=>.nilIface,rfl,λi d h=>by simp at h,λe h=>by simp at h⟩
def pO.fr(h:pO env w P t es ys)(hf:Fr w w' S)(k:∀g,P g->¬S g):pO env w' P t es ys:=by
 obtain⟨Y,a,b,c⟩:=h;exact⟨Y,a,λi d e=>(b i d e).fr hf k,c⟩
def pO.grow{w1 m:World}{lv v5 v:Value}{key:BA}{d:DT}(h:pO env w1 (λg=>B<=g/\lv.ownBlock≠some g) t es ys)(hd:DaV env w1 (λg=>B<=g/\lv.ownBlock≠some g) d (xQ env t 0 es.length) v)(hk:key.size<=4000)(hf:Fr w1 m (λg=>lv.ownBlock=some g\/g=c))(hc:c<B)(hl:v5.ownBlock=lv.ownBlock\/∃h,v5.ownBlock=some h/\w1.heap.size<=h):pO env m (λg=>B<=g/\v5.ownBlock≠some g) t (es++[(key,d)]) (ys++[.string key,v]):=by
 obtain⟨Y,a,b,k⟩:=h;have up:∀{d u v},DaV env w1 (λg=>B<=g/\lv.ownBlock≠some g) d u v->DaV env m (λg=>B<=g/\v5.ownBlock≠some g) d u v:=λh=>by
  have h1:DaV env w1 (λg=>(B<=g/\lv.ownBlock≠some g)/\g<w1.heap.size) _ _ _:=h.mono (λg h1 r=>⟨r,h1⟩);refine(h1.fr hf (λg hg e=>?_)).mono (λg _ hg=>⟨hg.1.1,λe=>?_⟩)
  .rcases e with e|e
   .exact hg.1.2 e
   .have:=hg.1.1;omega
  .rcases hl with h|⟨q,h,y⟩
   .exact hg.1.2 (h▸e)
   .rw[h]at e;have:=hg.2;simp only[ah_]at e;omega
 refine⟨λi=>if i<es.length then Y i else v,?_,λi e he=>?_,λe he=>?_⟩
 .have y:=yT es.length (λi=>[Value.string (((es++[(key,d)]).map Prod.fst).getD i noB),if i<es.length then Y i else v]) (λi=>[Value.string ((es.map Prod.fst).getD i noB),Y i]) (λi hi=>by
   simp only[bj_,ap_]
   rw[ar_ (by simpa using hi),i_ hi])
  rw[a,ai_,av_,bp_,be_,y];simp[ap_]
 .rcases mD he with⟨hi,he⟩|⟨rfl,rfl⟩
  .simp only[hi,if_true];exact up (b i e he)
  .simp only[a3_,if_false];exact up hd
 .rcases a2_.1 he with h|h
  .exact k e h
  .simp only[a1_]at h;subst h;exact hk
def pO.dat{lv:Value}(h:pO env w P t es ys)(ho:w.ownsRow B 234 2 lv es.length ys)(hP:∀g,g<w.heap.size->P g->Q g)(h2:∀g,lv.ownBlock=some g->Q g):DaV env w Q (.mk 123 0 noB (es.map Prod.fst) (es.map Prod.snd)) t (.iface 145 lv):=by
 have cc1:=trivial
 exact cq21_
end
def yg(w0 w:World):Prop:=∀g,g<w0.heap.size->w.heap[g]?=w0.heap[g]?
def yg.refl(w:World):yg w w:=λ_ _=>rfl
def yg.fr{w0 w w':World}{S:Nat->Prop}(h:yg w0 w)(hf:Fr w w' S)(hk:w0.heap.size<=w.heap.size)(a:∀g,S g->w0.heap.size<=g):yg w0 w':=λg hg=>
 (hf.block g M_ (λe=>by have:=a g e;omega)).trans (h g hg)
def yg.err{g:Nat}{w0 w:World}{k:TypeId}{m:Value}(h:yg w0 w)(he:ji g w0 k m):ji g w k m:=
 (World.cell?_of_block (a:=⟨g,0,none⟩) (h g (World.block_lt_of_cell? w0 ⟨g,0,none⟩ he))).trans he
def yg.var{w0 w:World}(h:yg w0 w){n:String}{cs:Array Value}(hv:w0.var? prog n=some cs):w.var? prog n=some cs:=by
 unfold World.var? at hv⊢;cases hg:Tryz.prog.globalNamed n with
 |none=>rw[hg]at hv;simp at hv
 |some g=>
  rw[hg]at hv;simp only[Option.bind_some]at hv⊢;by_cases hl:g<w0.heap.size
  .rw[h g hl];exact hv
  .rw[Array.getElem?_eq_none M_]at hv;simp at hv
def Fr.grow(w:World)(k:Nat)(os:Array Obj):Fr w (Sort.grow (w.drewN k) os) N_:=by
 refine⟨rfl,rfl,rfl,?_,λg hg _=>?_⟩
 .show w.heap.size<=(w.heap++os).size;simp
 .show(w.heap++os)[g]?=w.heap[g]?;rw[Array.getElem?_append_left hg]
def yO(w0:World):Prop:=∀(W:World),yg w0 W->∀n:Nat,n<=4000->Calls prog 199 #[I_ n] W λe w'=>∃tx,e=.returned (.string tx)/\tx.size<=100000/\Fr W w' N_
def yA(w0:World):Prop:=∀(W:World),yg w0 W->∀k:BA,k.size<=4000->Calls prog 200 #[.string k] W λe w'=>∃tx,e=.returned (.string tx)/\tx.size<=100000/\Fr W w' N_
def aD:∀(k n:Nat),n<10 ^ (k+1)->Lib.nDigits n<=k+1:=by
 intro k;induction k with
 |zero=>intro n h;rw[Lib.nDigits,dif_pos (by simpa using h)];omega
 |succ k ih=>
  intro n h;rw[Lib.nDigits];split
  .omega
  .have:=ih (n / 10) (by rw[Nat.div_lt_iff_lt_mul D_];rw[Nat.pow_succ]at h;exact h);omega
def Wg{w0:World}(h:Lib.TabIs prog w0 "internal/strconv.uint64pow10" .u64 Lib.pow10Tab):yO w0:=by
 intro W a n hn
 have h1:Lib.TabIs prog W "internal/strconv.uint64pow10" .u64 Lib.pow10Tab:=a.var h
 apply(Tryz.strconv_Itoa (n:Int) M_ M_ W h1).mono;rintro e w' ⟨rfl,k,os,rfl⟩;refine⟨_,rfl,?_,Fr.grow W k os⟩;show(Lib.itoa (n:Int)).toArray.size<=100000;rw[List.size_toArray];unfold Lib.itoa;rw[n_ M_,Lib.decDigits_length];have:=aD 3 (Int.toNat (n:Int)) (by simp;omega);omega
def xG(w:World)(cv:Value)(e:Ending)(w':World):Prop:=
 ∃g tx,e=.returned (.iface 359 (P_ g))/\w.heap.size<=g/\Blk w' g [.string tx,cv] 361/\Fr w w' N_
def cq14_{p:Prop}(h:p:=by
 refine hq_ λr m=>?_;(first|(have:=cc2;have g:=zy (H w hG k hn))|(have g:=zy (H w hG n hn)));go_in;go_wp2_with (first|(go_at_call 199;apply g.o.mono;rintro e w1 ⟨tx,rfl,q,a⟩;replace a:=zy a)|(go_at_call 200;apply g.o.mono;rintro e w1 ⟨tx,rfl,q,a⟩;replace a:=zy a));try go_ret
 rw[m.o];exact⟨w1.heap.size,_,rfl,a.o.size,B_ w1 _ _,a.o.alloc _⟩):p:=h
def oP{w0 w:World}(H:yO w0)(hG:yg w0 w)(hn:n<=4000):Calls prog 187 #[I_ n,.iface cT cx] w (xG w (.iface cT cx)):=by
 exact cq14_
def tR{w0 w:World}(H:yO w0)(hG:yg w0 w)(hn:n<=4000):Calls prog 201 #[I_ n,.iface cT cx] w (xG w (.iface cT cx)):=by
 have cc1:=trivial
 exact cq14_
def ri{w0 w:World}{k:BA}(H:yA w0)(hG:yg w0 w)(hn:k.size<=4000):Calls prog 191 #[.string k,.iface cT cx] w (xG w (.iface cT cx)):=by
 have cc2:=trivial
 exact cq14_
def iD{w:World}{l:Nat}(hl:zh l=true):Calls prog 194 #[U_ l,.iface cT cx] w (xG w (.iface cT cx)):=by
 refine hq_ λh a=>?_;obtain⟨k,hk,g⟩:=wF hl;have hc:l=97\/l=98\/l=99\/l=100\/l=101\/l=102\/l=103\/l=104\/l=105\/l=106\/l=107\/l=108\/l=109\/l=110\/l=111\/l=112\/l=113\/l=114\/l=115\/l=116\/l=117\/l=118\/l=119\/l=120\/l=121\/l=122:=M_;clear hl hk g;rcases hc with rfl|rfl|rfl|rfl|rfl|rfl|rfl|rfl|rfl|rfl|rfl|rfl|rfl|rfl|rfl|rfl|rfl|rfl|rfl|rfl|rfl|rfl|rfl|rfl|rfl|rfl;all_goals
  go_in;go_wp2;try go_ret
  rw[a.o];exact⟨w.heap.size,_,rfl,l_,B_ w _ _,(A_ w _).alloc _⟩
inductive jN (w:World) (lo:Nat) (nt:TypeId) (nx:Value):Value->Prop
 |base:jN w lo nt nx (.iface nt nx)
 |within (g:Nat) (hg:lo<=g) (tx:BA) {v:Value} (hb:Blk w g [.string tx,v] 361) (h:jN w lo nt nx v):jN w lo nt nx (.iface 359 (P_ g))
def jN.fr{w w':World}{nt:TypeId}{nx v:Value}{S:Nat->Prop}(h:jN w lo nt nx v)(hf:Fr w w' S)(a:∀g,lo<=g->¬S g):jN w' lo nt nx v:=by
 induction h with
 |base=>exact .base
 |within g hg tx hb h ih=>exact .within g hg tx (hf.bl hb (a g hg)) ih
def jN.ls{w:World}{a:Nat}{nt:TypeId}{nx v:Value}(h:jN w lo nt nx v)(hl:a<=lo):jN w a nt nx v:=by
 induction h with
 |base=>exact .base
 |within g hg tx hb h ih=>exact .within g (ak_ hl hg) tx hb ih
def jN.iface{w:World}{nt:TypeId}{nx v:Value}(h:jN w lo nt nx v):∃T x,v=.iface T x:=by
 cases h<;>exact⟨_,_,rfl⟩
def jN.wrap{e:Ending}{w w':World}{nt:TypeId}{nx a v:Value}(h:jN w lo nt nx a)(m:xG w a e w')(hl:lo<=w.heap.size)(he:e=.returned v):jN w' lo nt nx v:=by
 obtain⟨g,tx,rfl,h1,a,k⟩:=m;cases he;exact .within g (ak_ hl h1) tx a (h.fr k u_)
structure NC(w0:World)(P:Nat->Prop)(ss:BA)(ds:List PD)(sv rv:Value)(xs:List Value)(s:BA)(nt:TypeId)(nx:Value)(pl:Bool)(br i:Nat)(W:World):Prop where
 R:zA W br sv rv s i (!pl)
 D:xf W P ss ds sv xs
 G:yg w0 W
 E:ji 3 w0 nt nx
 Pbr:∀g,P g->g<br
 brG:w0.heap.size<=br
 hs:s.size<=4000
 il:i<=s.size
section
variable {w0 W W':World} {P:Nat->Prop} {ss:BA} {ds:List PD} {sv rv:Value} {xs:List Value} {s:BA} {nt:TypeId} {nx:Value} {pl:Bool} {br i i':Nat}
def NC.brP(M:NC w0 P ss ds sv rv xs s nt nx pl br i W):¬P br:=λh=>a3_ _ (M.Pbr br h)
def NC.lt(M:NC w0 P ss ds sv rv xs s nt nx pl br i W):br<W.heap.size:=Blk.lt M.R
def NC.call(M:NC w0 P ss ds sv rv xs s nt nx pl br i W)(h:zA W' br sv rv s i' (!pl))(hf:Fr W W' (· = br))(hi:i'<=s.size):NC w0 P ss ds sv rv xs s nt nx pl br i' W':=by
 have h1:=M.lt;have a:=M.brG;exact⟨h,M.D.fr hf (λg hg e=>M.brP (e▸hg)),M.G.fr hf M_ (λg e=>e▸M.brG),M.E,M.Pbr,M.brG,M.hs,hi⟩
def NC.new(M:NC w0 P ss ds sv rv xs s nt nx pl br i W)(hf:Fr W W' N_):NC w0 P ss ds sv rv xs s nt nx pl br i W':=M.call (hf.bl M.R id) (hf.mono v_) M.il
def NC.si(M:NC w0 P ss ds sv rv xs s nt nx pl br i W)(hf:zq W W'):NC w0 P ss ds sv rv xs s nt nx pl br i W':=M.new ((A_ W _).si hf)
def NC.e(M:NC w0 P ss ds sv rv xs s nt nx pl br i W):W.cell? ⟨3,0,none⟩=some (.iface nt nx):=M.G.err M.E
end
def zO(env:Nat->Option PB)(t:PT)(w:World)(sv rv:Value)(s:BA)(nt:TypeId)(nx:Value)(pl:Bool)(br:Nat)(res:Option (DT×Nat))(e:Ending)(w':World):Prop:=
 ∃v ev,e=.returned (.tuple #[v,ev])/\Fr w w' (· = br)/\
 match res with
 |some (d,j)=>ev=.nilIface/\DaV env w' (λg=>w.heap.size<=g) d t v/\zA w' br sv rv s j (!pl)/\j<=s.size
 |none=>v=.nilIface/\jN w' w.heap.size nt nx ev/\∃j,zA w' br sv rv s j (!pl)/\j<=s.size
section
variable {w0 w:World} {P:Nat->Prop} {ss:BA} {ds:List PD} {sv rv:Value} {xs:List Value} {s:BA} {nt:TypeId} {nx:Value} {pl:Bool} {br i:Nat}
def ii{env:Nat->Option PB}{t:PT}{W:World}{j:Nat}(hf:Fr w W (· = br))(h:zA W br sv rv s j (!pl))(a:j<=s.size):zO env t w sv rv s nt nx pl br none (.returned (.tuple #[.nilIface,.iface nt nx])) W:=⟨.nilIface,_,rfl,hf,rfl,.base,j,h,a⟩
def nok{env:Nat->Option PB}{t:PT}{W:World}{j:Nat}{d:DT}{v:Value}(a:DaV env W (λg=>w.heap.size<=g) d t v)(hf:Fr w W (· = br))(h:zA W br sv rv s j (!pl))(k:j<=s.size):zO env t w sv rv s nt nx pl br (some (d,j)) (.returned (.tuple #[v,.nilIface])) W:=⟨v,_,rfl,hf,rfl,a,h,k⟩
end
def pL{s:BA}{i:Nat}(h:i<=s.size):i<=zG s i/\zG s i<=s.size:=⟨(vU 97 122 s _ i l_).1,(vU 97 122 s _ i l_).2 h⟩
def uM(s:BA)(i:Nat):Option (DT×Nat):=if bt s i=84 then some (.mk 116 1 noB [] [],i+1) else if bt s i=70 then some (.mk 116 0 noB [] [],i+1) else none
def aM{w0 w:World}{P:Nat->Prop}{ss:BA}{ds:List PD}{sv rv:Value}{xs:List Value}{s:BA}{nt:TypeId}{nx:Value}{pl:Bool}{br i:Nat}{t:PT}(M:NC w0 P ss ds sv rv xs s nt nx pl br i w):Calls prog 165 #[P_ br] w (zO (zx ds) t w sv rv s nt nx pl br (uM s i)):=by
 refine hq_ λa G=>?_;have A:s.size<=4000:=by have:=M.hs;omega
 have F:=zy (A_ w (λg=>g=br));have k:=M.il;replace M:=zy M;by_cases q:bt s i=84
 .have y:i+1<=s.size:=zc (s:=s) (i:=i) M_;have hr:=zy (show uM s i=some (.mk 116 1 noB [] [],i+1) by unfold uM;rw[i_ q]);have hb:=zy q;go_in;go_wp2_with (go_at_call 164;apply(yF 84 M.o.R A k D_ D_ hb).mono;rintro e H ⟨rfl,a,h⟩;have m:=zy (M.o.call h a y);have r:=zy (F.o.trans a u_));try go_ret
  rw[G.o,hr.o];exact nok (DaV.plain (.truth true) D_) r m.o.R y
 .by_cases D:bt s i=70
  .have y:i+1<=s.size:=zc (s:=s) (i:=i) M_;have hr:=zy (show uM s i=some (.mk 116 0 noB [] [],i+1) by unfold uM;rw[n_ q,i_ D]);have hn:=zy q;have hb:=zy D;go_in;go_wp2_with (first
    |(go_at_call 164;apply(xm 84 M.o.R A k D_ D_ hn).mono;rintro e H ⟨rfl,a,h⟩;have m:=zy (M.o.call h a k);have r:=zy (F.o.trans a u_))
    |(go_at_call 164;apply(yF 70 m.o.R A k D_ D_ hb).mono;rintro e I ⟨rfl,a,h⟩;have C:=zy (m.o.call h a y);have E:=zy (r.o.trans a u_)))
   try go_ret
   rw[G.o,hr.o];exact nok (DaV.plain (.truth false) D_) E C.o.R y
  .have hr:=zy (show uM s i=none by unfold uM;rw[n_ q,n_ D]);have hn:=zy q;have hb:=zy D;go_in;go_wp2_with (first
    |(go_at_call 164;apply(xm 84 M.o.R A k D_ D_ hn).mono;rintro e H ⟨rfl,a,h⟩;have m:=zy (M.o.call h a k);have r:=zy (F.o.trans a u_))
    |(go_at_call 164;apply(xm 70 m.o.R A k D_ D_ hb).mono;rintro e I ⟨rfl,a,h⟩;have C:=zy (m.o.call h a k);have E:=zy (r.o.trans a u_)))
   have a:=C.o.e;go_quiet (fail);go_wp2;try go_ret
   rw[G.o,hr.o];exact ii (E.o.si (zq.drewN _ _)) (C.o.R.si (zq.drewN _ _)) k
def nC(w:World)(sv rv:Value)(s:BA)(pl:Bool)(br i d:Nat)(e:Ending)(w':World):Prop:=
 ∃tx b,e=.returned (.tuple #[.string tx,.bool b])/\Fr w w' (· = br)/\
  ((bt s i=d/\bt s (zG s (i+1))=d/\b=true/\tx=s.extract (i+1) (zG s (i+1))/\zA w' br sv rv s (zG s (i+1)+1) (!pl)/\zG s (i+1)+1<=s.size)\/
   (¬(bt s i=d/\bt s (zG s (i+1))=d)/\b=false/\∃j,zA w' br sv rv s j (!pl)/\j<=s.size))
def fQ{w0 w:World}{P:Nat->Prop}{ss:BA}{ds:List PD}{sv rv:Value}{xs:List Value}{s:BA}{nt:TypeId}{nx:Value}{pl:Bool}{br i:Nat}{c:Int}(d:Nat)(M:NC w0 P ss ds sv rv xs s nt nx pl br i w)(hd:c=(d:Int))(E:0<d):Calls prog 184 #[P_ br,.int .u8 c] w (nC w sv rv s pl br i d):=by
 subst hd;refine hq_ λa N=>?_;have A:s.size<=4000:=by have:=M.hs;omega
 have I:=M.il;have F:=zy (A_ w (λg=>g=br));replace M:=zy M;by_cases hb:bt s i=d
 .have O:i+1<=s.size:=zc (s:=s) (i:=i) M_;have J:=pL O;obtain⟨q,m⟩:=x_ (zG s (i+1));rw[m]at J;by_cases U:bt s q=d
  .have X:q+1<=s.size:=zc (s:=s) (i:=q) M_;have D:=zy U;replace hb:=zy hb;replace m:=zy m;go_in;go_wp2_with (first
    |(go_at_call 164;apply(yF d M.o.R A I rfl E hb).mono;rintro e V ⟨rfl,r,a⟩;have C:=zy (F.o.trans r u_);replace a:=zy a)
    |(go_at_call 189;apply(ki a A O).mono;rintro e Y ⟨rfl,G,k⟩;rw[show zV 97 122 s (i+1)=q from m.o]at k⊢;have K:=zy (C.o.trans G u_);replace k:=zy k)
    |(go_at_call 164;apply(yF d k A J.2 rfl E D).mono;rintro e Z ⟨rfl,H,y⟩;have L:=zy (K.o.trans H u_);replace y:=zy y))
   try go_ret
   rw[N.o];refine⟨_,true,rfl,L,.inl ?_⟩;rw[m.o];exact⟨hb,D,rfl,rfl,y,X⟩
  .have D:=zy U;replace hb:=zy hb;replace m:=zy m;go_in;go_wp2_with (first
    |(go_at_call 164;apply(yF d M.o.R A I rfl E hb).mono;rintro e V ⟨rfl,r,a⟩;have C:=zy (F.o.trans r u_);replace a:=zy a)
    |(go_at_call 189;apply(ki a A O).mono;rintro e Y ⟨rfl,G,k⟩;rw[show zV 97 122 s (i+1)=q from m.o]at k⊢;have K:=zy (C.o.trans G u_);replace k:=zy k)
    |(go_at_call 164;apply(xm d k A J.2 rfl E D).mono;rintro e Z ⟨rfl,H,y⟩;have L:=zy (K.o.trans H u_);replace y:=zy y))
   try go_ret
   rw[N.o];refine⟨_,false,rfl,L,.inr ⟨λh=>?_,rfl,q,y,J.2⟩⟩;rw[m.o]at h;exact D.o h.2
 .have k:=zy hb;go_in;go_wp2_with (go_at_call 164;apply(xm d M.o.R A I rfl E k).mono;rintro e V ⟨rfl,r,a⟩;have C:=zy (F.o.trans r u_);replace a:=zy a);try go_ret
  rw[N.o];exact⟨_,false,rfl,C,.inr ⟨λh=>k.o h.1,rfl,i,a,I⟩⟩
def dW(s:BA)(i:Nat):Option (DT×Nat):=if bt s i=34/\bt s (zG s (i+1))=34 then some (.mk 115 0 (s.extract (i+1) (zG s (i+1))) [] [],zG s (i+1)+1) else none
def ir{w0 w:World}{t:PT}{P:Nat->Prop}{ss:BA}{ds:List PD}{sv rv:Value}{xs:List Value}{s:BA}{nt:TypeId}{nx:Value}{pl:Bool}{br i:Nat}(M:NC w0 P ss ds sv rv xs s nt nx pl br i w):Calls prog 167 #[P_ br] w (zO (zx ds) t w sv rv s nt nx pl br (dW s i)):=by
 refine hq_ λa y=>?_;have A:=zy (fQ (c:=34) 34 M rfl D_);have a:=M.hs;replace M:=zy M;by_cases hb:bt s i=34/\bt s (zG s (i+1))=34
 .have hr:=zy (show dW s i=some (.mk 115 0 (s.extract (i+1) (zG s (i+1))) [] [],zG s (i+1)+1) by unfold dW;rw[i_ hb]);replace hb:=zy hb;go_in;go_wp2_with (go_at_call 184;apply A.o.mono;rintro e r ⟨tx,b,rfl,g,hm⟩;obtain⟨rfl,rfl,a,h⟩:b=true/\tx=s.extract (i+1) (zG s (i+1))/\zA r br sv rv s (zG s (i+1)+1) (!pl)/\zG s (i+1)+1<=s.size:=(by rcases hm with⟨_,_,k,C,m,q3⟩|⟨q,_⟩;(exact⟨k,C,m,q3⟩);exact absurd hb.o q);replace g:=zy g;replace a:=zy a;replace h:=zy h);try go_ret
  rw[y.o,hr.o];exact nok (DaV.plain (.text _ (by rw[bl_];omega)) D_) g a h
 .have hr:=zy (show dW s i=none by unfold dW;rw[n_ hb]);replace hb:=zy hb;go_in;go_wp2_with (go_at_call 184;apply A.o.mono;rintro e r ⟨tx,b,rfl,g,hm⟩;obtain⟨rfl,j,a,h⟩:b=false/\∃j,zA r br sv rv s j (!pl)/\j<=s.size:=(by rcases hm with⟨r,k,_⟩|⟨_,k,m⟩;(exact absurd ⟨r,k⟩ hb);exact⟨k,m⟩);have k:=M.o.call a g h;have m:=k.e;replace g:=zy g;replace a:=zy a);go_quiet (fail);go_wp2;try go_ret
  rw[y.o,hr.o];exact ii (g.o.si (zq.drewN _ _)) (a.o.si (zq.drewN _ _)) h
def mA(s:BA)(n i:Nat):Option (DT×Nat):=if bt s i=39/\zG s (i+1)-(i+1)=n/\bt s (zG s (i+1))=39 then some (.mk 102 0 (s.extract (i+1) (zG s (i+1))) [] [],zG s (i+1)+1) else none
def aR{w0 w:World}{t:PT}{P:Nat->Prop}{ss:BA}{ds:List PD}{sv rv:Value}{xs:List Value}{s:BA}{nt:TypeId}{nx:Value}{pl:Bool}{br i:Nat}{p:Int}(M:NC w0 P ss ds sv rv xs s nt nx pl br i w):Calls prog 173 #[P_ br,.agg #[z_ p,I_ n]] w (zO (zx ds) t w sv rv s nt nx pl br (mA s n i)):=by
 refine hq_ λa E=>?_;have a:Fr w (w.alloc (.cells #[z_ p,I_ n] 222)) N_:=(A_ w _).alloc _;have A:=M.new a;have k:=M.lt;have k:=M.hs;have F:=zy (fQ (c:=39) 39 A rfl D_);have C:=B_ w #[z_ p,I_ n] 222;have D:=zy (a.mono (T:=λg=>g=br) v_);replace A:=zy A;replace C:=zy C;by_cases hb:bt s i=39/\bt s (zG s (i+1))=39
 .have a:i+1<=s.size:=zc (s:=s) (i:=i) M_;have L:=pL a;have I:(s.extract (i+1) (zG s (i+1))).size=zG s (i+1)-(i+1):=by rw[bl_];omega
  replace hb:=zy hb;have G:H_ (∀e r,nC (w.alloc (.cells #[z_ p,I_ n] 222)) sv rv s pl br i 39 e r->∃tx,e=.returned (.tuple #[.string tx,.bool true])/\tx=s.extract (i+1) (zG s (i+1))/\(tx.size:Int)=((zG s (i+1)-(i+1):Nat):Int)/\Fr (w.alloc (.cells #[z_ p,I_ n] 222)) r (· = br)/\zA r br sv rv s (zG s (i+1)+1) (!pl)/\zG s (i+1)+1<=s.size):=zy (by
   rintro e r ⟨tx,b,rfl,a,hm⟩
   rcases hm with⟨_,_,rfl,rfl,K,q3⟩|⟨q,_⟩
   .exact⟨_,rfl,rfl,by rw[I],a,K,q3⟩
   .exact absurd hb.o q)
  by_cases hn:zG s (i+1)-(i+1)=n
  .have hr:=zy (show mA s n i=some (.mk 102 0 (s.extract (i+1) (zG s (i+1))) [] [],zG s (i+1)+1) by unfold mA;rw[i_ ⟨hb.o.1,hn,hb.o.2⟩]);rw[hn]at G;go_in;go_wp2_with (go_at_call 184;apply F.o.mono;intro e r hB;obtain⟨tx,rfl,y,J,a,k,m⟩:=G.o e r hB;replace y:=zy y;have N:=(a.bl C M_).c1;revert a k m;refine h_ λa k m=>?_);try go_ret
   rw[E.o,hr.o];exact nok (by rw[<- y.o];exact DaV.plain (.bytes _ (by rw[y.o,bl_];omega)) D_) (D.o.trans a u_) k m
  .have hr:=zy (show mA s n i=none by unfold mA;rw[n_ (λh=>hn h.2.1)]);have H:∀z:Int,z=((zG s (i+1)-(i+1):Nat):Int)->(z != (n:Int))=true:=λz hz=>by rw[hz];simp;omega
   replace H:=zy H;go_in;go_wp2_with (go_at_call 184;apply F.o.mono;intro e r hB;obtain⟨tx,rfl,y,J,a,k,m⟩:=G.o e r hB;have y:=H.o _ J;have N:=(a.bl C M_).c1;have y:=(A.o.call k a m).e;revert a k m;refine h_ λa k m=>?_);go_quiet (fail);go_wp2;try go_ret
   rw[E.o,hr.o];exact ii ((D.o.trans a u_).si (zq.drewN _ _)) (k.o.si (zq.drewN _ _)) m
 .have hr:=zy (show mA s n i=none by unfold mA;rw[n_ (λh=>hb ⟨h.1,h.2.2⟩)]);replace hb:=zy hb;go_in;go_wp2_with (go_at_call 184;apply F.o.mono;rintro e r ⟨tx,b,rfl,a,hm⟩;obtain⟨rfl,j,k,m⟩:b=false/\∃j,zA r br sv rv s j (!pl)/\j<=s.size:=(by rcases hm with⟨C,r,_⟩|⟨_,r,K⟩;(exact absurd ⟨C,r⟩ hb);exact⟨r,K⟩);have y:=(A.o.call k a m).e;replace a:=zy a;replace k:=zy k);go_quiet (fail);go_wp2;try go_ret
  rw[E.o,hr.o];exact ii ((D.o.trans a u_).si (zq.drewN _ _)) (k.o.si (zq.drewN _ _)) m
def uK:∀(l:List Nat) (q b:Nat),l[q]?=some b->b∉l.take q->l.findIdx? (λc=>c==b)=some q
 | [],q,b,h,_=>by simp at h
 |a::r,0,b,h,_=>by
  simp only[aa_,ah_]at h;simp[List.findIdx?_cons,h]
 |a::r,q+1,b,h,hn=>by
  simp only[ab_]at h;simp only[List.take_succ_cons,ao_,not_or]at hn;rw[List.findIdx?_cons,n_ (by simp;omega),uK r q b h hn.2];rfl
def wD{l:List Nat}{b:Nat}(h:b∉l):l.findIdx? (λc=>c==b)=none:=by
 rw[List.findIdx?_eq_none_iff];intro x hx;exact beq_eq_false_iff_ne.2 (λe=>h (e▸hx))
def nj(s:BA)(l:List (Nat×Nat))(i:Nat):Option (DT×Nat):=
 match (l.map Prod.fst).findIdx? (λc=>c==bt s i) with|none=>none|some q=>some (.mk 101 q noB [] [],i+1)
def iu{w0 w:World}{t:PT}{P:Nat->Prop}{ss:BA}{ds:List PD}{sv rv:Value}{xs:List Value}{s:BA}{nt:TypeId}{nx:Value}{pl:Bool}{br i:Nat}{p:Int}{lv:Value}{l:List (Nat×Nat)}(M:NC w0 P ss ds sv rv xs s nt nx pl br i w)(a7:∀n,sk (zx ds) t n=(l.map Prod.fst).getD n 0)(ho:w.ownsRow 0 186 2 lv l.length (zE l))(I:∀g,lv.ownBlock=some g->P g)(hl:l.length<=300)(a6:∀q∈l,zh q.1=true):Calls prog 172 #[P_ br,.agg #[z_ p,lv,u]] w (zO (zx ds) t w sv rv s nt nx pl br (nj s l i)):=by
 refine hq_ λa8 L=>?_;obtain⟨la,lc,rfl⟩:=zl ho;have V:s.size<=4000:=by have:=M.hs;omega
 have E:=M.il;have a9:=M.lt;have Y:=M.brP;have F:Fr w (w.alloc (.cells #[z_ p,.slice la l.length lc,u] 220)) N_:=(A_ w _).alloc _;have start:H_ (∃q:Nat,Value.int .i64 0=I_ q/\q<=l.length/\l.length+1-q<=l.length+1/\Fr w (w.alloc (.cells #[z_ p,.slice la l.length lc,u] 220)) (λg=>g=br)/\zA (w.alloc (.cells #[z_ p,.slice la l.length lc,u] 220)) br sv rv s i (!pl)/\bt s i∉(l.take q).map Prod.fst):=zy ⟨0,rfl,al_ _,M_,F.mono v_,F.bl M.R id,by simp⟩;replace M:=zy M;replace ho:=zy ho;replace I:=zy I;clear F;go_in;go_wp2;go_loopg [6,11] (l.length+1) (λm v6 v W=>∃q:Nat,v=I_ q/\q<=l.length/\l.length+1-q<=m/\Fr w W (λg=>g=br)/\zA W br sv rv s i (!pl)/\bt s i∉(l.take q).map Prod.fst);case atStart=>exact start
 case round=>
  clear start;obtain⟨q,rfl,hq,hm,hf,y,he⟩:=hrel;have b4:=hf.size;by_cases H:q<l.length
  .have a2:(q:Int)<(l.length:Int):=M_;have hd:l[q]?=some l[q]:=af_ H;have U:l[q]∈l:=a0_ H;generalize l[q]=f at hd U;obtain⟨c,X⟩:=f;obtain⟨k,hk,a1⟩:=wF (a6 _ U);have N:0<c:=by have:c=97+k:=hk;omega
   clear hk a1;obtain⟨g,cap,a0⟩:=zm ho M_;cases a0;have a4:¬g=br:=λe=>Y (e▸I.o g rfl);have J:=zj ho hf (λg' e=>by simp only[Value.ownBlock,ah_]at e;subst e;exact a4);have c0:=zr J rfl (vf hd).1;have c1:=zr J rfl (vf hd).2;have K:=nO hd;have A:=(A_ wr N_).alloc (.cells #[I_ X,U_ c] 186);have C:=B_ wr #[I_ X,U_ c] 186;have D:=A.bl y id;have O:=zy (hf.trans A v_);clear J;by_cases hb:bt s i=c
   .have G:=zy (yF c (show zA _ br sv rv s i (!pl) from D) V E rfl N hb);have a3:i+1<=s.size:=zc (s:=s) (i:=i) M_;have hr:=zy (show nj s l i=some (.mk 101 (q:Int) noB [] [],i+1) by unfold nj;rw[uK _ q (bt s i) (by rw[aq_,hd,hb];rfl) (by rw[<- List.map_take];exact he)]);have a5:=zy (show sk (zx ds) t q=c/\c<256 from⟨by rw[a7,ap_,aq_,hd];rfl,by have:=eQ s i;omega⟩);replace C:=zy C;clear D y hf A he K hb;go_wp2_with (go_at_call 164;apply G.o.mono;rintro e w2 ⟨rfl,a,r⟩;have n1:=(a.bl C M_).c1;replace a:=zy a;replace r:=zy r);try go_ret
    rw[L.o,hr.o];exact nok (.flat (.sym q c M_) (λn l' e=>by cases e;exact a5)) (O.o.trans a u_) r a3
   .have G:=zy (xm c (show zA _ br sv rv s i (!pl) from D) V E rfl N hb);have Z:=zy (show bt s i∉(l.take (q+1)).map Prod.fst by rw[K,a2_,a1_];rintro(h|h);exact he h;exact hb h);clear D y hf A he K hb C;go_wp2_with (go_at_call 164;apply G.o.mono;rintro e w2 ⟨rfl,a,r⟩;replace a:=zy a;replace r:=zy r);go_roundg (l.length+1-(q+1));case measure=>omega
    case rel=>exact⟨q+1,rfl,H,l_,O.o.trans a u_,r,Z⟩
  .have a2:¬((q:Int)<(l.length:Int)):=M_;rw[bv_ M_]at he;have hr:=zy (show nj s l i=none by unfold nj;rw[wD he]);have e0:=(M.o.call y hf E).e;replace hf:=zy hf;replace y:=zy y;clear he;go_wp2;go_quiet (fail);go_wp2;try go_ret
   rw[L.o,hr.o];exact ii (hf.o.si (zq.drewN _ _)) (y.o.si (zq.drewN _ _)) E
def vG{St:Type}(step:St->Nat->Option (St×Nat))(s:BA)(fin:Nat):Nat->St->Nat->Option (St×Nat)
 | 0,_,_=>none
 |n+1,σ,j=>
  match step σ j with
  |none=>none
  |some (σ',j')=>if bt s j'=fin then some (σ',j'+1) else if bt s j'=44 then vG step s fin n σ' (j'+1) else none
def jz{St:Type}(step:St->Nat->Option (St×Nat))(s:BA)(op fin:Nat)(σ:St)(i:Nat):Option (St×Nat):=
 if bt s i=op then (if bt s (i+1)=fin then some (σ,i+2) else vG step s fin (s.size+2) σ (i+1)) else none
structure nB{St:Type}(sv rv:Value)(s:BA)(nt:TypeId)(nx:Value)(pl:Bool)(br fid:Nat)(caps:Array Value)(step:St->Nat->Option (St×Nat))(Inv:St->Nat->World->Prop)(Bad:Value->World->Prop):Prop where
 F:∀W:World,(callFunc fid caps).run prog W=.ok (.enter fid caps) W
 R:∀{σ j W},Inv σ j W->zA W br sv rv s j (!pl)/\j<=s.size/\W.cell? ⟨3,0,none⟩=some (.iface nt nx)
 K:∀{σ j j' W W'},Inv σ j W->zA W' br sv rv s j' (!pl)->Fr W W' (· = br)->j'<=s.size->j<=j'->Inv σ j' W'
 B:∀{σ j W},Inv σ j W->Bad (.iface nt nx) W
 C:∀{σ j W},Inv σ j W->Calls prog fid caps W λe W'=>∃v,e=.returned v/\match step σ j with|some (σ',j')=>v=.nilIface/\j<j'/\Inv σ' j' W'|none=>(∃T x,v=.iface T x)/\Bad v W'
def dz{St:Type}(Inv:St->Nat->World->Prop)(Bad:Value->World->Prop)(res:Option (St×Nat))(e:Ending)(w':World):Prop:=
 ∃v,e=.returned v/\match res with|some (σ,j)=>v=.nilIface/\Inv σ j w'|none=>(∃T x,v=.iface T x)/\Bad v w'
def gX{St:Type}{sv rv:Value}{s:BA}{nt:TypeId}{nx:Value}{pl:Bool}{br fid:Nat}{caps:Array Value}{step:St->Nat->Option (St×Nat)}{Inv:St->Nat->World->Prop}{Bad:Value->World->Prop}(I:nB sv rv s nt nx pl br fid caps step Inv Bad){w:World}{σ:St}{i:Nat}{co cf:Int}(h fin:Nat)(k:zA w br sv rv s i (!pl))(J:i<=s.size)(H:∀W',zA W' br sv rv s (i+1) (!pl)->Fr w W' (· = br)->i+1<=s.size->Inv σ (i+1) W')(E:∀W',zA W' br sv rv s i (!pl)->Fr w W' (· = br)->Bad (.iface nt nx) W'/\W'.cell? ⟨3,0,none⟩=some (.iface nt nx))(y:s.size<=4000)(a:co=(h:Int))(Y:cf=(fin:Int))(O:0<h)(N:0<fin):Calls prog 185 #[P_ br,.int .u8 co,.int .u8 cf,.func (.func fid) #[] caps] w (dz Inv Bad (jz step s h fin σ i)):=by
 subst a;subst Y;refine hq_ λa L=>?_;by_cases A:bt s i=h;case neg=>
  have hr:=zy (show jz step s h fin σ i=none by unfold jz;rw[n_ A]);have D:=zy (xm h k y J rfl O A);replace E:=zy E;clear k A H;go_in;go_wp2_with (go_at_call 164;apply D.o.mono;rintro e g ⟨rfl,r,a⟩;obtain⟨G,M⟩:=E.o g a r;replace G:=zy G;clear r a);try go_ret
  rw[L.o,hr.o];exact⟨_,rfl,⟨_,_,rfl⟩,G.o⟩
 case pos=>
 have M:i+1<=s.size:=zc (s:=s) (i:=i) M_;have D:=zy (yF h k y J rfl O A);replace H:=zy H;replace I:=zy I;clear E;by_cases E:bt s (i+1)=fin;case pos=>
  have U:i+1+1<=s.size:=zc (s:=s) (i:=i+1) M_;have hr:=zy (show jz step s h fin σ i=some (σ,i+2) by unfold jz;rw[i_ A,i_ E]);have X:H_ (∀g,zA g br sv rv s (i+1) (!pl)->_):=zy (λg a=>yF (w:=g) fin a y M rfl N E);clear k A E;go_in;go_wp2_with (first
   |(go_at_call 164;apply D.o.mono;rintro e g ⟨rfl,r,a⟩;have O:=zy (H.o g a r M);clear r D;replace a:=zy a)
   |(go_at_call 164;apply(X.o g a.o).mono;rintro e Z ⟨rfl,J,G⟩;have V:=zy (I.o.K O.o G J U M_);clear J G))
  try go_ret
  rw[L.o,hr.o];exact⟨_,rfl,rfl,V.o⟩
 case neg=>
  have hr:=zy (show jz step s h fin σ i=vG step s fin (s.size+2) σ (i+1) by unfold jz;rw[i_ A,n_ E]);have X:H_ (∀g,zA g br sv rv s (i+1) (!pl)->_):=zy (λg a=>xm (w:=g) fin a y M rfl N E);clear k A E;go_in;go_wp2_with (first
   |(go_at_call 164;apply D.o.mono;rintro e g ⟨rfl,r,a⟩;have O:=zy (H.o g a r M);clear r D;replace a:=zy a)
   |(go_at_call 164;apply(X.o g a.o).mono;rintro e Z ⟨rfl,J,G⟩;have V:=I.o.K O.o G J M l_;have start:=zy (⟨s.size+2,σ,i+1,V,M_,M_,hr.o⟩:∃n σ' j,Inv σ' j Z/\s.size+1-j<=s.size+1/\s.size+1-j<=n/\jz step s h fin σ i=vG step s fin n σ' j);clear V J G O hr))
  go_loopg [] (s.size+1) (λm W=>∃n σ' j,Inv σ' j W/\s.size+1-j<=m/\s.size+1-j<=n/\jz step s h fin σ i=vG step s fin n σ' j);case atStart=>exact start.o
  case round=>
   clear start;have Y:=I.o.F;obtain⟨n,σ1,j,a,hm,hn,hr⟩:=hrel;obtain⟨k,g,r⟩:=I.o.R a;have g:=I.o.C a;obtain⟨X,rfl⟩:∃X,n=X+1:=⟨n-1,M_⟩;rw[vG]at hr;cases h:step σ1 j with
   |none=>
    rw[h]at hr g;replace hr:=zy hr;replace g:=zy g;clear k r a h;go_wp2_with (apply g.o.mono;rintro e w5 ⟨v5,rfl,⟨vT,vx,rfl⟩,hB⟩;replace hB:=zy hB;clear g);try go_ret
    rw[L.o,hr.o];exact⟨_,rfl,⟨_,_,rfl⟩,hB.o⟩
   |some q=>
    obtain⟨σ2,G⟩:=q;rw[h]at hr g;simp only at hr;replace g:=zy g;clear k r a h;by_cases k:bt s G=fin
    .rw[i_ k]at hr;replace hr:=zy hr;have U:G+1<=s.size:=zc (s:=s) (i:=G) M_;replace k:=zy k;go_wp2_with (first
      |(apply g.o.mono;rintro e w5 ⟨v5,rfl,rfl,Y,a⟩;have H:=zy ((I.o.R a).1);have r:=(I.o.R a).2.1;replace a:=zy a;clear g)
      |(go_at_call 164;apply(yF fin H.o y r rfl N k.o).mono;rintro e Z ⟨rfl,E,A⟩;have h:=zy (I.o.K a.o A E U M_);clear E A))
     try go_ret
     rw[L.o,hr.o];exact⟨_,rfl,rfl,h.o⟩
    .rw[n_ k]at hr;by_cases D:bt s G=44
     .rw[i_ D]at hr;replace hr:=zy hr;have U:G+1<=s.size:=zc (s:=s) (i:=G) M_;replace k:=zy k;replace D:=zy D;go_wp2_with (first
       |(apply g.o.mono;rintro e w5 ⟨v5,rfl,rfl,Y,a⟩;have H:=zy ((I.o.R a).1);have r:=(I.o.R a).2.1;replace a:=zy a;clear g)
       |(go_at_call 164;apply(xm fin H.o y r rfl N k.o).mono;rintro e Z ⟨rfl,E,A⟩;have h:=I.o.K a.o A E r l_;have V:=zy ((I.o.R h).1);replace h:=zy h;clear E A H)
       |(go_at_call 164;apply(yF 44 V.o y r rfl D_ D.o).mono;rintro e w7 ⟨rfl,O,M⟩;have J:=zy (I.o.K h.o M O U M_);clear O M))
      go_roundg (s.size+1-(G+1));case measure=>omega
      case rel=>exact⟨X,σ2,G+1,J.o,l_,M_,hr.o⟩
     .rw[n_ D]at hr;replace hr:=zy hr;replace k:=zy k;replace D:=zy D;go_wp2_with (first
       |(apply g.o.mono;rintro e w5 ⟨v5,rfl,rfl,Y,a⟩;have H:=zy ((I.o.R a).1);have r:=(I.o.R a).2.1;replace a:=zy a;clear g)
       |(go_at_call 164;apply(xm fin H.o y r rfl N k.o).mono;rintro e Z ⟨rfl,E,A⟩;have h:=I.o.K a.o A E r l_;have V:=zy ((I.o.R h).1);replace h:=zy h;clear E A H)
       |(go_at_call 164;apply(xm 44 V.o y r rfl D_ D.o).mono;rintro e w7 ⟨rfl,O,M⟩;have J:=I.o.K h.o M O r l_;have a:=(I.o.R J).2.2;replace J:=zy J;clear O M))
      try go_ret
      rw[L.o,hr.o];exact⟨_,rfl,⟨_,_,rfl⟩,I.o.B J.o⟩
def jW(w0:World)(P:Nat->Prop)(ss:BA)(ds:List PD)(sv rv:Value)(xs:List Value)(s:BA)(nt:TypeId)(nx:Value)(pl:Bool)(br f:Nat)(t:PT)(j:Nat):Prop:=
 ∀(w:World) (v:Value),NC w0 P ss ds sv rv xs s nt nx pl br j w->TyV w P t v->
  Calls prog 135 #[P_ br,v] w (zO (zx ds) t w sv rv s nt nx pl br (rdT s (zx ds) pl f t j))
def kF(R:Nat->Option (DT×Nat))(l:List DT)(j:Nat):Option (List DT×Nat):=(R j).map (λq=>(l++[q.1],q.2))
def oY(R:Nat->Option (DT×Nat))(s:BA)(fin:Nat):∀n l j last,vG (kF R) s fin n l j=(yC R s fin false n last j).map (λq=>(l++q.1.map Prod.snd,q.2)):=by
 intro n;induction n with
 |zero=>intro l j last;rfl
 |succ n ih=>
  intro l j last;rw[vG,yC];simp only[kE,bs_,if_false,kF];cases R j with
  |none=>rfl
  |some q=>
   obtain⟨d,j'⟩:=q;simp only[bz_];split
   .rfl
   .split
    .rw[ih (l++[d]) (j'+1) (some noB)];cases yC R s fin false n (some noB) (j'+1) with
     |none=>rfl
     |some q=>simp
    .rfl
def Xl(R:Nat->Option (DT×Nat))(s:BA)(i:Nat):xI R s 91 i=(jz (kF R) s 91 93 [] i).map (λq=>(.mk 91 0 noB [] q.1,q.2)):=by
 unfold jz xI qQ;by_cases h:bt s i=91
 .rw[i_ h,i_ h,show yE 91=93 from rfl,show((91:Nat)==123)=false from rfl];by_cases a:bt s (i+1)=93
  .rw[i_ a,i_ a];rfl
  .rw[n_ a,n_ a,oY R s 93 _ [] (i+1) none];cases yC R s 93 false (s.size+2) none (i+1) with
   |none=>rfl
   |some q=>simp
 .rw[n_ h,n_ h];rfl
structure LI(w0 w:World)(P:Nat->Prop)(ss:BA)(ds:List PD)(sv rv:Value)(xs:List Value)(s:BA)(nt:TypeId)(nx:Value)(pl:Bool)(br i:Nat)(t:PT)(p:Int)(v:Value)(l:List DT)(j:Nat)(W:World):Prop where
 M:NC w0 P ss ds sv rv xs s nt nx pl br j W
 fr:Fr w W (· = br)
 lt:br<w.heap.size
 hB:w.heap.size+3<=W.heap.size
 b2:Blk W w.heap.size [P_ br] 293
 b3:Blk W (w.heap.size+1) [z_ p,v] 206
 ty:TyV W P t v
 c:i+l.length<j
 row:∃lv,Blk W (w.heap.size+2) [lv] 142/\kH (zx ds) W (w.heap.size+3) (λg=>w.heap.size+3<=g/\lv.ownBlock≠some g) (.wrap 91 0 t) lv l
section
variable {w0 w:World} {P:Nat->Prop} {ss:BA} {ds:List PD} {sv rv:Value} {xs:List Value} {s:BA} {nt:TypeId} {nx:Value} {pl:Bool} {br i:Nat} {t:PT} {p:Int} {v:Value} {l:List DT} {j j':Nat} {W W':World}
def LI.call(L:LI w0 w P ss ds sv rv xs s nt nx pl br i t p v l j W)(h:zA W' br sv rv s j' (!pl))(hf:Fr W W' (· = br))(k:j'<=s.size)(hc:i+l.length<j'):LI w0 w P ss ds sv rv xs s nt nx pl br i t p v l j' W':=by
 have h1:=L.lt;obtain⟨lv,r1,a⟩:=L.row;obtain⟨ys,m⟩:=a.row;exact⟨L.M.call h hf k,L.fr.trans hf u_,L.lt,ak_ L.hB hf.size,hf.bl L.b2 M_,hf.bl L.b3 M_,L.ty.fr hf (λg hg e=>L.M.brP (e▸hg)),hc,lv,hf.bl r1 M_,a.fr hf (λg hg e=>M_) (λg hg e=>by have:=m.lt g hg;omega)⟩
end
def eL(w:World)(sv rv:Value)(s:BA)(nt:TypeId)(nx:Value)(pl:Bool)(br:Nat)(ev:Value)(W:World):Prop:=
 Fr w W (· = br)/\jN W w.heap.size nt nx ev/\∃j,zA W br sv rv s j (!pl)/\j<=s.size
def Kh:Tryz.prog.underlying 142=some (.slice 59):=K_
def mC:(Tryz.prog.info? 59).map (λi=>(i.zero,i.size,i.bytes))=some (some .nilIface,1,16):=K_
def aH{w0 w:World}{P:Nat->Prop}{ss:BA}{ds:List PD}{sv rv:Value}{xs:List Value}{s:BA}{nt:TypeId}{nx:Value}{pl:Bool}{br i:Nat}{t:PT}{p:Int}{l:List DT}{j f:Nat}{W:World}(L:LI w0 w P ss ds sv rv xs s nt nx pl br i t p (.iface vT vx) l j W)(C:yO w0)(a:jW w0 P ss ds sv rv xs s nt nx pl br f t j)(U:∀d j',rdT s (zx ds) pl f t j=some (d,j')->j<j'):Calls prog 186 #[P_ w.heap.size,.pointer (some ⟨w.heap.size+1,0,none⟩),.pointer (some ⟨w.heap.size+2,0,none⟩)] W λe W'=>∃v,e=.returned v/\match kF (rdT s (zx ds) pl f t) l j with|some (l',j')=>v=.nilIface/\j<j'/\LI w0 w P ss ds sv rv xs s nt nx pl br i t p (.iface vT vx) l' j' W'|none=>(∃T x,v=.iface T x)/\eL w sv rv s nt nx pl br v W':=by
 refine hq_ λm O=>?_;have F:=zy (a W _ L.M L.ty);have a:=L.b2.c0;have a:=L.b3.c1;have a:=L.M.il;have a:=L.M.hs;have a:=L.c;have a:=L.lt;replace L:=zy L;cases hp:rdT s (zx ds) pl f t j with
 |none=>
  have J:=zy (show kF (rdT s (zx ds) pl f t) l j=none by unfold kF;rw[hp];rfl);replace hp:=zy hp;go_in;go_wp2_with (first
   |(go_at_call 135;apply F.o.mono;rintro e w1 ⟨v1,H,rfl,a,hm⟩;rw[hp.o]at hm;obtain⟨rfl,y,V,h1,A⟩:=hm;obtain⟨eT,m,rfl⟩:=y.iface;have m:=(L.o.M.call h1 a A).G;obtain⟨lv,r1,r⟩:=L.o.row;obtain⟨ys,N⟩:=r.row;obtain⟨la,lc,rfl⟩:=zl N;have Z:=(a.bl r1 M_).c0;replace a:=zy a;replace y:=zy y;replace h1:=zy h1;replace m:=zy m)
   |(go_at_call 187;apply(oP (n:=l.length) C m M_).mono;intro e m K;obtain⟨I,X,rfl,m,C,m⟩:=K;replace m:=zy m;replace C:=zy C))
  try go_ret
  rw[O.o];refine⟨_,rfl,?_⟩;rw[J.o];have K:=(L.o.fr.trans a u_).size;have K:=L.o.fr.size;exact⟨⟨_,_,rfl⟩,(L.o.fr.trans a u_).trans m v_,.within I M_ X C ((y.o.ls K).fr m u_),V,m.o.bl h1 id,A⟩
 |some q=>
  obtain⟨d,m⟩:=q;have X:=U d m hp;have J:=zy (show kF (rdT s (zx ds) pl f t) l j=some (l++[d],m) by unfold kF;rw[hp];rfl);replace hp:=zy hp;obtain⟨ti,I,K,U,V⟩:=info_parts mC;go_in;go_wp2_with (first
   |(go_at_call 135;apply F.o.mono;rintro e w1 ⟨v1,H,rfl,a,hm⟩;rw[hp.o]at hm;obtain⟨rfl,H,h1,A⟩:=hm;obtain⟨dT,dx,rfl⟩:=H.iface;have m:=L.o.call h1 a A M_;obtain⟨lv,A,Y,y,C⟩:=L.o.row;have N:=zy y.lt;have r1:=a.bl A M_;have r:=zj y a (λg hg e=>(by have:=y.lt g hg;omega));have rY:=zy (λi d (e:l[i]?=some d)=>(C i d e).fr a (λg hg e=>(by omega)));obtain⟨la,lc,rfl⟩:=zl r;replace H:=zy H;have Z:=r1.c0;have y:=m.hB;replace m:=zy m;replace r1:=zy r1;replace r:=zy r)
   |(at_builtin;go_must (refine wpList_append_own_at _ rfl _ _ 142 rfl (w.heap.size+3) 59 ti _ 1 16 Kh I K U V rfl D_ (.slice la l.length lc) l.length ((List.range l.length).flatMap λi=>[Y i]) rfl ?hown _ 1 1 [.iface dT dx] rfl rfl (zN _ #[.iface dT dx] _ _ ?nn) ?one ?b1 ?b2 ?b3 ?_)
     case hown=>exact World.ownsRow.alloc r _
     case nn=>simp
     case one=>simp[Value.oneCell']
     case b1=>unfold maxLen;omega
     case b2=>omega
     case b3=>simp;omega
     intro v5 w5 C y Z U
     have A:Fr w1 w5 (λg=>(Value.slice la l.length lc).ownBlock=some g):=a_ ((A_ w1 _).alloc _) y (λk e _=>e)
     have a:=(A.bl r1 (λe=>by have:=r.o.lt _ e;omega)).cell 0
     have F:=(A.bl r1 (λe=>by have:=r.o.lt _ e;omega)).th 0
     have I:=A.bl r1 (λe=>by have:=r.o.lt _ e;omega)
     simp only[aa_]at a
     have K:∀g,v5.ownBlock=some g->w.heap.size+3<=g:=(λg hg=>(C.lt g hg).1)
     obtain⟨F,a,rfl⟩:=zm C M_
     replace A:=zy A
     replace C:=zy C
     replace I:=zy I
     replace K:=zy K
     have V:H_ ((Value.slice (some ⟨F,0,none⟩) (l.length+1) a).ownBlock=(Value.slice la l.length lc).ownBlock\/∃h,(Value.slice (some ⟨F,0,none⟩) (l.length+1) a).ownBlock=some h/\w1.heap.size<=h):=zy (U.imp id (λe=>⟨_,e,by simp⟩))
     clear y U Z))
  try go_ret
  rw[O.o];refine⟨_,rfl,?_⟩;rw[J.o];refine⟨rfl,X,?_⟩;have J:Fr w5 (w5.setCell ⟨w.heap.size+2,0,none⟩ (S_ F (l.length+1) a)) (λg=>g=w.heap.size+2):=(A_ w5 (λg=>g=w.heap.size+2)).setCell ⟨w.heap.size+2,0,none⟩ _ (λ_=>rfl);have y:Fr w1 (w5.setCell ⟨w.heap.size+2,0,none⟩ (S_ F (l.length+1) a)) (λg=>w.heap.size+2<=g):=(A.o.mono (λg _ e=>by have:=r.o.lt g e;omega)).trans J (λg _ e=>M_);have a:=m.o.M;have r:=a.brG;have r:∀g,P g->¬(w.heap.size+2<=g):=λg hg=>by have:=a.Pbr g hg;omega
  exact⟨⟨y.bl a.R M_,a.D.fr y r,a.G.fr y (by have:=a.lt;omega) (λg e=>M_),a.E,a.Pbr,a.brG,a.hs,a.il⟩,m.o.fr.trans y (λg hg e=>M_),m.o.lt,ak_ m.o.hB y.size,y.bl m.o.b2 M_,y.bl m.o.b3 M_,m.o.ty.fr y r,by rw[ai_,av_];omega,_,I.o.set 0 _,kH.grow (t:=.wrap 91 0 t) (c:=w.heap.size+2) rY (H.o.mono (λg _ hg=>⟨by have:=L.o.hB;omega,λe=>by have:=N.o g e;omega⟩)) ((A.o.mono (λ_ _ e=>.inl e)).trans J (λ_ _ e=>.inr e)) M_ V (zj C J (λg hg e=>by have:=K.o g hg;omega))⟩
def JR{w0 w:World}{P:Nat->Prop}{ss:BA}{ds:List PD}{sv rv:Value}{xs:List Value}{s:BA}{nt:TypeId}{nx:Value}{pl:Bool}{br i:Nat}{t:PT}{p:Int}(M:NC w0 P ss ds sv rv xs s nt nx pl br i w)(q:TyV w P t (.iface vT vx)){W':World}(h:zA W' br sv rv s (i+1) (!pl))(hf:Fr (((w.alloc (.cells #[P_ br] 293)).alloc (.cells #[z_ p,.iface vT vx] 206)).alloc (.cells #[L_] 142)) W' (· = br))(hi:i+1<=s.size):LI w0 w P ss ds sv rv xs s nt nx pl br i t p (.iface vT vx) [] (i+1) W':=by
 have r:=M.lt;have A:Fr w (((w.alloc (.cells #[P_ br] 293)).alloc (.cells #[z_ p,.iface vT vx] 206)).alloc (.cells #[L_] 142)) N_:=(((A_ w _).alloc _).alloc _).alloc _;have hz:(((w.alloc (.cells #[P_ br] 293)).alloc (.cells #[z_ p,.iface vT vx] 206)).alloc (.cells #[L_] 142)).heap.size=w.heap.size+3:=by simp
 have y:(w.alloc (.cells #[P_ br] 293)).heap.size=w.heap.size+1:=by simp
 have C:((w.alloc (.cells #[P_ br] 293)).alloc (.cells #[z_ p,.iface vT vx] 206)).heap.size=w.heap.size+2:=by simp
 have m:=((B_ w #[P_ br] 293).alloc (.cells #[z_ p,.iface vT vx] 206)).alloc (.cells #[L_] 142);have a:=(B_ (w.alloc (.cells #[P_ br] 293)) #[z_ p,.iface vT vx] 206).alloc (.cells #[L_] 142);have k:=B_ ((w.alloc (.cells #[P_ br] 293)).alloc (.cells #[z_ p,.iface vT vx] 206)) #[L_] 142;rw[y]at a;rw[C]at k;have y:=hf.size;exact⟨(M.new A).call h hf hi,(A.mono v_).trans hf u_,r,M_,hf.bl m M_,hf.bl a M_,(q.fr A u_).fr hf (λg hg e=>M.brP (e▸hg)),by simp,_,hf.bl k M_,kH.nil _ _ _ _ _⟩
def YO{q0:Nat}{w0 w:World}{P:Nat->Prop}{ss:BA}{ds:List PD}{sv rv:Value}{xs:List Value}{s:BA}{nt:TypeId}{nx:Value}{pl:Bool}{br i:Nat}{t:PT}{p:Int}{f:Nat}(M:NC w0 P ss ds sv rv xs s nt nx pl br i w)(I:TyV w P t (.iface vT vx))(G:yO w0)(H:∀j,i<j->j<=s.size->jW w0 P ss ds sv rv xs s nt nx pl br f t j):Calls prog 168 #[P_ br,.agg #[z_ p,.iface vT vx]] w (zO (zx ds) (.wrap 91 q0 t) w sv rv s nt nx pl br (xI (rdT s (zx ds) pl f t) s 91 i)):=by
 refine hq_ λk D=>?_;have L:s.size<=4000:=by have:=M.hs;omega
 have A:Fr w (((w.alloc (.cells #[P_ br] 293)).alloc (.cells #[z_ p,.iface vT vx] 206)).alloc (.cells #[L_] 142)) N_:=(((A_ w _).alloc _).alloc _).alloc _;have J:=qx s (zx ds) pl f t;have y:nB sv rv s nt nx pl br 186 #[P_ w.heap.size,.pointer (some ⟨w.heap.size+1,0,none⟩),.pointer (some ⟨w.heap.size+2,0,none⟩)] (kF (rdT s (zx ds) pl f t)) (λl j W=>LI w0 w P ss ds sv rv xs s nt nx pl br i t p (.iface vT vx) l j W) (eL w sv rv s nt nx pl br):=
  { F:=λW=>by kernel_rfl
    R:=λh=>⟨h.M.R,h.M.il,h.M.e⟩
    K:=λh h1 k r m=>h.call h1 k r (by have:=h.c;omega)
    B:=λh=>⟨h.fr,.base,_,h.M.R,h.M.il⟩
    C:=λ{l j W} h=>(aH h G (H j (by have:=h.c;omega) h.M.il) (λd j' e=>(J j d j' e).1)).mono (by
     rintro e W' ⟨v,he,hm⟩
     refine⟨v,he,?_⟩
     cases m:kF (rdT s (zx ds) pl f t) l j with
     |none=>rw[m]at hm;exact hm
     |some q=>obtain⟨a,b⟩:=q;rw[m]at hm;exact hm) }
 have E:=zy (gX y (w:=(((w.alloc (.cells #[P_ br] 293)).alloc (.cells #[z_ p,.iface vT vx] 206)).alloc (.cells #[L_] 142))) (σ:=([]:List DT)) (i:=i) (co:=91) (cf:=93) 91 93 (A.bl M.R id) M.il (λW' h hf hi=>JR M I h hf hi) (λW' h hf=>⟨⟨(A.mono v_).trans hf u_,.base,i,h,M.il⟩,((M.new A).call h hf M.il).e⟩) L rfl rfl D_ D_);have m:=zy (Xl (rdT s (zx ds) pl f t) s i);cases hp:jz (kF (rdT s (zx ds) pl f t)) s 91 93 [] i with
 |none=>
  rw[hp]at m;replace hp:=zy hp;go_in;go_wp2_with (go_at_call 185;apply E.o.mono;rintro e G ⟨y,rfl,hm⟩;rw[hp.o]at hm;obtain⟨⟨eT,H,rfl⟩,hB⟩:=hm;replace hB:=zy hB);try go_ret
  rw[D.o,m.o];obtain⟨h1,k,r⟩:=hB.o;exact⟨.nilIface,_,rfl,h1,rfl,k,r⟩
 |some q=>
  obtain⟨k,k⟩:=q;rw[hp]at m;replace hp:=zy hp;go_in;go_wp2_with (go_at_call 185;apply E.o.mono;rintro e G ⟨y,rfl,hm⟩;rw[hp.o]at hm;obtain⟨rfl,k⟩:=hm;obtain⟨lv,r1,r⟩:=k.row;obtain⟨ys,y⟩:=r.row;obtain⟨la,lc,rfl⟩:=zl y;have E:=r1.c0;have E:=zy ((show kH (zx ds) _ _ _ (.wrap 91 q0 t) _ _ from r).dat (Q:=λg=>w.heap.size<=g) (λg _ hg=>(by omega)) (λg hg=>(by have:=y.lt g hg;omega)) (.inl ⟨rfl,rfl⟩));replace k:=zy k);try go_ret
  rw[D.o,m.o];exact nok E k.o.fr k.o.M.R k.o.M.il
end Go.Proofs.YtjkiencmjggakaaGreatDoor
