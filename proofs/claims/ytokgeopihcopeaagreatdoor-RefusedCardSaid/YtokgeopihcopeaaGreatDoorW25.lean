import Derived.Test.YtokgeopihcopeaaGreatDoorW24
set_option linter.unusedVariables false
set_option maxHeartbeats 16000000
set_option maxRecDepth 100000
set_option linter.defProp false
set_option linter.unusedSimpArgs false
open Go.Proofs.Tryz
namespace Go.Proofs.YtokgeopihcopeaaGreatDoor
open Go.RowKit
variable {g g':Aq}{W w W':Aw}{rv rv' d:Ax}{n i k m p j q:Nat}{s:BA}{ew er:Au}{t y:PT}{T:Av}
def qZ{f:Et}{fn:Func}{c:Code}(hf:Tryz.prog.funcs[f]?=some fn)(b:(fn.name == "runtime.NumGoroutine")=false)(hb:fn.body=some c):∀a W,(callFunc f a).run prog W=.ok (.enter f a) W:=by
 intro a w
 have h1:fn.name≠ "runtime.NumGoroutine":=by simpa using b
 simp[callFunc,hf,h1,hb,mark]
def cU{B g:Nat}{e:Av}{cs:Ay}(h:Blk w g cs e)(hb:B<=g)(hl:cs.length=n*k)(hn:n<=maxLen):w.ownsRow B e k (S_ g n n) n cs:=
 ⟨hl,.inr ⟨g,n,cs.toArray,rfl,hb,h,l_,hn,by simp[hl],by simp[<- hl]⟩⟩
def Xp{b:Nat}{dv pv:Ax}(h:Blk w b [dv] T):Calls prog 147 #[pv,P_ b] w λe w'=>e=.returned dv/\Fr w w' N_:=by
 refine hq_ λa a=>?_;have c0:=h.c0;go_in;go_wp2;try go_ret
 rw[a.o];exact⟨rfl,A_ _ _⟩
def nR{x:Ax}:Calls prog 87 #[.iface T x] w λe w'=>e=.returned (.agg #[Z_ 1,.iface T x])/\Fr w w' N_:=by
 refine hq_ λu f=>?_;obtain⟨w1,hw1⟩:=e_ ((w.alloc (.cells #[.iface T x] 52)).alloc (.cells #[O_,.nilIface] 85));have b:Fr w w1 N_:=xz_
 have c:Blk w1 w.heap.size [.iface T x] 52:=by rw[hw1];exact(B_ w #[.iface T x] 52).alloc _
 have a:Blk w1 (w.heap.size+1) [O_,.nilIface] 85:=by
  rw[hw1];have h:=B_ (w.alloc (.cells #[.iface T x] 52)) #[O_,.nilIface] 85;rw[zm]at h;exact h
 have hz:w1.heap.size=w.heap.size+2:=by rw[hw1,zm,zm]
 have l:=zy (wu (w:=w1) (lv:=L_) (ns:=[]) (D:=λ_=>.iface T x) (fn:=147) (caps:=#[P_ w.heap.size]) (R:=λv _=>v=.iface T x) (World.ownsRow_nil _ _ _ _) (λ_=>.inr ⟨_,_,rfl⟩) (λn h=>by cases h) x6_ (qZ func147 K_ rfl)
  (λW pv u _=>(Xp (pv:=pv) (u.bl c id)).mono (λe w' q=>⟨_,q.1,.inr ⟨_,_,rfl⟩,q.2,rfl⟩)) (λv W W' h _=>h))
 replace hw1:=zy hw1;replace b:=zy b;replace a:=zy a;replace hz:=zy hz;go_in;go_wp2_with (go_at_call 146;rw[<- hw1.o];apply l.o.mono;rintro e c ⟨v,rfl,_,c,_,hv⟩;obtain rfl:=hv D_ D_;rw[show((jnN []:Nat):Int)=1 from rfl];have P2:=c.bl a id;have k0:=P2.c0;have a:=P2.c1;have a:=P2.th 0;have l1:=P2.th 1;have r:=zy (b.o.trans c u_);have P2:=zy P2);have P:=W_ P2 (Z_ 1) (.iface T x);have a:=P.c0;have b:=P.c1;refine bodyPost_ret (v:=.agg #[Z_ 1,.iface T x]) (by simp[results,results87,go_sem,a,b]) rfl ?_;rw[f.o];exact⟨rfl,r.o.trans (Fr.pa _ _ _ _) (λx hx e=>M_)⟩
def tq{b:Nat}{pv dT:Ax}{B:Nat}{D:Ai}(a:IfV (D 0))(h:Blk w b [I_ n] T)(ho:w.ownsRow B 52 1 pv 1 ((List.range 1).flatMap λi=>[D i]))(c:dT=D 0):Calls prog 203 #[pv,P_ b] w λe w'=>e=.returned (.iface 150 (.agg #[I_ n,dT]))/\Fr w w' N_:=by
 refine hq_ λl f=>?_;have c0:=h.c0;obtain⟨g,l,rfl⟩:=zg ho M_;have l:w.cell? ⟨g,0,none⟩=some (D 0):=qQ (yl ho) (Nat.lt_add_one 0);rw[<- c]at l a;clear h ho c;rcases a with rfl|⟨dT,a,rfl⟩;all_goals
  go_in;go_wp2;go_quiet (fail);go_wp2;try go_ret
  rw[f.o];exact⟨rfl,(A_ _ _).si (zq.drewN _ _)⟩
def BrR(n:Nat)(kv v:Ax):Prop:=v=.iface 150 (.agg #[I_ n,kv])
def mU{kv:Ax}(hk:IfV kv)(hm:m<=301):Calls prog 149 #[I_ n,.agg #[I_ m,kv]] w λe w'=>∃v,e=.returned (.agg #[Z_ (jnN [m]:Int),v])/\IfV v/\Fr w w' N_/\(jnN [m]=0\/jnN [m]=301->v=.nilIface)/\(1<=jnN [m]->jnN [m]<=300->BrR n kv v):=by
 refine hq_ λE A=>?_;obtain⟨w1,b⟩:=e_ ((((w.alloc (.cells #[I_ n] 3)).alloc (.cells #[I_ m,kv] 85)).alloc (.cells #[O_,.nilIface] 85)).alloc (.cells #[I_ m,kv] 85));have l:Fr w w1 N_:=by rw[b];exact((((A_ w _).alloc _).alloc _).alloc _).alloc _
 have z:Blk w1 w.heap.size [I_ n] 3:=by rw[b];exact(((B_ w #[I_ n] 3).alloc _).alloc _).alloc _
 have f:Blk w1 (w.heap.size+1+1) [O_,.nilIface] 85:=by
  rw[b];have h:=(B_ ((w.alloc (.cells #[I_ n] 3)).alloc (.cells #[I_ m,kv] 85)) #[O_,.nilIface] 85).alloc (.cells #[I_ m,kv] 85);rw[zm,zm]at h;exact h
 have ho:kR w1 (S_ (w.heap.size+1+1+1) 1 1) [m] (λ_=>kv):=by
  have h:=B_ (((w.alloc (.cells #[I_ n] 3)).alloc (.cells #[I_ m,kv] 85)).alloc (.cells #[O_,.nilIface] 85)) #[I_ m,kv] 85;rw[zm,zm,zm,<- b]at h;exact cU h o_ rfl xs_
 have B:=zy (wu (w:=w1) (ns:=[m]) (D:=λ_=>kv) (fn:=203) (caps:=#[P_ w.heap.size]) (R:=λv _=>BrR n kv v) ho (λ_=>hk) (λn h=>by simp only[a2_]at h;omega) x6_ (qZ func203 K_ rfl)
  (λW pv E hr=>(tq (D:=λ_=>kv) hk (E.bl z id) hr rfl).mono (λe w' q=>⟨_,q.1,.inr ⟨_,_,rfl⟩,q.2,rfl⟩)) (λv W W' h _=>h))
 have E:=λW a m=>run_store prog W a kv m hk.one;replace b:=zy b;replace l:=zy l;replace f:=zy f;generalize jnN [m]=j at B A;go_in;go_wp2_with (go_at_call 146;rw[<- b.o];apply B.o.mono;rintro e b ⟨v,rfl,c,b,r,u⟩;have P2:=b.bl f id;have k0:=P2.c0;have f:=P2.c1;have f:=P2.th 0;have l1:=P2.th 1;have C:=zy (l.o.trans b u_);have P2:=zy P2;have f:=λW a m=>run_store prog W a v m c.one;replace r:=zy r;replace u:=zy u;have c:=zy c);have P:=W_ P2 (I_ j) v;have b:=P.c0;have f:=P.c1;refine bodyPost_ret (v:=.agg #[I_ j,v]) (by simp[results,results149,go_sem,b,f]) rfl ?_;rw[A.o];exact⟨_,rfl,c,C.o.trans (Fr.pa _ _ _ _) (λx hx e=>M_),r,u⟩
def tj{la:Am}{ln lc:Nat}:Calls prog 204 #[.slice la ln lc] w λe w'=>e=.returned (.iface 152 (.slice la ln lc))/\Fr w w' N_:=by
 refine hq_ λa a=>?_;go_in;go_wp2;try go_ret
 rw[a.o];exact⟨rfl,A_ _ _⟩
def RcR(B n:Nat)(D:Ai)(v:Ax)(W:Aw):Prop:=∃pv,v=.iface 152 pv/\W.ownsRow B 52 1 pv n ((List.range n).flatMap λi=>[D i])
def bC{lv:Ax}{ns:Ao}{D:Ai}(ho:kR w lv ns D)(F:∀i,IfV (D i))(hn:∀n∈ns,n<=301)(hl:ns.length<=300):Calls prog 151 #[lv] w λe w'=>∃v,e=.returned (.agg #[Z_ (jnN ns:Int),v])/\IfV v/\Fr w w' N_/\(jnN ns=0\/jnN ns=301->v=.nilIface)/\(1<=jnN ns->jnN ns<=300->RcR (w.heap.size+2) ns.length D v w'):=by
 refine hq_ λf E=>?_;obtain⟨w1,c⟩:=e_ (w.alloc (.cells #[O_,.nilIface] 85));have r:Fr w w1 N_:=by rw[c];exact(A_ w _).alloc _
 have A:Blk w1 w.heap.size [O_,.nilIface] 85:=by rw[c];exact B_ w #[O_,.nilIface] 85
 have hz:w1.heap.size=w.heap.size+1:=by rw[c,zm]
 obtain⟨f,f,rfl⟩:=zw ho;have u:=wu (w:=w1) (ns:=ns) (D:=D) (fn:=204) (caps:=#[]) (R:=λv W=>RcR (w.heap.size+2) ns.length D v W) (zj ho r u_) F hn hl (qZ func204 K_ rfl)
  (λW pv f hr=>by
   obtain⟨pa,f,rfl⟩:=zw hr
   refine tj.mono (λe w' q=>⟨_,q.1,.inr ⟨_,_,rfl⟩,q.2,_,rfl,zj (by rw[hz]at hr;exact hr) q.2 u_⟩))
  (λv W W' h hf=>by
   obtain⟨pv,h1,f⟩:=h
   exact⟨pv,h1,zj f hf (λg e h=>o1_ ((f.lt g e).1))⟩)
 replace u:=zy u;replace c:=zy c;replace r:=zy r;replace A:=zy A;have H:H_ (∀v (l:World) a b,RcR (w.heap.size+2) ns.length D v l->RcR (w.heap.size+2) ns.length D v ((l.setCell ⟨w.heap.size,0,none⟩ a).setCell ⟨w.heap.size,1,none⟩ b)):=zy (λv l a b h=>by
  obtain⟨pv,h1,f⟩:=h
  exact⟨pv,h1,zj f (Fr.pa l w.heap.size a b) (λg e h=>o1_ ((f.lt g e).1))⟩)
 generalize jnN ns=j at u E;go_in;go_wp2_with (go_at_call 146;rw[<- c.o];apply u.o.mono;rintro e l ⟨v,rfl,z,c,B,C⟩;have P2:=c.bl A id;have k0:=P2.c0;have f:=P2.c1;have f:=P2.th 0;have l1:=P2.th 1;have G:=zy (r.o.trans c u_);have P2:=zy P2;have f:=λW a m=>run_store prog W a v m z.one;replace B:=zy B;replace C:=zy C;have z:=zy z);have P:=W_ P2 (I_ j) v;have c:=P.c0;have f:=P.c1;refine bodyPost_ret (v:=.agg #[I_ j,v]) (by simp[results,results151,go_sem,c,f]) rfl ?_;rw[E.o];exact⟨_,rfl,z,G.o.trans (Fr.pa _ _ _ _) (λx hx e=>M_),B,λa b=>H.o _ _ _ _ (C.o a b)⟩
def kn(n m:Nat):Prop:=n≠0/\n<=m/\n<=301
def le0.to{v:Nat}(h:le0 n v)(k:kn v m):kn n m:=by unfold le0 at h;unfold kn at *;omega
def le0.one(h:le0 n 1)(k:0<m):kn n m:=by unfold le0 at h;unfold kn;omega
def Wr:∀{ks:List Nat}{ds:List DT},ks.length=ds.length->(∀(i k:Nat) (d:DT),ks[i]?=some k->ds[i]?=some d->kn k (ndT d))->0∉ks/\ks.sum<=za ds
 | [],[],_,_=>⟨by simp,by simp⟩
 | [],_::_,h,_=>by simp at h
 | _::_,[],h,_=>by simp at h
 |k::ks,d::ds,hl,h=>by
  obtain⟨h1,a⟩:=Wr (ks:=ks) (ds:=ds) yv_ (λi k d e e'=>h (i+1) k d (by simpa using e) (by simpa using e'));have h0:=h 0 k d rfl rfl;unfold kn at h0;simp only[aq_,not_or,List.sum_cons,za];exact⟨⟨λe=>h0.1 e.symm,h1⟩,M_⟩
def cD{ks:Ao}{ds:Ae}(hl:ks.length=ds.length)(h:∀(i k:Nat) (d:DT),ks[i]?=some k->ds[i]?=some d->kn k (ndT d)):kn (jnN ks) (1+za ds):=by
 obtain⟨h1,a⟩:=Wr hl h;unfold jnN kn;rw[n_ h1];split<;>omega
def XM{d:DT}:∀{ds:List DT},d∈ds->ndT d<=za ds
 |e::r,h=>by
  simp only[za];rcases aq_.1 h with rfl|h
  .omega
  .have:=XM h;omega
def DT.subs:DT->List DT | .mk _ _ _ _ ds=>ds
def jS(d:DT):ndT d=1+za d.subs:=by obtain⟨k,n,tx,ks,ds⟩:=d;unfold ndT;rfl
def iJ{d d1:DT}(h:kn k (ndT d1))(hd:d1∈d.subs):kn (jnN [k]) (ndT d):=by
 have:=cD (ks:=[k]) (ds:=[d1]) rfl (λi a a e e'=>by
  cases i with
  |zero=>simp at e e';subst e e';exact h
  |succ i=>simp at e)
 have a:=XM hd;have a:=jS d;unfold kn at *;simp only[za]at this;omega
structure ClT(ew:Au)(K:PT->Nat->Prop):Prop where
 one:∀t n,K t n->t.isAlts=false->(∀c p fs,t=.leaf c p->zi c=false->ew c≠some (.recd fs))->le0 n 1
 recd:∀c p n fs,K (.leaf c p) n->zi c=false->ew c=some (.recd fs)->∃ks:List Nat,ks.length=fs.length/\(∀(q:Nat) (f:PF) (k:Nat),fs[q]?=some f->ks[q]?=some k->K f.ty k)/\le0 n (jnN ks)
 alts:∀p l n,K (.alts p l) n->∀t∈l,∃k,K t k/\le0 n (jnN [k])
def ClT.all{K:PT->Nat->Prop}(C:ClT ew K){d:DT}(h:Dat ew d t):∀n,K t n->kn n (ndT d):=by
 have f:∀d:DT,0<ndT d:=λd=>by rw[jS];omega
 have a:∀{c p:Nat},zi c=true->∀n,K (.leaf c p) n->∀d,kn n (ndT d):=λ{c p} hb n hk d=>(C.one _ n hk rfl (λl p' fs e o=>by cases e;rw[hb]at o;cases o)).one (f d);have r:∀{c p:Nat} {X:PB},ew c=some X->(∀fs,X≠.recd fs)->∀n,K (.leaf c p) n->∀d,kn n (ndT d):=λ{c p X} hx hX n hk d=>(C.one _ n hk rfl (λl p' fs e _ he=>by cases e;rw[hx]at he;cases he;exact hX _ rfl)).one (f d);have wr:∀{c p:Nat} {u:PT},∀n,K (.wrap c p u) n->∀d,kn n (ndT d):=λ{c p u} n hk d=>(C.one _ n hk rfl (λl p' fs e=>by cases e)).one (f d);induction h with
 |null=>exact λn hk=>a rfl n hk _
 |bool=>exact λn hk=>a rfl n hk _
 |num=>exact λn hk=>a rfl n hk _
 |long=>exact λn hk=>a rfl n hk _
 |text=>exact λn hk=>a rfl n hk _
 |bytes he hb=>exact λn hk=>r he (λ_ e=>by cases e) n hk _
 |sym he hb=>exact λn hk=>r he (λ_ e=>by cases e) n hk _
 |list=>exact λn hk=>wr n hk _
 |map=>exact λn hk=>wr n hk _
 |recd he hb hl h ih=>
  rename_i c p fs ds;intro n hk;obtain⟨ks,h1,b,v⟩:=C.recd c p n fs hk hb he;refine v.to ?_;rw[jS];exact cD (ds:=ds) M_ (λi k d e e'=>by
   have hi:i<fs.length:=by have:=(ak_.1 e).1;omega
   have hf:=aj_ hi
   exact ih i d fs[i].ty e' (by rw[ax_,hf];rfl) k (b i _ k hf e))
 |alts hn hl h ih=>
  intro n hk;obtain⟨k,h1,b⟩:=C.alts _ _ n hk _ (ai_ hl);exact b.to (iJ (ih k h1) zp_)
def Via(ew er:Au)(x y r:PT):Prop:=(y.isAlts=false/\r=y)\/∃p rs k,y=.alts p rs/\xZ ew er x rs 0 none=some k/\rs[k]?=some r
def Nev(ew er:Au)(x y:PT):Prop:=(y.isAlts=false/\xi ew er x y=false)\/∃p rs,y=.alts p rs/\xZ ew er x rs 0 none=none
inductive Un (ew er:Au):PT->PT->DT->Prop
 |alts0 {p n:Nat} {ws:List PT} {w1 y:PT} {d1:DT} (hn:n<=9223372036854775807) (hw:ws[n]?=some w1) (h:Un ew er w1 y d1):Un ew er (.alts p ws) y (.mk 40 (n:Int) noB [] [d1])
 |never {x y:PT} {d:DT} (hx:x.isAlts=false) (hv:Nev ew er x y) (hd:Dat ew d x):Un ew er x y d
 |items {c p p':Nat} {u u' y:PT} {d d1:DT} (hv:Via ew er (.wrap c p u) y (.wrap c p' u')) (hd:Dat ew d (.wrap c p u)) (hm:d1∈d.subs) (h:Un ew er u u' d1):Un ew er (.wrap c p u) y d
 |sym {c p p' n:Nat} {y:PT} {lw lr:List (Nat×Nat)} {ow o:Option (Nat×Nat)} (hv:Via ew er (.leaf c p) y (.leaf c p')) (hb:zi c=false) (hw:ew c=some (.enum lw ow)) (hr:er c=some (.enum lr o)) (hn:n<lw.length) (h:qh lr o ((lw.map Prod.fst).getD n 0)=none):Un ew er (.leaf c p) y (.mk 101 (n:Int) noB [] [])
 |field {c p p' i:Nat} {y:PT} {fw fr:List PF} {g h:PF} {ds:List DT} {d1:DT} (hv:Via ew er (.leaf c p) y (.leaf c p')) (hb:zi c=false) (hw:ew c=some (.recd fw)) (hr:er c=some (.recd fr)) (hd:Dat ew (.mk 114 0 noB [] ds) (.leaf c p)) (hg:g∈fr) (hi:vV fw g.letter=some i) (hf:fw[i]?=some h) (he:ds[i]?=some d1) (hu:Un ew er h.ty g.ty d1):Un ew er (.leaf c p) y (.mk 114 0 noB [] ds)
 |lack {c p p':Nat} {y:PT} {fw fr:List PF} {g:PF} {d:DT} (hv:Via ew er (.leaf c p) y (.leaf c p')) (hb:zi c=false) (hw:ew c=some (.recd fw)) (hr:er c=some (.recd fr)) (hd:Dat ew d (.leaf c p)) (hg:g∈fr) (hi:vV fw g.letter=none) (hf:g.dflt=none):Un ew er (.leaf c p) y d
def Un.dat{x:PT}{d:DT}(h:Un ew er x y d):Dat ew d x:=by
 induction h with
 |alts0 hn hw h ih=>exact .alts hn hw ih
 |never hx hv hd=>exact hd
 |items hv hd=>exact hd
 |sym hv hb hw hr hn h=>exact .sym hw hb hn
 |field hv hb hw hr hd=>exact hd
 |lack hv hb hw hr hd=>exact hd
structure ClP(ew er:Au)(L:PT->Nat->Prop)(K:PT->PT->Nat->Prop):Prop where
 alts0:∀p ws y n,K (.alts p ws) y n->∀w1∈ws,∃k,K w1 y k/\le0 n (jnN [k])
 never:∀x y n,K x y n->x.isAlts=false->Nev ew er x y->∃k,L x k/\le0 n k
 items:∀c p p' u u' y n,K (.wrap c p u) y n->Via ew er (.wrap c p u) y (.wrap c p' u')->∃k,K u u' k/\le0 n (jnN [k])
 sym:∀c p p' y n lw lr ow o q,K (.leaf c p) y n->Via ew er (.leaf c p) y (.leaf c p')->zi c=false->ew c=some (.enum lw ow)->er c=some (.enum lr o)->q<lw.length->qh lr o ((lw.map Prod.fst).getD q 0)=none->le0 n 1
 field:∀c p p' y n fw fr g i h,K (.leaf c p) y n->Via ew er (.leaf c p) y (.leaf c p')->zi c=false->ew c=some (.recd fw)->er c=some (.recd fr)->g∈fr->vV fw g.letter=some i->fw[i]?=some h->∃(ks:List Nat),ks.length=fw.length/\(∀(q:Nat) (f:PF) (k:Nat),fw[q]?=some f->ks[q]?=some k->if q=i then K h.ty g.ty k else L f.ty k)/\le0 n (jnN ks)
 lack:∀c p p' y n fw fr g,K (.leaf c p) y n->Via ew er (.leaf c p) y (.leaf c p')->zi c=false->ew c=some (.recd fw)->er c=some (.recd fr)->g∈fr->vV fw g.letter=none->g.dflt=none->∃(ks:List Nat),ks.length=fw.length/\(∀(q:Nat) (f:PF) (k:Nat),fw[q]?=some f->ks[q]?=some k->L f.ty k)/\le0 n (jnN ks)
def XQ{c:Nat}{fw:An}{d:DT}(hw:ew c=some (.recd fw))(hb:zi c=false)(hd:Dat ew d (.leaf c p)):∃ds,d=.mk 114 0 noB [] ds/\ds.length=fw.length/\∀(i:Nat) (d:DT) (f:PF),ds[i]?=some d->fw[i]?=some f->Dat ew d f.ty:=by
 have a:=xg hb;cases hd with
 |null=>exact absurd rfl a.1
 |bool=>exact absurd rfl a.2.1
 |num=>exact absurd rfl a.2.2.1
 |long=>exact absurd rfl a.2.2.2.1
 |text=>exact absurd rfl a.2.2.2.2
 |bytes he=>rw[hw]at he;cases he
 |sym he=>rw[hw]at he;cases he
 |recd he hb hl h=>
  rw[hw]at he;cases he;exact⟨_,rfl,hl,λi d f e e'=>h i d f.ty e (by rw[ax_,e'];rfl)⟩
def ClP.all{L:PT->Nat->Prop}{K:PT->PT->Nat->Prop}(C:ClP ew er L K)(f:∀t n,L t n->∀d,Dat ew d t->kn n (ndT d)){x:PT}{d:DT}(h:Un ew er x y d):∀n,K x y n->kn n (ndT d):=by
 induction h with
 |alts0 hn hw h ih=>
  intro n hk;obtain⟨k,h1,a⟩:=C.alts0 _ _ _ n hk _ (ai_ hw);exact a.to (iJ (ih k h1) zp_)
 |never hx hv hd=>
  intro n hk;obtain⟨k,h1,a⟩:=C.never _ _ n hk hx hv;exact a.to (f _ k h1 _ hd)
 |items hv hd hm h ih=>
  intro n hk;obtain⟨k,h1,a⟩:=C.items _ _ _ _ _ _ n hk hv;exact a.to (iJ (ih k h1) hm)
 |sym hv hb hw hr hn h=>
  intro n hk;exact(C.sym _ _ _ _ n _ _ _ _ _ hk hv hb hw hr hn h).one (by rw[jS];omega)
 |field hv hb hw hr hd hg hi hf he hu ih=>
  rename_i ds d1;intro n hk;obtain⟨ks,h1,a,c⟩:=C.field _ _ _ _ n _ _ _ _ _ hk hv hb hw hr hg hi hf;obtain⟨ds',e,hl,l⟩:=XQ hw hb hd;cases e;refine c.to ?_;rw[jS];exact cD (ds:=ds) M_ (λq k d e e'=>by
   have o:q<_:=(ak_.1 e).1
   have b:=aj_ (show q<_ from h1▸o)
   have:=a q _ k b e
   split at this
   .rename_i u
    subst u
    have r:ds[q]?=some d:=e'
    rw[he]at r
    cases r
    exact ih k this
   .exact f _ k this _ (l q d _ e' b))
 |lack hv hb hw hr hd hg hi hf=>
  intro n hk;obtain⟨ks,h1,a,c⟩:=C.lack _ _ _ _ n _ _ _ hk hv hb hw hr hg hi hf;obtain⟨ds',rfl,hl,l⟩:=XQ hw hb hd;refine c.to ?_;rw[jS];exact cD (ds:=ds') M_ (λq k d e e'=>by
   have o:q<_:=(ak_.1 e).1
   have b:=aj_ (show q<_ from h1▸o)
   exact f _ k (a q _ k b e) _ (l q d _ e' b))
def nd3(d:DT):Nat:=if 300<ndT d then 301 else ndT d
def Lo(D:Dg)(n:Nat):Prop:=n=0\/∃d,D d/\nd3 d=n
def Wh:∀{ds:List DT}{ks:List Nat},ks=ds.map nd3->0∉ks/\(300<1+ks.sum↔300<1+za ds)/\(za ds<=300->ks.sum=za ds)
 | [],_,rfl=>⟨by simp,by simp[za],by simp[za]⟩
 |d::ds,_,rfl=>by
  obtain⟨h1,a,b⟩:=Wh (ds:=ds) rfl;have hd:0<ndT d:=by rw[jS];omega
  have hs:(∀k∈ds.map nd3,True):=λ_ _=>trivial;have c:(ds.map nd3).sum<=za ds:=by
   clear h1 a b hs hd;induction ds with
   |nil=>simp[za]
   |cons e r ih=>
    simp only[a0_,List.sum_cons,za];have:nd3 e<=ndT e:=by unfold nd3;split<;>omega
    omega
  simp only[a0_,aq_,not_or,List.sum_cons,za];unfold nd3 at *;refine⟨⟨?_,h1⟩,?_,?_⟩
  .split<;>omega
  .split<;>omega
  .split<;>omega
def iK{ds:Ae}{n:Int}{x:BA}{ks:Dq}:jnN (ds.map nd3)=nd3 (.mk k n x ks ds):=by
 obtain⟨h1,a,b⟩:=Wh (ds:=ds) rfl;unfold jnN;rw[n_ h1];show _=if 300<ndT (.mk k n x ks ds) then _ else ndT (.mk k n x ks ds);rw[jS];show _=if 300<1+za ds then _ else 1+za ds;by_cases h:300<1+za ds
 .rw[i_ h,i_ (a.2 h)]
 .rw[n_ h,n_ (λe=>h (a.1 e)),b M_]
def wK(s:BA)(t:PT):Prop:=∃j,pT s t.place=.ok (t,j)
def gH(h:pT s i=.ok (t,j)):wK s t:=⟨j,by rw[ao h];exact h⟩
def wK.wrap{c:Nat}(h:wK s (.wrap c p t)):wK s t:=by
 obtain⟨j,h⟩:=h;rw[wY]at h;unfold vR at h;split at h
 .cases h
 .split at h
  .split at h
   .cases h
   .rename_i hp;split at h
    .simp only[ae_,ad_,PT.wrap.injEq]at h;obtain⟨⟨_,_,rfl⟩,_⟩:=h;exact gH hp
    .cases h
  .split at h
   .split at h
    .cases h
    .split at h<;>cases h
   .split at h<;>cases h
def Vg:∀(l:List PT) (i j:Nat),i<=s.size->pA s i=.ok (l,j)->∀t∈l,wK s t
 | [],i,j,hi,h,t,a=>by simp at a
 |x::l,i,j,hi,h,t,a=>by
  rw[PN s i hi]at h;unfold wC at h;split at h
  .cases h
  .rename_i e c hp;have hb:=(xV hi).1 _ _ hp;split at h
   .rename_i hc;have hl:=zp (s:=s) (i:=c) M_;split at h
    .cases h
    .rename_i ts k b;simp only[ae_,ad_,List.cons.injEq]at h;obtain⟨⟨rfl,rfl⟩,rfl⟩:=h;rcases aq_.1 a with rfl|a
     .exact gH hp
     .exact Vg _ _ _ M_ b t a
   .simp only[ae_,ad_,List.cons.injEq]at h;obtain⟨⟨rfl,rfl⟩,rfl⟩:=h;simp only[a2_]at a;subst a;exact gH hp
def wK.alts{l:Af}(h:wK s (.alts p l)):∀t∈l,wK s t:=by
 obtain⟨j,h⟩:=h;rw[wY]at h;unfold vR at h;split at h
 .cases h
 .split at h
  .split at h
   .cases h
   .split at h<;>cases h
  .split at h
   .rename_i hb;have hl:=zp (s:=s) (i:=PT.place (.alts p l)) M_;split at h
    .cases h
    .rename_i ts k hp;split at h
     .simp only[ae_,ad_,PT.alts.injEq]at h;obtain⟨⟨_,rfl⟩,_⟩:=h;exact Vg _ _ _ M_ hp
     .cases h
   .split at h<;>cases h
def nY:∀(n i:Nat) (l:List PF) (j:Nat),yW s n i=.ok (l,j)->∀f∈l,wK s f.ty
 | 0,i,l,j,h=>by simp[yW]at h
 |n+1,i,l,j,h=>by
  have one:∀f j,zR s i=.ok (f,j)->wK s f.ty:=λf j h=>by
   unfold zR at h;split at h
   .split at h
    .split at h
     .cases h
     .rename_i hp;split at h
      .split at h
       .cases h
       .cases h;exact gH hp
      .cases h;exact gH hp
    .cases h
   .cases h
  unfold yW at h;split at h
  .cases h
  .rename_i b c hp;split at h
   .cases h;intro f hf;simp only[a2_]at hf;subst hf;exact one _ _ hp
   .split at h
    .split at h
     .cases h
     .rename_i fs k a;cases h;intro f hf;rcases aq_.1 hf with rfl|hf
      .exact one _ _ hp
      .exact nY n _ _ _ a f hf
    .cases h
def XJ{fs:An}(h:yG s p=.ok (.recd fs,j)):∀f∈fs,wK s f.ty:=by
 unfold yG at h;split at h
 .split at h
  .cases h
  .rename_i ds k hp;simp only[ae_,ad_,PB.recd.injEq]at h;obtain⟨rfl,_⟩:=h;unfold yf at hp;split at hp
   .split at hp
    .cases hp;intro f hf;simp at hf
    .exact nY _ _ _ _ hp
   .cases hp
 .split at h
  .split at h
   .cases h
   .cases h
  .split at h
   .split at h<;>cases h
   .cases h
def rU{X:PB}(h:wK s t)(k:yG s t.place=.ok (X,j)):False:=by
 obtain⟨i,h⟩:=h;have h1:bt s t.place=114\/bt s t.place=101\/bt s t.place=102:=by
  unfold yG at k;split at k
  .exact .inl ‹_›
  .split at k
   .exact .inr (.inl ‹_›)
   .split at k
    .exact .inr (.inr ‹_›)
    .cases k
 rw[wY]at h;unfold vR at h;generalize bt s t.place=b at *;rcases h1 with rfl|rfl|rfl;all_goals
  simp[zi,zY]at h
def lZ{α β:Type}{g:α->Option β}{a:α}(hg:g a=none):∀{l:List α},a∈l->vm g l=none
 | [],h=>by cases h
 |b::r,h=>by
  unfold vm;rcases aq_.1 h with rfl|h
  .rw[hg]
  .rw[lZ hg h];cases g b<;>rfl
def bK{df:Dm}{f:Nat}{r:PT}{d:DT}(a:t.isAlts=false)(hv:Via ew er t y r)(h:mkB (mkP ew er df f) ew er df t r d=none):mkP ew er df (f+1) t y d=none:=by
 rcases hv with⟨hy,rfl⟩|⟨p,rs,k,rfl,hp,hr⟩
 .cases t with
  |alts p l=>simp[PT.isAlts]at a
  |leaf c p=>cases r with
   |alts p' l'=>simp[PT.isAlts]at hy
   |leaf c' p'=>simp only[mkP,h,ite_self]
   |wrap c' p' u'=>simp only[mkP,h,ite_self]
  |wrap c p u=>cases r with
   |alts p' l'=>simp[PT.isAlts]at hy
   |leaf c' p'=>simp only[mkP,h,ite_self]
   |wrap c' p' u'=>simp only[mkP,h,ite_self]
 .cases t with
  |alts p' l=>simp[PT.isAlts]at a
  |leaf c p'=>simp only[mkP,hp,hr,h,Option.map_none]
  |wrap c p' u=>simp only[mkP,hp,hr,h,Option.map_none]
def af{df:Dm}(a:∀c fs g,er c=some (.recd fs)->g∈fs->g.dflt=none->df g=none){t':PT}{d:DT}(h:Un ew er t t' d):∀f,mkP ew er df f t t' d=none:=by
 induction h with
 |alts0 hn hw h ih=>
  intro f;cases f with
  |zero=>rfl
  |succ f=>simp only[mkP,bt_,hw,ih f]
 |never hx hv hd=>
  rename_i x y d;intro f;cases f with
  |zero=>rfl
  |succ f=>
   rcases hv with⟨hy,hm⟩|⟨p,rs,rfl,hp⟩
   .cases x with
    |alts p l=>simp[PT.isAlts]at hx
    |leaf c p=>cases y with
     |alts p' l'=>simp[PT.isAlts]at hy
     |leaf c' p'=>simp only[mkP,hm,a1_,if_false]
     |wrap c' p' u'=>simp only[mkP,hm,a1_,if_false]
    |wrap c p u=>cases y with
     |alts p' l'=>simp[PT.isAlts]at hy
     |leaf c' p'=>simp only[mkP,hm,a1_,if_false]
     |wrap c' p' u'=>simp only[mkP,hm,a1_,if_false]
   .cases x with
    |alts p' l=>simp[PT.isAlts]at hx
    |leaf c p'=>simp only[mkP,hp]
    |wrap c p' u=>simp only[mkP,hp]
 |items hv hd hm h ih=>
  rename_i c p p' u u' y d d1;intro f;cases f with
  |zero=>rfl
  |succ f=>
   refine bK rfl hv ?_;obtain⟨k,n,tx,ks,ds⟩:=d;simp only[mkB,Option.map_eq_none_iff];exact lZ (ih f) hm
 |sym hv hb hw hr hn h=>
  intro f;cases f with
  |zero=>rfl
  |succ f=>
   refine bK rfl hv ?_;simp only[mkB,hb,hw,hr,a1_,if_false,Option.map_eq_none_iff,bt_];exact h
 |field hv hb hw hr hd hg hi hf he hu ih=>
  intro f;cases f with
  |zero=>rfl
  |succ f=>
   refine bK rfl hv ?_;simp only[mkB,hb,hw,hr,a1_,if_false,Option.map_eq_none_iff];refine lZ ?_ hg;unfold mkF;simp only[hi,hf,he,ih f]
 |lack hv hb hw hr hd hg hi hf=>
  rename_i c p p' y fw fr g d;intro f;cases f with
  |zero=>rfl
  |succ f=>
   refine bK rfl hv ?_;obtain⟨k,n,tx,ks,ds⟩:=d;simp only[mkB,hb,hw,hr,a1_,if_false,Option.map_eq_none_iff];refine lZ ?_ hg;unfold mkF;simp only[hi,a _ _ _ hr hg hf]
def Fr.ke{w':Aw}(h:Fr w w' N_){a:Addr}{v:Ax}(hc:w.cell? a=some v):w'.cell? a=some v:=(World.cell?_of_block (h.block a.block (World.block_lt_of_cell? w a hc) id)).trans hc
def Fr.keepF{w':Aw}(h:Fr w w' N_){a:Addr}{v:Ax}(hc:w.cell? a=some v)(hz:w.frozen? a=false):w'.frozen? a=false:=(World.frozen?_of_block (h.block a.block (World.block_lt_of_cell? w a hc) id)).trans hz
structure TP(α ρ:Type) where
 RI:World->ρ->Prop
 RS:ρ->Nat->Prop
 SV:World->(Nat->Prop)->α->Nat->Value->Prop
 QV:World->α->List Value->Prop
 Cl:List (Rw α)->α->Nat->Prop
structure TL where
 fb:Nat
 tb:Nat
 mb:Nat
 kf:Value
 ff:Value
structure TP.OK{α ρ:Type}(P:TP α ρ)(I:TI α)(L:TL):Prop where
 rs:∀W r x,P.RI W r->P.RS r x->L.fb<x/\x<W.heap.size
 rfr:∀W W' r rv g T,P.RI W r->TbW I L.fb L.tb L.mb L.kf L.ff W rv g T->Fr W W' (TbS L.tb L.mb rv)->P.RI W' r
 rnew:∀W W' r,P.RI W r->Fr W W' N_->P.RI W' r
 sv:∀W W' S S' a n d,P.SV W (λx=>¬S x) a n d->Stp W W' S S'->P.SV W' (λx=>¬S' x) a n d
 qv:∀W W' S a v,P.QV W a v->Fr W W' S->(∀x,S x->L.fb<x)->P.QV W' a v
 mono:Qi P.Cl
 z:∀W J a,P.SV W J a 0 .nilIface
 put:∀W W' r q cs,L.fb<q->P.RI W r->Blk W q cs 85->Fr W W' (λx=>x=q)->P.RI W' r
 svp:∀W W' J a n d q cs,P.SV W J a n d->Blk W q cs 85->Fr W W' (λx=>x=q)->P.SV W' J a n d
 tt:I.TT≠85/\I.RT≠85
section
variable {α ρ:Type} {P:TP α ρ} {I:TI α} {L:TL}
def TSS(P:TP α ρ)(L:TL)(rv:Ax)(r:ρ)(x:Nat):Prop:=TbS L.tb L.mb rv x\/P.RS r x
structure TbI(P:TP α ρ)(I:TI α)(L:TL)(W:Aw)(r:ρ)(rv:Ax)(g:Aq)(T:List (Rw α)):Prop where
 i:P.RI W r
 t:TbW I L.fb L.tb L.mb L.kf L.ff W rv g T
 v:∀x∈T,P.SV W (λy=>¬TSS P L rv r y) x.a x.n x.d/\P.QV W x.a x.v
def yB(P:TP α ρ)(I:TI α)(L:TL)(W:Aw)(r:ρ)(rv:Ax)(g:Aq)(T:List (Rw α))(a:α)(e:Ak)(W':Aw):Prop:=
 ∃r' rv' g' T' n d,e=.returned (.agg #[Z_ ((n:Nat):Int),d])/\n<=301/\IfV d/\TbI P I L W' r' rv' g' T'/\Stp W W' (TSS P L rv r) (TSS P L rv' r')/\Grw P.Cl T T' g g'/\P.Cl T' a n/\P.SV W' (λy=>¬TSS P L rv' r' y) a n d
def ju(P:TP α ρ)(I:TI α)(L:TL)(W:Aw)(r:ρ)(rv:Ax)(g:Aq)(T:List (Rw α))(a:α)(e:Ak)(W':Aw):Prop:=
 ∃r' rv' g' T' x,e=.returned (.agg #[Z_ ((x.n:Nat):Int),x.d])/\x∈T'/\x.a=a/\TbI P I L W' r' rv' g' T'/\Stp W W' (TSS P L rv r) (TSS P L rv' r')/\Grw P.Cl T T' g g'
def tZ(P:TP α ρ)(I:TI α)(L:TL)(W:Aw)(r:ρ)(rv:Ax)(g:Aq)(T:List (Rw α))(a:α)(e:Ak)(W':Aw):Prop:=
 ∃x,e=.returned (.agg #[Z_ ((x.n:Nat):Int),x.d])/\x∈T/\x.a=a/\TbI P I L W' r rv g T/\Stp W W' (TSS P L rv r) (TSS P L rv r)
def tZ.post{r:ρ}{T:List (Rw α)}{a:α}{e:Ak}(h:tZ P I L W r rv g T a e W'):ju P I L W r rv g T a e W':=by
 obtain⟨x,h1,b,c,f,l⟩:=h;exact⟨r,rv,g,T,x,h1,b,c,f,l,Grw.refl _ _⟩
def Lk(Cl:List (Rw α)->α->Nat->Prop)(T T':List (Rw α))(g g':Aq)(i:Nat):Prop:=
 ∃R,(g=true->g'=true)/\((T'=T++R/\(g'=true->g=true\/R≠[])/\(g'=false->(∀r∈R,Stb Cl T' r)/\∀r,T[i]?=some r->Stb Cl T' r))\/
  (g'=true/\∃r n d,T[i]?=some r/\btr n r.n=true/\n<=301/\T'=(T++R).set i ⟨r.a,r.v,n,d⟩))
def cm(P:TP α ρ)(I:TI α)(L:TL)(W:Aw)(r:ρ)(rv:Ax)(g:Aq)(T:List (Rw α))(i:Nat)(e:Ak)(W':Aw):Prop:=
 ∃r' rv' g' T',e=.returned (.tuple #[])/\TbI P I L W' r' rv' g' T'/\Stp W W' (TSS P L rv r) (TSS P L rv' r')/\Lk P.Cl T T' g g' i
def TbI.new(a:P.OK I L){r:ρ}{T:List (Rw α)}(h:TbI P I L W r rv g T)(hf:Fr W W' N_):TbI P I L W' r rv g T:=
 ⟨a.rnew _ _ _ h.i hf,h.t.new hf,λx hx=>⟨a.sv _ _ _ _ _ _ _ (h.v x hx).1 (C_ hf (λ_ h=>h)),a.qv _ _ _ _ _ (h.v x hx).2 hf (λ_ f=>f.elim)⟩⟩
def TbI.li(a:P.OK I L){r:ρ}{T:List (Rw α)}(h:TbI P I L W r rv g T){x:Nat}(hx:TSS P L rv r x):L.fb<x/\x<W.heap.size:=by
 rcases hx with hx|hx
 .exact h.t.li hx
 .exact a.rs _ _ _ h.i hx
def TbI.turn(b:P.OK I L){r:ρ}{T T':List (Rw α)}(h:TbI P I L W r rv g T)(hf:Stp W W' (TbS L.tb L.mb rv) (TbS L.tb L.mb rv'))(f:TbW I L.fb L.tb L.mb L.kf L.ff W' rv' g' T')(c:∀x∈T',x∈T\/(P.SV W' (λy=>¬TSS P L rv' r y) x.a x.n x.d/\P.QV W' x.a x.v)):TbI P I L W' r rv' g' T'/\Stp W W' (TSS P L rv r) (TSS P L rv' r):=by
 have hs:Stp W W' (TSS P L rv r) (TSS P L rv' r):=⟨hf.1.mono (λ_ _ e=>.inl e),λx hx e=>e.imp (hf.2 x hx) id⟩;refine⟨⟨b.rfr _ _ _ _ _ _ h.i h.t hf.1,f,λx hx=>?_⟩,hs⟩;rcases c x hx with hx|hx
 .exact⟨b.sv _ _ _ _ _ _ _ (h.v x hx).1 hs,b.qv _ _ _ _ _ (h.v x hx).2 hs.1 (λy hy=>(h.li b hy).1)⟩
 .exact hx
def TbI.put(a:P.OK I L){r:ρ}{T:List (Rw α)}{cs:Ay}(h:TbI P I L W r rv g T)(b:L.fb<q)(hb:Blk W q cs 85)(hf:Fr W W' (λx=>x=q)):TbI P I L W' r rv g T:=
 ⟨a.put _ _ _ _ _ b h.i hb hf,h.t.fr hf (λ_ hx e=>h.t.ot (x:=q) hb (Ne.symm a.tt.1) (Ne.symm a.tt.2) (e▸hx)),λx hx=>⟨a.svp _ _ _ _ _ _ _ _ (h.v x hx).1 hb hf,a.qv _ _ _ _ _ (h.v x hx).2 hf (λ_ e=>e▸b)⟩⟩
def LkM(P:TP α ρ)(I:TI α)(L:TL)(W:Aw)(r:ρ)(rv:Ax)(g:Aq)(T:List (Rw α))(a:α)(q:Nat)(r':ρ)(rv':Ax)(g':Aq)(T':List (Rw α))(n:Nat)(d:Ax)(V:Aw):Prop:=
 n<=301/\IfV d/\TbI P I L V r' rv' g' T'/\Stp W V (TSS P L rv r) (TSS P L rv' r')/\Grw P.Cl T T' g g'/\P.Cl T' a n/\P.SV V (λy=>¬TSS P L rv' r' y) a n d/\Blk V q [I_ n,d] 85/\W.heap.size<=q/\L.fb<q
def LkM.new(c:P.OK I L){b V:Aw}{r r':ρ}{T T':List (Rw α)}{a:α}(h:TbI P I L W r rv g T)(hf:Fr W b N_)(hn:n<=301)(hd:IfV d)(e:TbI P I L V r' rv' g' T')(hs:Stp b V (TSS P L rv r) (TSS P L rv' r'))(hg:Grw P.Cl T T' g g')(hc:P.Cl T' a n)(hv:P.SV V (λy=>¬TSS P L rv' r' y) a n d)(hb:Blk V q [I_ n,d] 85)(b:W.heap.size<=q):LkM P I L W r rv g T a q r' rv' g' T' n d V:=
 ⟨hn,hd,e,(C_ hf (λ_ h=>h)).trans hs,hg,hc,hv,hb,b,o1_ ((h.li c (x:=L.tb) (.inl (.inl rfl))))⟩
def LkM.of(c:P.OK I L){b V:Aw}{r r':ρ}{T T':List (Rw α)}{a:α}(h:TbI P I L W r rv g T)(hf:Fr W b N_)(hn:n<=301)(hd:IfV d)(u:TbI P I L V r' rv' g' T')(hs:Stp b V (TSS P L rv r) (TSS P L rv' r'))(hg:Grw P.Cl T T' g g')(hc:P.Cl T' a n)(hv:P.SV V (λy=>¬TSS P L rv' r' y) a n d)(hb:Blk V q [O_,.nilIface] 85)(o:W.heap.size<=q):LkM P I L W r rv g T a q r' rv' g' T' n d ((V.setCell ⟨q,0,none⟩ (I_ n)).setCell ⟨q,1,none⟩ d):=by
 have b:=J_ V q 0 1 (I_ n) d;have f:L.fb<q:=by
  have:=(h.t.li (x:=L.tb) (.inl rfl));omega
 have l:Stp W V (TSS P L rv r) (TSS P L rv' r'):=(C_ hf (λ_ h=>h)).trans hs;exact⟨hn,hd,u.put c f hb b,⟨l.1.trans b (λx hx e=>M_),l.2⟩,hg,hc,c.svp _ _ _ _ _ _ _ _ hv hb b,(hb.set 0 _).set 1 _,o,f⟩
def FOK(P:TP α ρ)(I:TI α)(L:TL)(fn:Et)(fa:Ax)(A:List Value->Value)(m:Nat):Prop:=
 ∀W r rv g T a v,TbI P I L W r rv g T->I.Q a->P.QV W a v->I.N<=T.length+m->Calls prog fn #[fa,A v] W (yB P I L W r rv g T a)
def KOK(P:TP α ρ)(I:TI α)(L:TL)(fn:Et)(A:List Value->Value)(m:Nat):Prop:=
 ∀W r rv g T a v,TbI P I L W r rv g T->I.Q a->P.QV W a v->I.N<=T.length+m->Calls prog fn #[P_ L.tb,A v] W (ju P I L W r rv g T a)
def Lk.grw{Cl:List (Rw α)->α->Nat->Prop}{T T':List (Rw α)}{x:Rw α}(h:Lk Cl (T++[x]) T' g g' T.length):Grw Cl T T' g g'/\∃y,T'[T.length]?=some y/\y.a=x.a:=by
 obtain⟨R,h1,b|⟨b,r,n,d,hr,hb,hn,rfl⟩⟩:=h
 .obtain⟨rfl,f,c⟩:=b;refine⟨⟨[x]++R,by simp,h1,λ_=>.inr x6_,λe r hr=>?_⟩,x,by simp,rfl⟩;rcases a4_.1 hr with hr|hr
  .simp only[a2_]at hr;subst hr;exact(c e).2 r x6_
  .exact(c e).1 r hr
 .have c:r=x:=by simpa using hr.symm
  subst c;refine⟨⟨[⟨r.a,r.v,n,d⟩]++R,?_,h1,λ_=>.inr x6_,λe=>by rw[b]at e;cases e⟩,⟨r.a,r.v,n,d⟩,?_,rfl⟩
  .rw[bx_,List.set_append_right _ _ l_,Nat.sub_self];rfl
  .rw[b1_,i_ rfl,i_ x6_]
def Gd(Cl:List (Rw α)->α->Nat->Prop)(T:List (Rw α)):Prop:=∀r∈T,Stb Cl T r
def cg(P:TP α ρ)(I:TI α)(L:TL)(W:Aw)(r:ρ)(rv:Ax)(a:α)(e:Ak)(W':Aw):Prop:=
 ∃r' rv' T' x,e=.returned (.agg #[Z_ ((x.n:Nat):Int),x.d])/\x∈T'/\x.a=a/\TbI P I L W' r' rv' false T'/\Stp W W' (TSS P L rv r) (TSS P L rv' r')/\Gd P.Cl T'
structure wa(P:TP α ρ)(I:TI α)(L:TL)(W:Aw)(r:ρ)(rv:Ax)(a:α)(V:Aw)(r':ρ)(rv':Ax)(g':Aq)(T':List (Rw α)):Prop where
 i:TbI P I L V r' rv' g' T'
 s:Stp W V (TSS P L rv r) (TSS P L rv' r')
 a:a∈T'.map Rw.a
 b:Blk V W.heap.size [O_,.nilIface] 85
 n:¬TSS P L rv' r' W.heap.size
def SIn(Cl:List (Rw α)->α->Nat->Prop)(N n j f:Nat)(g:Aq)(T:List (Rw α)):Prop:=
 n<=T.length/\phi N T<=f/\(g=true->phi N T<f)/\(g=false->∀i x,T[i]?=some x->(i<j\/n<=i)->Stb Cl T x)
def MP{T:List (Rw α)}{r:Rw α}(hr:T[i]?=some r):(T.set i ⟨r.a,r.v,n,d⟩).map Rw.a=T.map Rw.a:=by
 rw[List.map_set];apply List.ext_getElem?;intro k;rw[b1_];split
 .rename_i e;subst e;have hi:=(ak_.1 hr).1;rw[ax_,hr];simp[hi]
 .rfl
def Lk.mem{Cl:List (Rw α)->α->Nat->Prop}{T T':List (Rw α)}{a:α}(h:Lk Cl T T' g g' i)(ha:a∈T.map Rw.a):a∈T'.map Rw.a:=by
 obtain⟨R,_,⟨rfl,_⟩|⟨_,r,n,d,hr,_,_,rfl⟩⟩:=h
 .rw[bf_];exact b3_ _ ha
 .rw[MP (by rw[ar_ (ak_.1 hr).1];exact hr),bf_];exact b3_ _ ha
def SIn.step{Cl:List (Rw α)->α->Nat->Prop}(M:Qi Cl){N f:Nat}{T T':List (Rw α)}(h:SIn Cl N n j f g T)(hl:Lk Cl T T' g g' j)(b:T'.length<=N)(A:∀r∈T,r.n<=301)(c:∀r∈T',r.n<=301):SIn Cl N n (j+1) f g' T':=by
 obtain⟨h1,E,u,z⟩:=h;obtain⟨R,C,⟨rfl,D,l⟩|⟨rfl,r,m,d,hr,hb,hm,rfl⟩⟩:=hl
 .have hp:=au (T:=T) (R:=R) b (λr hr=>c r (b8_ _ hr));refine⟨by rw[ag_];omega,M_,λe=>?_,λe i x hx hi=>?_⟩
  .rcases D e with e|e
   .have:=u e;omega
   .have:R.length≠0:=λe'=>e (List.length_eq_zero_iff.1 e');omega
  .have o:g=false:=by
    cases g with
    |false=>rfl
    |true=>rw[C rfl]at e;cases e
   by_cases u:i<T.length
   .rw[ar_ u]at hx;by_cases B:i=j
    .subst B;exact(l e).2 x hx
    .exact(z o i x hx M_).more M R
   .rw[aw_ M_]at hx;exact(l e).1 x (ai_ hx)
 .have l:=(ak_.1 hr).1;have o:(T++R)[j]?=some r:=by rw[ar_ l];exact hr
  rw[br_]at b;have hp:=Fp (N:=N) (r':=⟨r.a,r.v,m,d⟩) o (A r (ai_ hr)) hb hm;have l:∀x∈R,x.n<=301:=λx hx=>by
   obtain⟨i,hi⟩:=bw_ hx;refine c x (ai_ (i:=T.length+i) ?_);rw[b1_,n_ M_,aw_ M_,show T.length+i-T.length=i by omega];exact hi
  have c:=au (T:=T) (R:=R) b l;exact⟨by rw[br_,ag_];omega,M_,λ_=>M_,λe=>by cases e⟩
end
@[reducible] def ID {α:Type}(kv:α->Value) (Q:α->Prop) (num:α->Nat) (N:Nat):TI α:=⟨213,297,3,1,kv,Q,num,N⟩
section
variable {α ρ:Type} {P:TP α ρ} {kv:α->Value} {Q:α->Prop} {num:α->Nat} {N fb tb mb:Nat} {kf:Ax} {fn:Et} {fa:Ax}
def TbI.cellsD{r:ρ}{T:List (Rw α)}{L:TL}(h:TbI P (ID kv Q num N) L W r rv g T){x:Rw α}(hx:T[i]?=some x):∃b f u,rv=S_ b T.length f/\x.v=[u]/\W.cell? ⟨b,i*3,none⟩=some u/\W.cell? ⟨b,i*3+1,none⟩=some (I_ x.n)/\W.cell? ⟨b,i*3+1+1,none⟩=some x.d/\W.frozen? ⟨b,i*3+1,none⟩=false/\W.frozen? ⟨b,i*3+1+1,none⟩=false:=by
 obtain⟨b,f,e,h1⟩:=h.t.cell hx;have hl:x.v.length=1:=(h.t.q x (ai_ hx)).2.1;obtain⟨u,hu⟩:=List.length_eq_one_iff.1 hl;have l:=h1 0 (by show 0<1+2;omega);have a:=h1 1 (by show 1<1+2;omega);have c:=h1 2 (by show 2<1+2;omega);simp only[Rw.cells,hu]at l a c;exact⟨b,f,u,e,hu,l.1,a.1,c.1,a.2,c.2⟩
def rC:∀W x,(method 553 85 x "Betters").run prog W=.ok (202,x) W:=by intro W x;kernel_rfl
def PE{r:ρ}{T:List (Rw α)}{x:Rw α}(O:(ID kv Q num N).OK)(l:P.OK (ID kv Q num N) ⟨fb,tb,mb,kf,.func (.func fn) #[fa] #[]⟩)(hB:∀(w:World) (n m:Nat) (dv kv:Value),Calls prog 202 #[.agg #[I_ n,dv],.agg #[I_ m,kv]] w λe w'=>e=.returned (.bool (btr n m))/\Fr w w' N_)(b5:∀a3 W,(callFunc fn a3).run prog W=.ok (.enter fn a3) W)(h:TbI P (ID kv Q num N) ⟨fb,tb,mb,kf,.func (.func fn) #[fa] #[]⟩ W r rv g T)(hx:T[i]?=some x)(F:∀W' u,Fr W W' N_->x.v=[u]->Calls prog fn #[fa,u] W' (yB P (ID kv Q num N) ⟨fb,tb,mb,kf,.func (.func fn) #[fa] #[]⟩ W' r rv g T x.a)):Calls prog 150 #[P_ tb,I_ i] W (cm P (ID kv Q num N) ⟨fb,tb,mb,kf,.func (.func fn) #[fa] #[]⟩ W r rv g T i):=by
 obtain⟨a2,S⟩:=y_ (cm P (ID kv Q num N) ⟨fb,tb,mb,kf,.func (.func fn) #[fa] #[]⟩ W r rv g T i);rw[<- S.o];obtain⟨b,a4,u,rfl,hu,Z,e1,e2,-,-⟩:=h.cellsD hx;have hi:=(ak_.1 hx).1;have b7:(i:Int)<(T.length:Int):=M_;have c1:=h.t.b.c1;have c2:=h.t.b.c2;have a1:=zy (λW' hW=>F W' u hW hu);replace h:=zy h;replace hx:=zy hx;replace hB:=zy hB;go_in;go_upto_region 0 with fail;go_cut [4] (λv V=>∃q r' rv' g' T' n d,v=P_ q/\H_ (LkM P (ID kv Q num N) ⟨fb,tb,mb,kf,.func (.func fn) #[fa] #[]⟩ W r (S_ b T.length a4) g T x.a q r' rv' g' T' n d V));case first=>
  refine tr_ 12 (λV=>z_ V tb 1 (.func (.func fn) #[fa] #[])/\z_ V tb 2 (S_ b T.length a4)/\z_ V b (i*3) u) ?_;refine tB_ 0 [1,2,3,12] ?_;refine tB_ 1 [2,3,12] ?_;refine tB_ 2 [3,12] ?_;refine tB_ 3 [12] ?_;refine tB_ 4 [5,6,7,9,10,11,12] ?_;refine tB_ 5 [6,7,9,10,11,12] ?_;refine tB_ 6 [7,9,10,11,12] ?_;refine tB_ 7 [9,10,11,12] ?_;refine tB_ 8 [9,10,11,12] ?_;refine tB_ 9 [10,11,12] ?_;refine tB_ 10 [11,12] ?_;refine tB_ 11 [12] ?_;refine jV 12 13 rfl rfl K_ (λ_=>⟨c1,c2,Z⟩) (λK A=>?_) (λK A=>?_)
  .go_simp;apply(a1.o _ (A_ W _).drew).mono;rintro e w1 ⟨r',rv',g',T',n,d,rfl,hn,hd,c,hs,hg,hc,hv⟩;refine A _ _ ?_;have sD:=λW a m=>run_store prog W a d m hd.one;have J:=(A_ w1 N_).alloc (.cells #[I_ n,d] 85);have fin:=zy (LkM.new l h (A_ W _).drew hn hd (c.new l J) (hs.trans (C_ J (λ_ h=>h))) hg hc (l.sv _ _ _ _ _ _ _ hv (C_ J (λ_ h=>h))) (B_ w1 #[I_ n,d] 85) hs.1.size);refine t0_ 13 ?_;refine t0_ 14 ?_;refine td_ ?_ _;go_wp2;go_meet;exact⟨_,_,_,_,_,_,_,rfl,fin⟩
  .go_simp;refine A _ _ ?_;have B:=(A_ W N_).alloc (.cells #[O_,.nilIface] 85);have B0:=B_ W #[O_,.nilIface] 85;have D:=((h.o.t.new B).b.cell 1);have E:=((h.o.t.new B).b.cell 2);have f0:(W.alloc (.cells #[O_,.nilIface] 85)).cell? ⟨b,i*3,none⟩=some u:=by
    have:=B.block b (h.o.t.li (x:=b) (.inr (.inr rfl))).2 id;rw[World.cell?_of_block this];exact Z
   simp only[aa_,ab_]at D E;refine zh 12 rfl K_ (λ_=>⟨D,E,f0⟩) (λK A=>?_);go_simp;apply(a1.o _ B.drew).mono;rintro e w1 ⟨r',rv',g',T',n,d,rfl,hn,hd,c,hs,hg,hc,hv⟩;refine A _ _ ?_;have sD:=λW a m=>run_store prog W a d m hd.one;have C:Blk w1 W.heap.size [O_,.nilIface] 85:=hs.1.bl B0.drew (λe=>absurd (h.o.li l e).2 (a5_ _));have fin:=zy (LkM.of l h B.drew hn hd c hs hg hc hv C l_);have k0:=C.c0;have k1:=C.c1;have t0:=C.th 0;have t1:=C.th 1;refine t0_ 14 ?_;refine td_ ?_ _;go_wp2;go_meet;exact⟨_,_,_,_,_,_,_,rfl,fin⟩
 case rest=>
  obtain⟨q,r',rv',g',T',n,d,rfl,hM⟩:=hcut;obtain⟨hn,hd,c,hs,hg,hc,hv,hb,hq,b6⟩:=hM.o;obtain⟨R,rfl,g1,g2,g3⟩:=hg;have H:(T++R)[i]?=some x:=by rw[ar_ hi];exact hx
  obtain⟨z,Y,u',rfl,hu,a0,U,X,D,E⟩:=c.cellsD H;have b8:(i:Int)<((T++R).length:Int):=by rw[ag_];omega
  have a8:=((c.t.q x (ai_ H)).2.2.2).one;have c2:=c.t.b.c2;have t4:=c.t.b.th 4;have c4:=c.t.b.c4;have q0:=hb.c0;have q1:=hb.c1;have s1:=λW a m=>run_store prog W a d m hd.one;have b4:=rC;have a7:z≠tb:=λe=>(c.t.apart O).2.1 zn_;have b9:=Ne.symm a7;have no:H_ (∀V,Fr wc V N_->btr n x.n=false->a2 (.returned (.tuple #[])) V):=zy (λV G e=>by
   rw[S.o]
   exact⟨r',_,g',T++R,rfl,c.new l G,hs.trans (C_ G (λ_ h=>h)),R,g1,.inl ⟨rfl,g2,λe'=>⟨g3 e',λy hy=>by rw[hx.o]at hy;cases hy;exact⟨n,hc,e⟩⟩⟩⟩)
  have a9:H_ (∀V,Fr wc V N_->btr n x.n=true->a2 (.returned (.tuple #[])) (((V.setCell ⟨z,i*3+1,none⟩ (I_ n)).setCell ⟨z,i*3+1+1,none⟩ d).setCell ⟨tb,4,none⟩ (.bool true)).drew):=zy (λV G e=>by
   have h1:=c.new l G
   have h2:=((h1.t.set O H hn hd).flag O true).new (A_ _ _).drew
   have F:Fr V (((V.setCell ⟨z,i*3+1,none⟩ (I_ n)).setCell ⟨z,i*3+1+1,none⟩ d).setCell ⟨tb,4,none⟩ (.bool true)).drew (TbS tb mb (S_ z (T++R).length Y)):=(((J_ V z _ _ _ _).mono (λx _ e=>.inr (.inr zn_))).setCell _ _ (λ_=>.inl rfl)).drew
   have h3:=h1.turn l (rv':=S_ z (T++R).length Y) ⟨F,λ_ _ h=>h⟩ h2 (λy hy=>by
    rcases List.mem_or_eq_of_mem_set hy with hy|rfl
    .exact .inl hy
    .refine .inr ⟨l.sv _ _ _ _ _ _ _ (l.sv _ _ _ _ _ _ _ hv (C_ G (λ_ h=>h))) ⟨F.mono (λ_ _ e=>.inl e),λ_ _ h=>h⟩,?_⟩
     exact l.qv _ _ _ _ _ (h1.v x (ai_ H)).2 F (λy hy=>(h1.t.li hy).1))
   rw[S.o]
   exact⟨r',_,true,_,rfl,h3.1,(hs.trans (C_ G (λ_ h=>h))).trans h3.2,R,λ_=>rfl,.inr ⟨rfl,x,n,d,hx,e,hn,rfl⟩⟩)
  generalize x.n=xn at *;generalize x.d=xd at *;generalize (T++R).length=M at *;go_wp2;refine tr_ 10 (λV=>z_ V tb 2 (S_ z M Y)/\z_ V q 0 (I_ n)/\z_ V q 1 d/\z_ V z (i*3+1) (I_ xn)/\z_ V z (i*3+1+1) xd) ?_;refine tB_ 0 [1,10] ?_;refine tB_ 1 [10] ?_;refine tB_ 2 [3,4,5,7,8,9,10] ?_;refine tB_ 3 [4,5,7,8,9,10] ?_;refine tB_ 4 [5,7,8,9,10] ?_;refine tB_ 5 [7,8,9,10] ?_;refine tB_ 6 [7,8,9,10] ?_;refine tB_ 7 [8,9,10] ?_;refine tB_ 8 [9,10] ?_;refine tB_ 9 [10] ?_;refine zh 10 rfl K_ (λ_=>⟨c2,q0,q1,U,X⟩) (λK A=>?_);go_simp;apply(hB.o _ n xn d xd).mono;rintro e w2 ⟨rfl,a6⟩;refine A _ _ ?_;have f:Fr wc w2 N_:=(A_ wc _).drew.trans a6 u_;have x1:=f.keepF U D;have x2:=f.keepF X E;have x3:=f.keepF c4 t4;have k2:=f.ke c2;have k4:=f.ke c4;have p0:=f.ke q0;have p1:=f.ke q1;replace U:=f.ke U;replace X:=f.ke X;replace f:=zy f;refine td_ ?_ _;cases a5:btr n xn
  .go_wp2;go_end0;exact no.o _ f a5
  .go_wp2;refine tr_ 8 (λV=>z_ V tb 2 (S_ z M Y)/\z_ V q 0 (I_ n)/\z_ V q 1 d) ?_;refine tz_ 0 ?_;refine tz_ 1 ?_;refine tz_ 2 ?_;refine tz_ 3 ?_;refine tz_ 4 ?_;refine tz_ 5 ?_;refine tB_ 6 [7,8] ?_;refine tz_ 7 ?_;refine t1_ 8 ⟨k2,p0,p1⟩ ?_;refine td_ ?_ _;go_wp2;go_end0;exact a9.o _ f a5
end
def qV:Tryz.prog.underlying 3=some (.int .i64):=K_
def Zs:Tryz.prog.underlying 210=some (.map 3 3):=K_
def GN:Tryz.prog.underlying 211=some (.slice 297):=K_
def Ua:(Tryz.prog.info? 297).map (λi=>(i.zero,i.size,i.bytes))=some (some (.agg #[.nilIface,O_,.nilIface]),3,40):=K_
def Qa(w:Aw):(zeroValue 3).run prog w=.ok (O_) w:=by kernel_rfl
section
variable {α ρ:Type} {P:TP α ρ} {kv:α->Value} {Q:α->Prop} {num:α->Nat} {N fb tb mb:Nat} {fn:Et} {fa:Ax}
def Ya{r:ρ}{T:List (Rw α)}{x:Rw α}{uT:Av}{ux:Ax}(H:(ID kv Q num N).OK)(B:P.OK (ID kv Q num N) ⟨fb,tb,mb,.func (.methodOf 46 "Place") #[] #[],.func (.func fn) #[fa] #[]⟩)(h:TbI P (ID kv Q num N) ⟨fb,tb,mb,.func (.methodOf 46 "Place") #[] #[],.func (.func fn) #[fa] #[]⟩ W r rv g T)(hx:T[i]?=some x)(hk:kv x.a=I_ k)(O:keyOf prog 3 (I_ k)=some (.int .i64 (k:Int)))(hm:∀W,(method 553 uT ux "Place").run prog W=.ok (72,I_ k) W):Calls prog 89 #[P_ tb,.iface uT ux] W (tZ P (ID kv Q num N) ⟨fb,tb,mb,.func (.methodOf 46 "Place") #[] #[],.func (.func fn) #[fa] #[]⟩ W r rv g T x.a):=by
 obtain⟨U,C⟩:=y_ (tZ P (ID kv Q num N) ⟨fb,tb,mb,.func (.methodOf 46 "Place") #[] #[],.func (.func fn) #[fa] #[]⟩ W r rv g T x.a)
 rw[<- C.o];have l:=ai_ hx;obtain⟨w1,hw1⟩:=e_ (W.alloc (.cells #[O_,.nilIface] 85));have z:Fr W w1 N_:=xy_
 have f:Blk w1 W.heap.size [O_,.nilIface] 85:=ya_
 have h1:=h.new B z;obtain⟨D,E,J⟩:=h1.t.map;obtain⟨Y,G⟩:=(J x.a _ (h.t.q x l).1 (show keyOf prog 3 (kv x.a)=_ by rw[hk];exact O)).1 i x hx rfl;obtain⟨b,Z,u,rfl,hu,X,Z,Z,-,-⟩:=h1.cellsD hx;have hi:=(ak_.1 hx).1;have Z:(i:Int)<(T.length:Int):=M_;have c0:=h1.t.b.c0;have c2:=h1.t.b.c2;have c3:=h1.t.b.c3;have Z:=f.c0;have Z:=f.c1;have Z:=f.th 0;have Z:=f.th 1;have S:=((h.t.q x l).2.2.2);have Z:=λW a m=>run_store prog W a x.d m S.one;have F:=J_ w1 W.heap.size 0 1 (I_ x.n) x.d;have A:Blk ((w1.setCell ⟨W.heap.size,0,none⟩ (I_ x.n)).setCell ⟨W.heap.size,1,none⟩ x.d) W.heap.size [I_ x.n,x.d] 85:=(f.set 0 _).set 1 _;have r0:=A.c0;have r1:=A.c1;have fin:H_ (U (.returned (.agg #[I_ x.n,x.d])) ((w1.setCell ⟨W.heap.size,0,none⟩ (I_ x.n)).setCell ⟨W.heap.size,1,none⟩ x.d)):=zy (by
  rw[C.o]
  have U:fb<tb/\tb<W.heap.size:=(h.t.li (x:=tb) (.inl rfl))
  exact⟨x,rfl,l,rfl,h1.put B yr_ f F,⟨(z.mono v_).trans F (λy hy e=>M_),λ_ _ e=>e⟩⟩)
 have K:=H.keyed;generalize x.n=xn at *;generalize x.d=xd at *;generalize T.length=M at *;replace hw1:=zy hw1;replace G:=zy G;replace E:=zy E;go_in;go_upto_region 1 with fail;rw[<- hw1.o];go_wp2_with (first
  |(go_at_call 72;apply(xp (k:Int) _).mono;rintro e f ⟨rfl,f⟩;rw[f])
  |(at_lookup;refine wpList_lookup_own_ok_int _ rfl _ _ 210 rfl 3 3 .i64 K Zs qV (Qa _) mb M D rfl E _ _ rfl O ?_;intro c hc f;rw[G.o]at hc;simp only[DataW.lit.injEq,Lit.int.injEq,true_and]at hc;subst hc;rw[Y]))
 refine bodyPost_ret (v:=.agg #[I_ xn,xd]) (by simp[results,results89,go_sem,r0,r1]) rfl ?_;exact fin
def Yo{r:ρ}{T:List (Rw α)}{a:α}{uT:Av}{ux:Ax}(Z:(ID kv Q num N).OK)(E:P.OK (ID kv Q num N) ⟨fb,tb,mb,.func (.methodOf 46 "Place") #[] #[],.func (.func fn) #[fa] #[]⟩)(h:TbI P (ID kv Q num N) ⟨fb,tb,mb,.func (.methodOf 46 "Place") #[] #[],.func (.func fn) #[fa] #[]⟩ W r rv g T)(ha:Q a)(hq:P.QV W a [.iface uT ux])(hx:∀x∈T,x.a≠a)(hk:kv a=I_ k)(a3:keyOf prog 3 (I_ k)=some (.int .i64 (k:Int)))(hm:∀W,(method 553 uT ux "Place").run prog W=.ok (72,I_ k) W)(hT:T.length<=1000000)(hL:∀V b7,TbI P (ID kv Q num N) ⟨fb,tb,mb,.func (.methodOf 46 "Place") #[] #[],.func (.func fn) #[fa] #[]⟩ V r b7 g (T++[⟨a,[.iface uT ux],0,.nilIface⟩])->Calls prog 150 #[P_ tb,I_ T.length] V (cm P (ID kv Q num N) ⟨fb,tb,mb,.func (.methodOf 46 "Place") #[] #[],.func (.func fn) #[fa] #[]⟩ V r b7 g (T++[⟨a,[.iface uT ux],0,.nilIface⟩]) T.length)):Calls prog 89 #[P_ tb,.iface uT ux] W (ju P (ID kv Q num N) ⟨fb,tb,mb,.func (.methodOf 46 "Place") #[] #[],.func (.func fn) #[fa] #[]⟩ W r rv g T a):=by
 obtain⟨b8,Q_⟩:=y_ (ju P (ID kv Q num N) ⟨fb,tb,mb,.func (.methodOf 46 "Place") #[] #[],.func (.func fn) #[fa] #[]⟩ W r rv g T a)
 rw[<- Q_.o];obtain⟨w1,hw1⟩:=e_ (W.alloc (.cells #[O_,.nilIface] 85));have O:Fr W w1 N_:=xy_
 have B1:Blk w1 W.heap.size [O_,.nilIface] 85:=ya_
 have h1:=h.new E O;obtain⟨D,U,a1⟩:=h1.t.map;have a2:keyOf prog 3 (kv a)=some (.int .i64 (k:Int)):=by rw[hk];exact a3
 have hh:=(a1 a _ ha a2).2 hx
 have a5:∀x,TSS P ⟨fb,tb,mb,.func (.methodOf 46 "Place") #[] #[],.func (.func fn) #[fa] #[]⟩ rv r x->fb<x/\x<W.heap.size:=λx e=>h.li E e
 have e0:fb<tb/\tb<W.heap.size:=a5 tb (.inl (.inl rfl));obtain⟨a0,a7,a8⟩:=h1.t.apart Z;have a6:w1.ownsRow (fb+1) 297 3 rv T.length (T.flatMap Rw.cells):=h1.t.row;have hb:=h1.t.b;obtain⟨A,B,rfl⟩:=zw a6;have c0:=hb.c0;have c2:=hb.c2;have c3:=hb.c3;have t2:=hb.th 2;obtain⟨ti,d6,d7,d8,d9⟩:=info_parts Ua;have push:H_ (∀l u C,l.ownsMap prog 3 (plainElem prog 3) mb (T.length+1) (D.put (.int .i64 (k:Int)) (.lit (.int .i64 (T.length:Int))))->w1.grownBy l (some mb)->(l.alloc (.cells #[.iface uT ux,O_,.nilIface] 297)).grownBy u (Value.slice A T.length B).ownBlock->u.ownsRow (fb+1) 297 3 C (T.length+1) (T.flatMap Rw.cells++[.iface uT ux,O_,.nilIface])->(C.ownBlock=(Value.slice A T.length B).ownBlock\/C.ownBlock=some (l.alloc (.cells #[.iface uT ux,O_,.nilIface] 297)).heap.size)->
  TbI P (ID kv Q num N) ⟨fb,tb,mb,.func (.methodOf 46 "Place") #[] #[],.func (.func fn) #[fa] #[]⟩ (u.setCell ⟨tb,2,none⟩ C) r C g (T++[⟨a,[.iface uT ux],0,.nilIface⟩])/\Stp W (u.setCell ⟨tb,2,none⟩ C) (TSS P ⟨fb,tb,mb,.func (.methodOf 46 "Place") #[] #[],.func (.func fn) #[fa] #[]⟩ (.slice A T.length B) r) (TSS P ⟨fb,tb,mb,.func (.methodOf 46 "Place") #[] #[],.func (.func fn) #[fa] #[]⟩ C r)/\Blk (u.setCell ⟨tb,2,none⟩ C) W.heap.size [O_,.nilIface] 85/\¬TSS P ⟨fb,tb,mb,.func (.methodOf 46 "Place") #[] #[],.func (.func fn) #[fa] #[]⟩ C r W.heap.size):=zy (λl u C H F k3 k4 k5=>by
  obtain⟨p1,p2⟩:=h1.t.push Z (r:=⟨a,[.iface uT ux],0,.nilIface⟩) ⟨ha,rfl,by show(0:Nat)<=301;omega,.inl rfl⟩ hx a2 a1 U.isMap H F ((A_ l _).alloc _) k3 k4 (k5.imp id (λe=>⟨_,e,l_⟩))
  have p3:=h1.turn E p2 p1 (λy hy=>by
   rcases a4_.1 hy with hy|hy
   .exact .inl hy
   .simp only[a2_]at hy
    subst hy
    exact .inr ⟨E.z _ _ _,E.qv _ _ _ _ _ (E.qv _ _ _ _ _ hq O (λ_ f=>f.elim)) p2.1 (λy hy=>(h1.t.li hy).1)⟩)
  have p4:=p3.2.1.bl B1 (λe=>absurd (a5 _ e).2 (a5_ _))
  exact⟨p3.1,(C_ O (λ_ h=>h)).trans p3.2,p4,λe=>e.elim (p1.ot p4 (Ne.symm E.tt.1) (Ne.symm E.tt.2)) (λe=>absurd (E.rs _ _ _ h.i e).2 (a5_ _))⟩)
 have a9:H_ (∀l,w1.grownBy l (some mb)->l.cell? ⟨tb,2,none⟩=some (.slice A T.length B)/\l.frozen? ⟨tb,2,none⟩=false/\l.ownsRow (fb+1) 297 3 (.slice A T.length B) T.length (T.flatMap Rw.cells)/\fb+1<=l.heap.size/\tb<l.heap.size):=zy (λl hg=>by
  have f:=(A_ w1 (λx=>x=mb)).gw hg (λk e _=>by simpa using e.symm)
  have b2:=f.bl hb a0
  have z:=f.size
  have z1:=O.size
  have J:=b2.c2
  exact⟨J,b2.th 2,zj a6 f (λx e k=>a8 (by rw[e,show x=mb from k])),M_,b2.lt⟩)
 have b4:H_ (∀l u:World,w1.grownBy l (some mb)->(l.alloc (.cells #[.iface uT ux,O_,.nilIface] 297)).grownBy u (Value.slice A T.length B).ownBlock->u.cell? ⟨tb,2,none⟩=some (.slice A T.length B)/\u.frozen? ⟨tb,2,none⟩=false):=zy (λl u hg Y=>by
  have f:=(A_ w1 (λx=>x=mb)).gw hg (λk e _=>by simpa using e.symm)
  have f5:=((A_ l (λx=>(Value.slice A T.length B).ownBlock=some x)).alloc (.cells #[.iface uT ux,O_,.nilIface] 297)).gw Y (λk e _=>e)
  have b2:=f5.bl (f.bl hb a0) a7
  have J:=b2.c2
  exact⟨J,b2.th 2⟩)
 have fin:H_ (∀V r' rv' g' T' (y:Rw α) V1,TbI P (ID kv Q num N) ⟨fb,tb,mb,.func (.methodOf 46 "Place") #[] #[],.func (.func fn) #[fa] #[]⟩ V r' rv' g' T'->Stp W V (TSS P ⟨fb,tb,mb,.func (.methodOf 46 "Place") #[] #[],.func (.func fn) #[fa] #[]⟩ (.slice A T.length B) r) (TSS P ⟨fb,tb,mb,.func (.methodOf 46 "Place") #[] #[],.func (.func fn) #[fa] #[]⟩ rv' r')->Grw P.Cl T T' g g'->y∈T'->y.a=a->Blk V W.heap.size [O_,.nilIface] 85->V1=(V.setCell ⟨W.heap.size,0,none⟩ (I_ y.n)).setCell ⟨W.heap.size,1,none⟩ y.d->b8 (.returned (.agg #[I_ y.n,y.d])) V1):=zy (λV r' rv' g' T' y V1 H F k3 k4 k5 k6 k7=>by
  rw[Q_.o,k7]
  have hF:=J_ V W.heap.size 0 1 (I_ y.n) y.d
  exact⟨r',rv',g',T',y,rfl,k4,k5,H.put E yr_ k6 hF,⟨F.1.trans hF (λy hy e=>M_),F.2⟩,k3⟩)
 replace hL:=zy hL;have K:=Z.keyed;have d2:H_ ((Value.slice A T.length B).ownBlock=(Value.slice A T.length B).ownBlock):=zy rfl;generalize X:T.length=M at *;replace X:=zy X;replace hw1:=zy hw1;replace U:=zy U;generalize T.flatMap Rw.cells=CS at *;go_in;go_upto_region 1 with fail;rw[<- hw1.o];go_wp2_with (first
  |(go_at_call 72;apply(xp (k:Int) _).mono;rintro e l ⟨rfl,O⟩;rw[O])
  |(at_lookup;refine wpList_lookup_own_ok_int _ rfl _ _ 210 rfl 3 3 .i64 K Zs qV (Qa _) mb M D rfl U _ _ rfl a3 ?_;intro c hc O;rw[hh])
  |(at_mapUpdate;refine wpList_mapUpdate_own _ rfl _ _ _ 210 rfl 3 3 K Zs (plainElem prog 3) mb M D rfl U xs_ _ _ _ rfl rfl a3 _ [] (plainElem_int qV (WalkArith.wf_i64 M_)) ?_;intro l H F;obtain⟨J,O,o2,O,O⟩:=a9.o l F;revert H F o2;refine h_ λH F o2=>?_)
  |(at_builtin;go_must (refine wpList_append_own_at _ rfl _ _ 211 rfl (fb+1) 297 ti _ 3 40 GN d6 d7 d8 d9 rfl D_ (.slice A M B) M CS rfl ?hown _ 1 1 [.iface uT ux,O_,.nilIface] rfl rfl (zK _ #[.iface uT ux,O_,.nilIface] _ _ ?nn) ?one ?b1 ?b2 ?b3 ?_)
    case hown=>exact World.ownsRow.alloc o2 _
    case nn=>simp
    case one=>simp[Value.oneCell']
    case b1=>unfold maxLen;omega
    case b2=>omega
    case b3=>simp;omega
    intro C u a4 Y e1 b5
    obtain⟨A,f5⟩:=b4.o l u F Y
    have hp:=push.o l u C H F Y a4 b5
    obtain⟨l,l,rfl⟩:=zg a4 M_
    replace hp:=zy hp)
  |(go_at_call 150;apply(hL.o _ _ hp.o.1).mono;rintro e w7 ⟨r7,l,g7,T7,rfl,S,s7,l7⟩;rw[<- X.o]at l7;obtain⟨G7,y,hy,b6⟩:=l7.grw;have G:=s7.1.bl hp.o.2.2.1 hp.o.2.2.2;obtain⟨l,l,l,rfl,-,-,l,J,-,-⟩:=S.cellsD hy;have u:(M:Int)<(T7.length:Int):=(by have:=(ak_.1 hy).1;rw[X.o]at this;omega);rw[X.o]at l J;have l:=S.t.b.c2;have l:=G.c0;have l:=G.c1;have l:=G.th 0;have l:=G.th 1;have l:=λW a m=>run_store prog W a y.d m ((S.t.q y (ai_ hy)).2.2.2).one;have B8:Blk ((w7.setCell ⟨W.heap.size,0,none⟩ (I_ y.n)).setCell ⟨W.heap.size,1,none⟩ y.d) W.heap.size [I_ y.n,y.d] 85:=(G.set 0 _).set 1 _;have r0:=B8.c0;have r1:=B8.c1;have b9:=zy (λV1=>fin.o w7 r7 _ g7 T7 y V1 S (hp.o.2.1.trans s7) G7 (ai_ hy) b6 G);generalize y.n=yn at *;generalize y.d=yd at *;generalize T7.length=M7 at *))
 refine bodyPost_ret (v:=.agg #[I_ yn,yd]) (by simp[results,results89,go_sem,r0,r1]) rfl ?_;exact b9.o _ rfl
def Mw(kv:α->Value)(a:α)(v:Ay):Prop:=∃uT ux k,v=[.iface uT ux]/\kv a=Z_ ((k:Nat):Int)/\k<=1000000/\∀W,(method 553 uT ux "Place").run prog W=.ok (72,I_ k) W
def mC{r:ρ}{T:List (Rw α)}{a:α}{v:Ay}(b:(ID kv Q num N).OK)(c:P.OK (ID kv Q num N) ⟨fb,tb,mb,.func (.methodOf 46 "Place") #[] #[],.func (.func fn) #[fa] #[]⟩)(f:∀W a v,P.QV W a v->Mw kv a v)(h:TbI P (ID kv Q num N) ⟨fb,tb,mb,.func (.methodOf 46 "Place") #[] #[],.func (.func fn) #[fa] #[]⟩ W r rv g T)(hv:P.QV W a v)(ha:a∈T.map Rw.a):Calls prog 89 #[P_ tb,v.headD .nilIface] W (tZ P (ID kv Q num N) ⟨fb,tb,mb,.func (.methodOf 46 "Place") #[] #[],.func (.func fn) #[fa] #[]⟩ W r rv g T a):=by
 obtain⟨uT,ux,k,rfl,hk,o,e⟩:=f W a v hv;obtain⟨x,l,rfl⟩:=a7_.1 ha;obtain⟨i,hi⟩:=bw_ l;exact Ya b c h hi hk (Maps.keyOf_int_mk qV (WalkArith.wf_i64 M_)) e
def cq21_{p:Prop}(h:p:=by
 intro W r rv g T a v h ha hv hm;(first|(have:=cc1;obtain⟨uT,ux,uT',ux',k,k',rfl,hk,E,D,B,z⟩:=hq W a v hv)|(obtain⟨uT,ux,k,rfl,hk,B,z⟩:=hq W a v hv));(first|(have:=cc1;obtain⟨kl,o⟩:=lJ E D)|(have o:keyOf prog 3 (I_ k)=some (.int .i64 (k:Int)):=Maps.keyOf_int_mk qV (WalkArith.wf_i64 M_)));have hf:=wL Iok h.t.nd (λx hx=>(h.t.q x hx).1);by_cases hx:∀x∈T,x.a≠a
 .have F:=lh Iok h.t.nd (λx hx=>(h.t.q x hx).1) ha hx;obtain⟨c,rfl⟩:∃c,m=c+1:=⟨m-1,by
   have:N<=T.length+m:=hm
   have:T.length<N:=F
   omega⟩
  first
   |have:=cc1
    exact Ye Iok O h ha hv hx hk o B z (al_ hf hN) (λV A b=>PI Iok O (λw n m dv kv=>jA) hfn b (x:=⟨a,[.iface uT ux,.iface uT' ux'],0,.nilIface⟩) (by simp) (λW' u u' l e=>by
     cases e
     exact hF c rfl W' r A g _ a [.iface uT ux,.iface uT' ux'] (b.new O l) ha (O.qv _ _ _ _ _ (b.v ⟨a,[.iface uT ux,.iface uT' ux'],0,.nilIface⟩ (by simp)).2 l (λ_ f=>f.elim)) (by
      have:N<=T.length+(c+1):=hm
      show N<=_
      simp
      omega)))
   |exact Yo Iok O h ha hv hx hk o z (al_ hf hN) (λV A b=>PE Iok O (λw n m dv kv=>jA) hfn b (x:=⟨a,[.iface uT ux],0,.nilIface⟩) (by simp) (λW' u l e=>by
     cases e
     exact hF c rfl W' r A g _ a [.iface uT ux] (b.new O l) ha (O.qv _ _ _ _ _ (b.v ⟨a,[.iface uT ux],0,.nilIface⟩ (by simp)).2 l (λ_ f=>f.elim)) (by
      have:N<=T.length+(c+1):=hm
      show N<=_
      simp
      omega)))
 .simp only[ne_eq,Classical.not_forall,Classical.not_not]at hx;obtain⟨x,C,rfl⟩:=hx;(first|(have:=cc1;exact(mM O hq h hv (a7_.2 ⟨x,C,rfl⟩)).mono (λe w' q=>q.post))|(exact(mC Iok O hq h hv (a7_.2 ⟨x,C,rfl⟩)).mono (λe w' q=>q.post)))):p:=h
def nf(Iok:(ID kv Q num N).OK)(O:P.OK (ID kv Q num N) ⟨fb,tb,mb,.func (.methodOf 46 "Place") #[] #[],.func (.func fn) #[fa] #[]⟩)(hfn:∀args W,(callFunc fn args).run prog W=.ok (.enter fn args) W)(hq:∀W a v,P.QV W a v->Mw kv a v)(hN:N<=1000000)(hF:∀m',m=m'+1->FOK P (ID kv Q num N) ⟨fb,tb,mb,.func (.methodOf 46 "Place") #[] #[],.func (.func fn) #[fa] #[]⟩ fn fa (λv=>v.headD .nilIface) m'):KOK P (ID kv Q num N) ⟨fb,tb,mb,.func (.methodOf 46 "Place") #[] #[],.func (.func fn) #[fa] #[]⟩ 89 (λv=>v.headD .nilIface) m:=by
 exact cq21_
end
end Go.Proofs.YtokgeopihcopeaaGreatDoor
