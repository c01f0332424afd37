import Derived.Test.YtlmebjdmdogmfaaGreatDoorW25
set_option linter.unusedVariables false
set_option maxHeartbeats 16000000
set_option maxRecDepth 100000
set_option linter.defProp false
set_option linter.unusedSimpArgs false
open Go.Proofs.Tryz
namespace Go.Proofs.YtlmebjdmdogmfaaGreatDoor
open Go.RowKit
variable {p q k m B:Nat}{S:Az}{v:Ax}{V' W':Aw}{t:PT}{cs:Ay}{D':Dg}{s:BA}
def wo(V:Aw)(S:Az)(q:Nat)(cs:Ay)(T:Av):Prop:=Blk V q cs T/\¬S q
def wo.stp{V:Aw}{S':Az}{T:Av}(h:wo V S q cs T)(hs:Stp V V' S S'):wo V' S' q cs T:=⟨hs.1.bl h.1 h.2,λe=>h.2 (hs.2 q h.1.lt e)⟩
def wo.new{V:Aw}{T:Av}(h:wo V S q cs T)(hf:Fr V V' N_):wo V' S q cs T:=⟨hf.bl h.1 id,h.2⟩
def wo.ot{V:Aw}{T:Av}(h:wo V S q cs T)(hf:Fr V V' (λx=>x=p))(hp:q≠p):wo V' S q cs T:=⟨hf.bl h.1 hp,h.2⟩
def iQ(ks:Ao):jnN ks<=301:=by
 unfold jnN;split
 .omega
 .split<;>omega
def XR{n m:Nat}:le0 (if btr m n=true then m else n) n/\le0 (if btr m n=true then m else n) m:=by
 by_cases h:btr m n=true
 .rw[i_ h];have:=Vj h;unfold le0;omega
 .rw[n_ h];exact⟨.refl n,pm za_⟩
def oe(h:jnN [k]≠0):k≠0:=λe=>by subst e;exact h rfl
def svD.branch{F:FD}{W:Aw}{J:Az}{D:Dg}{i:Nat}{l:Af}{kd:Ax}(h:svD F W J D (λu=>u=t) k kd)(hl:l[i]?=some t)(hi:i<=300)(f:∀x,D x->D' (.mk 40 (i:Int) noB [] [x]))(h0:jnN [k]=0\/jnN [k]=301->v=.nilIface)(h1:1<=jnN [k]->jnN [k]<=300->BrR i kd v):svD F W J D' (λu=>u=.alts p l) (jnN [k]) v:=by
 refine⟨h0,λe=>?_⟩;obtain⟨x,d1,b,d3⟩:=h.2 (oe e);have c:jnN [k]=nd3 (.mk 40 (i:Int) noB [] [x]):=by rw[<- b];exact iK (ds:=[x])
 refine⟨_,f x d1,c.symm,λa u hu=>?_⟩;subst hu;rw[h1 M_ a];refine .branch i M_ ?_;have:yg (zx F.ds) (.alts p l) i 0=t:=by
  show l.getD i (.leaf 0 0)=t;rw[au_,hl];rfl
 rw[this];refine d3 ?_ t rfl;unfold jnN at a;split at a
 .rename_i h;simp at h;omega
 .split at a
  .omega
  .simp at a;omega
section
variable {α ρ:Type} {P:TP α ρ} {I:TI α} {L:TL} {F:FD}
structure LB(P:TP α ρ)(I:TI α)(L:TL)(F:FD)(D:Dg)(A:Ev)(qs:List α)(W:Aw)(r:ρ)(rv:Ax)(g:Aq)(T:List (Rw α))(i n:Nat)(d:Ax)(V:Aw)(r':ρ)(rv':Ax)(g':Aq)(T':List (Rw α)):Prop where
 ti:TbI P I L V r' rv' g' T'
 st:Stp W V (TSS P L rv r) (TSS P L rv' r')
 gr:Grw P.Cl T T' g g'
 cl:∀q∈qs.take i,∃k,fV T' q k/\le0 n (jnN [k])
 nl:n<=301
 dl:IfV d
 vl:svD F V (λy=>¬TSS P L rv' r' y) D A n d
variable {D:Dg} {A:Ev} {qs:List α} {W V V1 V2:Aw} {r r' r1:ρ} {rv rv' rv1:Ax} {g g' g1:Aq} {T T' T1:List (Rw α)} {i n:Nat} {d:Ax}
def LB.start(a:P.OK I L)(h:TbI P I L W r rv g T)(hf:Fr W V N_):LB P I L F D A qs W r rv g T 0 0 .nilIface V r rv g T:=
 ⟨h.new a hf,C_ hf (λ_ h=>h),Grw.refl _ _,λq a=>by simp at a,M_,.inl rfl,λ_=>rfl,λe=>absurd rfl e⟩
def LB.new(a:P.OK I L)(h:LB P I L F D A qs W r rv g T i n d V r' rv' g' T')(hf:Fr V V1 N_):LB P I L F D A qs W r rv g T i n d V1 r' rv' g' T':=
 ⟨h.ti.new a hf,h.st.trans (C_ hf (λ_ h=>h)),h.gr,h.cl,h.nl,h.dl,h.vl.stp (C_ hf (λ_ h=>h))⟩
def LB.put(a:P.OK I L)(h:LB P I L F D A qs W r rv g T i n d V r' rv' g' T')(b:L.fb<q)(hw:W.heap.size<=q)(hb:Blk V q cs 85)(hf:Fr V V1 (λx=>x=q)):LB P I L F D A qs W r rv g T i n d V1 r' rv' g' T':=
 ⟨h.ti.put a b hb hf,⟨h.st.1.trans hf (λx hx e=>M_),h.st.2⟩,h.gr,h.cl,h.nl,h.dl,h.vl.put hb D_ D_ hf⟩
def LB.step(b:P.OK I L){q:α}{x:Rw α}(h:LB P I L F D A qs W r rv g T i n d V r' rv' g' T')(f:qs[i]?=some q)(hx:x∈T1)(ha:x.a=q)(l:TbI P I L V1 r1 rv1 g1 T1)(hs:Stp V V1 (TSS P L rv' r') (TSS P L rv1 r1))(hg:Grw P.Cl T' T1 g' g1)(hv:IfV v)(j:svD F V1 (λy=>¬TSS P L rv1 r1 y) D A (jnN [x.n]) v):LB P I L F D A qs W r rv g T (i+1) (if btr (jnN [x.n]) n=true then jnN [x.n] else n) (if btr (jnN [x.n]) n=true then v else d) V1 r1 rv1 g1 T1:=by
 have e:=hg;obtain⟨R,c,_⟩:=e;have hb:=@XR n (jnN [x.n]);refine⟨l,h.st.trans hs,h.gr.trans b.mono hg,λp hp=>?_,?_,?_,?_⟩
 .rw[a7_,f]at hp;rcases a1_.1 hp with hp|hp
  .obtain⟨k,b,e⟩:=h.cl p hp;exact⟨k,by rw[c];exact b.more R,hb.1.trans e⟩
  .simp only[Option.toList_some,a0_]at hp;subst hp;exact⟨x.n,⟨x,hx,ha,rfl⟩,hb.2⟩
 .split
  .exact iQ _
  .exact h.nl
 .split
  .exact hv
  .exact h.dl
 .split
  .exact j
  .exact h.vl.stp hs
structure BFM(P:TP α ρ)(I:TI α)(L:TL)(F:FD)(D:Dg)(A:Ev)(qs:List α)(c0:Ay)(T0:Av)(W:Aw)(r:ρ)(rv:Ax)(g:Aq)(T:List (Rw α))(i n:Nat)(d:Ax)(V:Aw)(r':ρ)(rv':Ax)(g':Aq)(T':List (Rw α)):Prop where
 b:LB P I L F D A qs W r rv g T i n d V r' rv' g' T'
 o0:wo V (TSS P L rv' r') W.heap.size c0 T0
 o1:wo V (TSS P L rv' r') (W.heap.size+1) [O_,.nilIface] 85
 o2:wo V (TSS P L rv' r') (W.heap.size+2) [I_ n,d] 85
 f:L.fb<W.heap.size
variable {c0:Ay} {T0:Av}
def BFM.start(a:P.OK I L)(h:TbI P I L W r rv g T)(cs:Dy)(T0:Av):BFM P I L F D A qs cs.toList T0 W r rv g T 0 0 .nilIface (((W.alloc (.cells cs T0)).alloc (.cells #[O_,.nilIface] 85)).alloc (.cells #[O_,.nilIface] 85)) r rv g T:=by
 have hl:=λx (hx:TSS P L rv r x)=>(h.li a hx);have b:=zm W (.cells cs T0);have c:=zm (W.alloc (.cells cs T0)) (.cells #[O_,.nilIface] 85);have b1:=(B_ (W.alloc (.cells cs T0)) #[O_,.nilIface] 85).alloc (.cells #[O_,.nilIface] 85);have b2:=B_ ((W.alloc (.cells cs T0)).alloc (.cells #[O_,.nilIface] 85)) #[O_,.nilIface] 85;rw[b]at b1;rw[c,b]at b2;have hb:=hl L.tb (.inl (.inl rfl));exact⟨.start a h ((((A_ W _).alloc _).alloc _).alloc _),⟨((B_ W cs T0).alloc _).alloc _,λe=>o1_ (hl _ e)⟩,⟨b1,λe=>o1_ (hl _ e)⟩,⟨b2,λe=>o1_ (hl _ e)⟩,M_⟩
def BFM.new(a:P.OK I L)(h:BFM P I L F D A qs c0 T0 W r rv g T i n d V r' rv' g' T')(hf:Fr V V1 N_):BFM P I L F D A qs c0 T0 W r rv g T i n d V1 r' rv' g' T':=
 ⟨h.b.new a hf,h.o0.new hf,h.o1.new hf,h.o2.new hf,h.f⟩
def BFM.step(j:P.OK I L){q:α}{x:Rw α}{c:Aw}(h:BFM P I L F D A qs c0 T0 W r rv g T i n d V r' rv' g' T')(l:qs[i]?=some q)(hx:x∈T1)(ha:x.a=q)(u:TbI P I L V1 r1 rv1 g1 T1)(hs:Stp V V1 (TSS P L rv' r') (TSS P L rv1 r1))(hg:Grw P.Cl T' T1 g' g1)(hf:Fr V1 c N_)(hv:IfV v)(o:svD F c (λy=>¬TSS P L rv1 r1 y) D A (jnN [x.n]) v):BFM P I L F D A qs c0 T0 W r rv g T (i+1) (if btr (jnN [x.n]) n=true then jnN [x.n] else n) (if btr (jnN [x.n]) n=true then v else d) ((c.setCell ⟨W.heap.size+2,0,none⟩ (Z_ ((if btr (jnN [x.n]) n=true then jnN [x.n] else n:Nat):Int))).setCell ⟨W.heap.size+2,1,none⟩ (if btr (jnN [x.n]) n=true then v else d)) r1 rv1 g1 T1:=by
 have e:=hs.trans (C_ (S:=TSS P L rv1 r1) hf (λ_ h=>h));have h1:=h.b.step j l hx ha (u.new j hf) e hg hv o;have o2:=h.o2.stp e;have l:=J_ c (W.heap.size+2) 0 1 (Z_ ((if btr (jnN [x.n]) n=true then jnN [x.n] else n:Nat):Int)) (if btr (jnN [x.n]) n=true then v else d);have c:=h.f;exact⟨h1.put j M_ M_ o2.1 l,(h.o0.stp e).ot l M_,(h.o1.stp e).ot l M_,⟨(o2.1.set 0 _).set 1 _,o2.2⟩,c⟩
def BFM.fin(c:P.OK I L){a:α}(h:BFM P I L F D A qs c0 T0 W r rv g T i n d V r' rv' g' T')(hc:P.Cl T' a n)(j:∀V' J,svD F V' J D A n d->P.SV V' J a n d):yB P I L W r rv g T a (.returned (.agg #[I_ n,d])) ((V.setCell ⟨W.heap.size+1,0,none⟩ (I_ n)).setCell ⟨W.heap.size+1,1,none⟩ d):=by
 have e:=J_ V (W.heap.size+1) 0 1 (I_ n) d;have l:=h.f;have h1:=h.b.put c M_ M_ h.o1.1 e;exact⟨r',rv',g',T',n,d,rfl,h.b.nl,h.b.dl,h1.ti,h1.st,h1.gr,hc,j _ _ h1.vl⟩
end
def FX.cell4{F:FD}{W:Aw}(h:FX F W):W.cell? ⟨F.fb,4,none⟩=some (P_ F.tb):=h.b.cell 4
def cq1_{p:Prop}(h:p:=by
 (first|(have _:=cc1;obtain⟨a5,Q_⟩:∃R,H_ (R=yB (uT F) (uI F) (uL F) W r rv g T (.alts p l,y)):=⟨_,rfl⟩)|(obtain⟨a5,Q_⟩:∃R,H_ (R=yB (dT F) (dI F) (dL F) W r rv g T (.ty (.alts p l))):=⟨_,rfl⟩));rw[<- Q_.o];(first|(have _:=cc1;have E:=vH H)|(have E:=fG H));obtain⟨ua,uc,rfl⟩:=zw ho;(first|(have _:=cc1;obtain⟨w3,a1⟩:∃V,V=((W.alloc (.cells #[.slice ua l.length uc,.iface bT bx] 277)).alloc (.cells #[O_,.nilIface] 85)).alloc (.cells #[O_,.nilIface] 85):=⟨_,rfl⟩)|(obtain⟨w3,a1⟩:∃V,V=((W.alloc (.cells #[I_ p,.slice ua l.length uc] 226)).alloc (.cells #[O_,.nilIface] 85)).alloc (.cells #[O_,.nilIface] 85):=⟨_,rfl⟩));(first|(have _:=cc1;obtain⟨j,w⟩:∃B,B=BFM (uT F) (uI F) (uL F) F (UD F (.alts p l,y)) (UA (.alts p l,y)) (l.map λt=>(t,y)) [.slice ua l.length uc,.iface bT bx] 277 W r rv g T:=⟨_,rfl⟩)|(obtain⟨j,w⟩:∃B,B=BFM (dT F) (dI F) (dL F) F (QD F (.ty (.alts p l))) (QT F (.ty (.alts p l))) (l.map Qu.ty) [I_ p,.slice ua l.length uc] 226 W r rv g T:=⟨_,rfl⟩));(first|(have _:=cc1;have start:j 0 0 .nilIface w3 r rv g T:=by rw[a1,w];exact .start E h #[.slice ua l.length uc,.iface bT bx] 277)|(have start:j 0 0 .nilIface w3 r rv g T:=by rw[a1,w];exact .start E h #[I_ p,.slice ua l.length uc] 226))
 (first|(have _:=cc1;have c1:=(show BFM (uT F) (uI F) (uL F) F _ _ _ _ _ W r rv g T _ _ _ _ _ _ _ _ from w▸start).o0.1.c0)|(have c1:=(show BFM (dT F) (dI F) (dL F) F _ _ _ _ _ W r rv g T _ _ _ _ _ _ _ _ from w▸start).o0.1.c1));have d7:l.length<=300:=by
  have:=hq.2.2;unfold vq at this;exact this.1
 (first|(have _:=cc1;have a0:∀x,TSS (uT F) (uL F) rv r x->F.fb<x:=λx e=>(h.li E e).1)|(have a0:∀x,TSS (dT F) (dL F) rv r x->F.fb<x:=λx e=>(h.li E e).1))
 first
  |have _:=cc1
   have item:H_ (∀V r' rv' g' T' (i n:Nat) d t,j i n d V r' rv' g' T'->l[i]?=some t->(∃b,ua=some ⟨b,0,none⟩/\V.cell? ⟨b,i,none⟩=some (X i))/\(∃vT vx,X i=.iface vT vx)/\V.cell? ⟨F.fb,5,none⟩=some (P_ F.tu)/\V.cell? ⟨W.heap.size+2,0,none⟩=some (I_ n)/\V.cell? ⟨W.heap.size+2,1,none⟩=some d/\V.cell? ⟨W.heap.size,1,none⟩=some (.iface bT bx)/\Calls prog 54 #[P_ F.tu,.agg #[X i,.iface bT bx]] V (ju (uT F) (uI F) (uL F) V r' rv' g' T' (t,y))):=zy (λV r' rv' g' T' i n d t M f=>by
    rw[w]at M
    have hf:=M.b.st.1
    have hs:∀x,F.P x->¬TSS (uT F) (uL F) rv r x:=λx hx e=>by have:=a0 x e;have:=H.pP x hx;omega
    have hi:=(aj_.1 f).1
    have o1:=zj ho hf (λx e=>hs x (hP x e))
    obtain⟨b,b8,e⟩:=zg o1 M_
    cases e
    have ty:=(hX i t f).fr hf hs
    have d6:=hy.fr hf (λx hx e=>o2_ (a0 x e) (H.pP' x hx))
    have d2:=M.o0.1.c1
    have Z:=ah_ f
    have hk:=hq.2.1
    unfold okT at hk
    have hw:=hq.2.2
    unfold vq at hw
    have ok:okQ F (.ty t):=⟨hq.1.alts t Z,(vI hk.2 t Z).2,kU hw.2 t Z⟩
    obtain⟨R,hR,_⟩:=M.b.gr
    obtain⟨vT,vx,N⟩:=ty.iface
    have c:V.cell? ⟨b,i,none⟩=some (X i):=zr o1 rfl (by simp[hi])
    have a7:=M.o2.1.c0
    have a8:=M.o2.1.c1
    exact⟨⟨b,rfl,c⟩,⟨vT,vx,N⟩,M.b.ti.i.1.i.cell5,a7,a8,d2,hK V r' rv' g' T' (t,y) [X i,.iface bT bx] M.b.ti ⟨ok,hqy⟩ ⟨⟨_,_,rfl,ty,d6⟩,ok,hqy⟩ (by rw[hR,ag_];show 90000<=_;omega)⟩)
  |have item:H_ (∀V r' rv' g' T' (i n:Nat) d t,j i n d V r' rv' g' T'->l[i]?=some t->(∃b,ua=some ⟨b,0,none⟩/\V.cell? ⟨b,i,none⟩=some (X i))/\(∃uT ux,X i=.iface uT ux)/\V.cell? ⟨F.fb,4,none⟩=some (P_ F.tb)/\V.cell? ⟨W.heap.size+2,0,none⟩=some (I_ n)/\V.cell? ⟨W.heap.size+2,1,none⟩=some d/\Calls prog 89 #[P_ F.tb,X i] V (ju (dT F) (dI F) (dL F) V r' rv' g' T' (.ty t))):=zy (λV r' rv' g' T' i n d t M f=>by
    rw[w]at M
    have hf:=M.b.st.1
    have hs:∀x,F.P x->¬TSS (dT F) (dL F) rv r x:=λx hx e=>by have:=a0 x e;have:=H.pP x hx;omega
    have hi:=(aj_.1 f).1
    have o1:=zj ho hf (λx e=>hs x (hP x e))
    obtain⟨b,b8,e⟩:=zg o1 M_
    cases e
    have ty:=(hX i t f).fr hf hs
    have Z:=ah_ f
    have hk:=hq.2.1
    unfold okT at hk
    have hw:=hq.2.2
    unfold vq at hw
    have ok:okQ F (.ty t):=⟨hq.1.alts t Z,(vI hk.2 t Z).2,kU hw.2 t Z⟩
    obtain⟨R,hR,_⟩:=M.b.gr
    obtain⟨uT,ux,N⟩:=ty.iface
    have c:V.cell? ⟨b,i,none⟩=some (X i):=zr o1 rfl (by simp[hi])
    have a7:=M.o2.1.c0
    have a8:=M.o2.1.c1
    exact⟨⟨b,rfl,c⟩,⟨uT,ux,N⟩,M.b.ti.i.cell4,a7,a8,hK V r' rv' g' T' (.ty t) [X i] M.b.ti ok ⟨⟨_,rfl,ty⟩,ok⟩ (by rw[hR,ag_];show 300<=_;omega)⟩)
 first
  |have _:=cc1
   have next:H_ (∀V r' rv' g' T' (i n:Nat) d t V1 r1 rv1 g1 T1 (x:Rw (PT×PT)) U v,j i n d V r' rv' g' T'->l[i]?=some t->x∈T1->x.a=(t,y)->TbI (uT F) (uI F) (uL F) V1 r1 rv1 g1 T1->Stp V V1 (TSS (uT F) (uL F) rv' r') (TSS (uT F) (uL F) rv1 r1)->Grw (uT F).Cl T' T1 g' g1->Fr V1 U N_->IfV v->(jnN [x.n]=0\/jnN [x.n]=301->v=.nilIface)->(1<=jnN [x.n]->jnN [x.n]<=300->BrR i x.d v)->
    j (i+1) (if btr (jnN [x.n]) n=true then jnN [x.n] else n) (if btr (jnN [x.n]) n=true then v else d) ((U.setCell ⟨W.heap.size+2,0,none⟩ (Z_ ((if btr (jnN [x.n]) n=true then jnN [x.n] else n:Nat):Int))).setCell ⟨W.heap.size+2,1,none⟩ (if btr (jnN [x.n]) n=true then v else d)) r1 rv1 g1 T1):=zy (λV r' rv' g' T' i n d t V1 r1 rv1 g1 T1 x U v M f hx ha hT hs hg hf hv h0 h1=>by
    rw[w]at M⊢
    have hi:=(aj_.1 f).1
    refine M.step E (q:=(t,y)) (by rw[av_,f];rfl) hx ha hT hs hg hf hv ?_
    have a2:=((hT.new E hf).v x hx).1
    rw[ha]at a2
    exact svD.branch a2 f M_ (λz hz=>.alts0 M_ f hz) h0 h1)
  |have next:H_ (∀V r' rv' g' T' (i n:Nat) d t V1 r1 rv1 g1 T1 (x:Rw Qu) U v,j i n d V r' rv' g' T'->l[i]?=some t->x∈T1->x.a=.ty t->TbI (dT F) (dI F) (dL F) V1 r1 rv1 g1 T1->Stp V V1 (TSS (dT F) (dL F) rv' r') (TSS (dT F) (dL F) rv1 r1)->Grw (dT F).Cl T' T1 g' g1->Fr V1 U N_->IfV v->(jnN [x.n]=0\/jnN [x.n]=301->v=.nilIface)->(1<=jnN [x.n]->jnN [x.n]<=300->BrR i x.d v)->
    j (i+1) (if btr (jnN [x.n]) n=true then jnN [x.n] else n) (if btr (jnN [x.n]) n=true then v else d) ((U.setCell ⟨W.heap.size+2,0,none⟩ (Z_ ((if btr (jnN [x.n]) n=true then jnN [x.n] else n:Nat):Int))).setCell ⟨W.heap.size+2,1,none⟩ (if btr (jnN [x.n]) n=true then v else d)) r1 rv1 g1 T1):=zy (λV r' rv' g' T' i n d t V1 r1 rv1 g1 T1 x U v M f hx ha hT hs hg hf hv h0 h1=>by
    rw[w]at M⊢
    have hi:=(aj_.1 f).1
    refine M.step E (q:=.ty t) (by rw[av_,f];rfl) hx ha hT hs hg hf hv ?_
    have a2:=((hT.new E hf).v x hx).1
    rw[ha]at a2
    exact svD.branch a2 f M_ (λy hy u hu=>by rw[show u=PT.alts p l from hu];exact .alts M_ f (hy t rfl)) h0 h1)
 first
  |have _:=cc1
   have fin:H_ (∀V r' rv' g' T' n d,j l.length n d V r' rv' g' T'->a5 (.returned (.agg #[I_ n,d])) ((V.setCell ⟨W.heap.size+1,0,none⟩ (I_ n)).setCell ⟨W.heap.size+1,1,none⟩ d)/\Blk V (W.heap.size+1) [O_,.nilIface] 85/\Blk V (W.heap.size+2) [I_ n,d] 85/\IfV d):=zy (λV r' rv' g' T' n d M=>by
    rw[w]at M
    rw[Q_.o]
    refine⟨M.fin E ?_ (λ_ _ h=>h),M.o1.1,M.o2.1,M.b.dl⟩
    refine⟨λp' d8 e t f=>?_,λe=>(by cases e),λc p p' u u' e=>(by cases e),λc p p' lw lr ow o q e=>(by cases e),λc p p' fw fr g i h e=>(by cases e),λc p p' fw fr g e=>(by cases e)⟩
    cases e
    exact M.b.cl (t,y) (by rw[bb_ (by simp)];exact a5_.2 ⟨t,f,rfl⟩))
  |have fin:H_ (∀V r' rv' g' T' n d,j l.length n d V r' rv' g' T'->a5 (.returned (.agg #[I_ n,d])) ((V.setCell ⟨W.heap.size+1,0,none⟩ (I_ n)).setCell ⟨W.heap.size+1,1,none⟩ d)/\Blk V (W.heap.size+1) [O_,.nilIface] 85/\Blk V (W.heap.size+2) [I_ n,d] 85/\IfV d):=zy (λV r' rv' g' T' n d M=>by
    rw[w]at M
    rw[Q_.o]
    refine⟨M.fin E (λt f=>?_) (λ_ _ h=>h),M.o1.1,M.o2.1,M.b.dl⟩
    exact M.b.cl (.ty t) (by rw[bb_ (by simp)];exact a5_.2 ⟨t,f,rfl⟩))
 (first|(have _:=cc1;have a6:H_ (∀V r' rv' g' T' n d,∀i,j i n d V r' rv' g' T'->IfV d/\(∀V1 r1 rv1,Stp V V1 (TSS (uT F) (uL F) rv' r') (TSS (uT F) (uL F) rv1 r1)->Blk V1 (W.heap.size+2) [I_ n,d] 85)/\∀V1 r1 rv1,Stp V V1 (TSS (uT F) (uL F) rv' r') (TSS (uT F) (uL F) rv1 r1)->Blk V1 W.heap.size [.slice ua l.length uc,.iface bT bx] 277):=zy (λV r' rv' g' T' n d i M=>by rw[w]at M;exact⟨M.b.dl,λV1 r1 rv1 hs=>(M.o2.stp hs).1,λV1 r1 rv1 hs=>(M.o0.stp hs).1⟩))|(have a6:H_ (∀V r' rv' g' T' n d,∀i,j i n d V r' rv' g' T'->IfV d/\∀V1 r1 rv1,Stp V V1 (TSS (dT F) (dL F) rv' r') (TSS (dT F) (dL F) rv1 r1)->Blk V1 (W.heap.size+2) [I_ n,d] 85):=zy (λV r' rv' g' T' n d i M=>by rw[w]at M;exact⟨M.b.dl,λV1 r1 rv1 hs=>(M.o2.stp hs).1⟩)));replace start:=zy start;replace a1:=zy a1;have b7:H_ (∀V r' rv' g' T' n d i V1,j i n d V r' rv' g' T'->Fr V V1 N_->j i n d V1 r' rv' g' T'):=zy (λV r' rv' g' T' n d i V1 M hf=>by rw[w]at M⊢;exact M.new E hf);replace w:=zy w;(first|(have _:=cc1;clear hK ho hP hX hq h a0 hy hqy)|(clear hK ho hP hX hq h a0));go_in;go_upto_region 2 with fail;rw[<- a1.o];go_wp2;go_loopg [11] (l.length+1) (λm v V=>∃q:Nat,∃n d r' rv' g' T',v=I_ q/\q<=l.length/\l.length+1-q<=m/\H_ (j q n d V r' rv' g' T'));case atStart=>exact⟨0,_,_,_,_,_,_,rfl,al_ _,M_,start⟩
 case round=>
  clear start c1;obtain⟨q,n,d,r',rv',g',T',rfl,hq,hm,M⟩:=hrel;by_cases b6:q<l.length
  .have b9:(q:Int)<(l.length:Int):=M_;obtain⟨t,f⟩:∃t,l[q]?=some t:=⟨_,ai_ b6⟩;(first|(have _:=cc1;obtain⟨⟨b,rfl,e0⟩,⟨vT,vx,N⟩,b4,e4,e5,e6,-⟩:=item.o _ _ _ _ _ _ _ _ _ M.o f)|(obtain⟨⟨b,rfl,e0⟩,⟨uT,ux,N⟩,e4,e5,e6,-⟩:=item.o _ _ _ _ _ _ _ _ _ M.o f));(first|(have _:=cc1;have hC:H_ (∀V1,Fr wr V1 N_->Calls prog 54 #[P_ F.tu,.agg #[.iface vT vx,.iface bT bx]] V1 (ju (uT F) (uI F) (uL F) V1 r' rv' g' T' (t,y))):=zy (λV1 hf=>by rw[<- N];exact(item.o V1 _ _ _ _ _ _ _ _ (b7.o _ _ _ _ _ _ _ _ V1 M.o hf) f).2.2.2.2.2.2))|(have hC:H_ (∀V1,Fr wr V1 N_->Calls prog 89 #[P_ F.tb,.iface uT ux] V1 (ju (dT F) (dI F) (dL F) V1 r' rv' g' T' (.ty t))):=zy (λV1 hf=>by rw[<- N];exact(item.o V1 _ _ _ _ _ _ _ _ (b7.o _ _ _ _ _ _ _ _ V1 M.o hf) f).2.2.2.2.2)));rw[N]at e0;replace f:=zy f;replace N:=zy N;go_wp2;(first|(have _:=cc1;refine tr_ 13 (λV=>z_ V (W.heap.size+2) 0 (I_ n)/\z_ V (W.heap.size+2) 1 d/\z_ V F.fb 5 (P_ F.tu)/\z_ V W.heap.size 1 (.iface bT bx)) ?_)|(refine tr_ 10 (λV=>z_ V (W.heap.size+2) 0 (I_ n)/\z_ V (W.heap.size+2) 1 d/\z_ V F.fb 4 (P_ F.tb)) ?_));refine tz_ 0 ?_;refine tz_ 1 ?_;refine tz_ 2 ?_;refine tz_ 3 ?_;refine tz_ 4 ?_;refine tz_ 5 ?_;refine tz_ 6 ?_;(first|(have _:=cc1;refine tz_ 7 ?_;refine tz_ 8 ?_;refine tz_ 9 ?_;refine zh 10 rfl K_ (λ_=>⟨e4,e5,b4,e6⟩) (λK hK=>?_))|(refine zh 7 rfl K_ (λ_=>⟨e5,e6,e4⟩) (λK hK=>?_)));go_simp;apply(hC.o _ (A_ wr _).drew).mono;rintro e w1 ⟨r1,rv1,g1,T1,x,rfl,hx,ha,h1,s1,G1⟩;refine hK _ _ ?_;(first|(have _:=cc1;clear hK K e0 b4 e4 e5 e6)|(clear hK K e0 e4 e5 e6));have a3:=(C_ (A_ wr _).drew (λ_ h=>h)).trans s1;(first|(have _:=cc1;obtain⟨hd,hb,b5⟩:=a6.o _ _ _ _ _ _ _ _ M.o;have b0:=b5 w1 r1 rv1 a3;have O:=b0.c1)|(obtain⟨hd,hb⟩:=a6.o _ _ _ _ _ _ _ _ M.o));have b1:=hb w1 r1 rv1 a3;have z0:=b1.c0;(first|(have _:=cc1;have a9:=b1.c1)|(have Q:=b1.c1));(first|(have _:=cc1;have Q:w1.cell? ⟨F.fb,5,none⟩=some (P_ F.tu):=h1.i.1.i.cell5)|(have O:w1.cell? ⟨F.fb,4,none⟩=some (P_ F.tb):=h1.i.cell4));have xq:=(h1.t.q x hx).2.2;(first|(have _:=cc1;refine zh 11 rfl K_ (λ_=>⟨z0,a9,Q,O⟩) (λK hK=>?_))|(refine zh 8 rfl K_ (λ_=>⟨z0,Q,O⟩) (λK hK=>?_)));go_simp;apply(mU (n:=q) xq.2 xq.1).mono;rintro e w2 ⟨v,rfl,hv,G,v0,v1⟩;refine hK _ _ ?_;clear hK K;(first|(have _:=cc1;refine zh 12 rfl K_ (λ_=>⟨G.ke z0,G.ke a9,G.ke Q,G.ke O⟩) (λK hK=>?_))|(refine zh 9 rfl K_ (λ_=>⟨G.ke z0,G.ke Q,G.ke O⟩) (λK hK=>?_)));go_simp;apply(pn hd hv).mono;rintro e w3 ⟨rfl,f3⟩;refine hK _ _ ?_;clear hK K;have Y:=G.trans f3 u_;have b3:=Y.bl b1 id;have y0:=b3.c0;have y1:=b3.c1;have y2:=b3.th 0;have y3:=b3.th 1;have nx:=zy (next.o _ _ _ _ _ _ _ _ _ w1 _ _ _ _ x w3 v M.o f.o hx ha h1 a3 G1 Y hv v0 v1);have ev:(if btr (jnN [x.n]) n=true then Value.agg #[Z_ (jnN [x.n]:Int),v] else .agg #[I_ n,d])=.agg #[Z_ ((if btr (jnN [x.n]) n=true then jnN [x.n] else n:Nat):Int),if btr (jnN [x.n]) n=true then v else d]:=by split<;>rfl
   rw[ev];have a4:IfV (if btr (jnN [x.n]) n=true then v else d):=by
    split
    .exact hv
    .exact hd
   generalize (if btr (jnN [x.n]) n=true then jnN [x.n] else n)=n' at nx;generalize (if btr (jnN [x.n]) n=true then v else d)=d' at nx a4;have sd:=λW a m=>run_store prog W a d' m a4.one;(first|(have _:=cc1;have c3:w3.cell? ⟨F.fb,5,none⟩=some (P_ F.tu):=Y.ke Q)|(have c3:w3.cell? ⟨F.fb,4,none⟩=some (P_ F.tb):=Y.ke O));(first|(have _:=cc1;have c8:=Y.ke O)|(clear hd hb b1 z0 Q O xq hx ha h1 s1 a3 G1 hv v0 v1 G f3 Y b3 ev M a4));(first|(have _:=cc1;clear hd hb b5 b0 b1 z0 a9 Q O xq hx ha h1 s1 a3 G1 hv v0 v1 G f3 Y b3 ev M a4;refine t1_ 13 ⟨y0,y1,c3,c8⟩ ?_)|(refine t1_ 10 ⟨y0,y1,c3⟩ ?_));refine td_ ?_ _;go_wp2;go_roundg (l.length+1-(q+1));case measure=>omega
   case rel=>exact⟨q+1,_,_,_,_,_,_,by simp,b6,l_,nx⟩
  .have b9:¬((q:Int)<(l.length:Int)):=M_;obtain rfl:q=l.length:=M_;obtain⟨f1,b1,b2,hd⟩:=fin.o _ _ _ _ _ _ _ M.o;have s1:=λW a m=>run_store prog W a d m hd.one;have q0:=b1.c0;have q1:=b1.c1;have t0:=b1.th 0;have t1:=b1.th 1;have p0:=b2.c0;have p1:=b2.c1;have B8:Blk ((wr.setCell ⟨W.heap.size+1,0,none⟩ (I_ n)).setCell ⟨W.heap.size+1,1,none⟩ d) (W.heap.size+1) [I_ n,d] 85:=(b1.set 0 _).set 1 _;have x0:=B8.c0;have x1:=B8.c1;replace f1:=zy f1;clear b1 b2 B8;go_wp2;(first|(have _:=cc1;refine bodyPost_ret (v:=.agg #[I_ n,d]) (by simp[results,results159,go_sem,x0,x1]) rfl ?_)|(refine bodyPost_ret (v:=.agg #[I_ n,d]) (by simp[results,results88,go_sem,x0,x1]) rfl ?_));exact f1.o):p:=h
def Qq{F:FD}(H:F.OK){W:Aw}{r:Unit}{rv uv:Ax}{g:Aq}{T:Dr}{l:Af}{X:Ai}(hK:KOK (dT F) (dI F) (dL F) 89 (λv=>v.headD .nilIface) m)(h:TbI (dT F) (dI F) (dL F) W r rv g T)(ho:W.ownsRow 0 46 1 uv l.length ((List.range l.length).map X))(hP:∀g,uv.ownBlock=some g->F.P g)(hX:∀i t,l[i]?=some t->TyV W F.P t (X i))(hq:okQ F (.ty (.alts p l)))(hm:300<=T.length+m):Calls prog 88 #[P_ F.fb,.agg #[I_ p,uv]] W (yB (dT F) (dI F) (dL F) W r rv g T (.ty (.alts p l))):=by
 exact cq1_
def eC:Tryz.prog.underlying 298=some (.slice 85):=K_
def XN:(Tryz.prog.info? 85).map (λi=>(i.zero,i.size,i.bytes))=some (some (.agg #[O_,.nilIface]),2,24):=K_
def aL{o:Db}{a:Act}{K:Dx}{Q:Aa}(s x:Operand)(ho:o.op=.call { callee:=.builtin .append,args:=#[s,x],argTypes:=#[298,298] }){B g n:Nat}{w:Aw}{v c0 c1:Ax}{xs:Ay}(hb:w.ownsRow B 85 2 v n xs)(b:n<=1000)(hB:B<=w.heap.size)(hg:g=w.heap.size)(hs:a.eval s=v)(hx:a.eval x=S_ g 1 1)(h0:c0.oneCell'=true)(h1:c1.oneCell'=true)(h:∀b w',w'.ownsRow B 85 2 b (n+1) (xs++[c0,c1])->(w.alloc (.cells #[c0,c1] 85)).grownBy w' v.ownBlock->(b.ownBlock=v.ownBlock\/b.ownBlock=some (w.alloc (.cells #[c0,c1] 85)).heap.size)->K (a.put o.dst b) w'):o.wp prog a (w.alloc (.cells #[c0,c1] 85)) K Q:=by
 obtain⟨ti,c,e,f,j⟩:=info_parts XN;obtain⟨v5,w5,hr,u,b,_,l⟩:=run_append_own_at (P:=prog) (w.alloc (.cells #[c0,c1] 85)) B 298 o.type 85 ti _ 2 24 eC c e f j rfl D_ _ n xs (World.ownsRow.alloc hb _) ⟨g,0,none⟩ 1 1 [c0,c1] rfl (zK _ #[c0,c1] _ _ hg) (by simp[h0,h1]) xt_ M_ x1_;unfold Oper.wp execOp;simp only[ho,resolve,invoke,builtin,Sem.run_bind,Sem.run_pure,Result.andThen_ok,List.map_toArray,aw_,be_,hs,hx,hr];exact h v5 w5 u b l
def Ja{V:Aw}{n:Nat}{lv:Ax}{ys:Ay}(h:V.ownsRow B 85 k lv n ys)(hf:Fr V V' (λx=>lv.ownBlock=some x)):Fr V V' N_\/∃q cs,Blk V q cs 85/\B<=q/\lv.ownBlock=some q/\Fr V V' (λx=>x=q):=by
 rcases h.2 with⟨e,_⟩|⟨q,b,a,e,hB,hg,_⟩
 .subst e;exact .inl (hf.mono (λx _ e=>by simp[Value.ownBlock]at e))
 .subst e;exact .inr ⟨q,a.toList,by unfold Blk;simpa using hg,hB,rfl,hf.mono (λx _ e=>by simpa[Value.ownBlock] using e.symm)⟩
def KL{ns:Ao}(hk:k∈ns)(h:jnN ns<=300)(h0:jnN ns≠0):k≠0/\k<=300:=by
 have hs:k<=ns.sum:=by
  clear h h0;induction ns with
  |nil=>simp at hk
  |cons x r ih=>
   rw[List.sum_cons];rcases ao_.1 hk with rfl|hk
   .omega
   .have:=ih hk;omega
 unfold jnN at h h0;split at h
 .rename_i h1;rw[i_ h1]at h0;exact absurd rfl h0
 .rename_i h1;refine⟨λe=>h1 (e▸hk),?_⟩;split at h<;>omega
def svD.recd{F:FD}{V:Aw}{J b:Az}{l:Ev}{Dj:Nat->DT->Prop}{fs:An}{ns:Ao}{Dv:Ai}(hl:ns.length=fs.length)(hk:∀(j k:Nat) (f:PF),ns[j]?=some k->fs[j]?=some f->svD F V J (Dj j) (λu=>u=f.ty) k (Dv j))(E:∀ds:List DT,ds.length=fs.length->(∀(j:Nat) (d:DT),ds[j]?=some d->Dj j d)->D' (.mk 114 0 noB [] ds))(z:∀u,l u->∃c p,u=.leaf c p/\zx F.ds c=some (.recd fs))(G:∀x d u,DaV (zx F.ds) V J d u x->DaV (zx F.ds) V' b d u x)(hB:∀x,B<=x->x<V'.heap.size->b x)(h0:jnN ns=0\/jnN ns=301->v=.nilIface)(h1:1<=jnN ns->jnN ns<=300->RcR B ns.length Dv v V'):svD F V' b D' l (jnN ns) v:=by
 refine⟨h0,λe=>?_⟩;have nz:∀k∈ns,k≠0:=λk hk e'=>by
  subst e';exact e (by unfold jnN;rw[i_ hk])
 have y:∀j,∃x:DT,∀k f,ns[j]?=some k->fs[j]?=some f->Dj j x/\nd3 x=k/\(k<=300->DaV (zx F.ds) V J x f.ty (Dv j)):=λj=>by
  cases hn:ns[j]? with
  |none=>exact⟨default,λk f e=>by cases e⟩
  |some k=>
   have a:=(aj_.1 hn).1;obtain⟨x,b,l,o⟩:=(hk j k _ hn (ai_ M_)).2 (nz k (ah_ hn));exact⟨x,λw f e e'=>by
    cases e
    rw[ai_ M_]at e'
    cases e'
    exact⟨b,l,λh=>o h _ rfl⟩⟩
 let X:=λj=>Classical.choose (y j)
 have hX:=λj=>Classical.choose_spec (y j);have w:∀(j:Nat) (d:DT),((List.range fs.length).map X)[j]?=some d->j<fs.length/\d=X j:=λj d e=>by
  rw[av_]at e;by_cases a:j<fs.length
  .rw[cb_ a]at e;exact⟨a,by simpa using e.symm⟩
  .rw[bj_ (by simpa using a)]at e;cases e
 have H:ns=((List.range fs.length).map X).map nd3:=by
  apply List.ext_getElem?;intro j;by_cases a:j<fs.length
  .rw[av_,av_,cb_ a,ai_ M_];exact congrArg some (hX j _ _ (ai_ M_) (ai_ a)).2.1.symm
  .rw[bj_ M_,bj_ x1_]
 refine⟨.mk 114 0 noB [] ((List.range fs.length).map X),E _ x7_ (λj d e=>?_),?_,λo u hu=>?_⟩
 .obtain⟨a,rfl⟩:=w j d e;exact(hX j _ _ (ai_ M_) (ai_ a)).1
 .rw[<- iK,<- H]
 .obtain⟨c,p,rfl,hc⟩:=z u hu;obtain⟨pv,rfl,hp⟩:=h1 M_ o;refine .row Dv (.inr ⟨rfl,rfl⟩) (by rw[br_,List.length_range,<- hl];exact yl hp) (λx e=>hB x (hp.lt x e).1 (hp.lt x e).2) (λj d e=>?_);obtain⟨a,rfl⟩:=w j d e;have b:=hX j _ _ (ai_ (by omega:j<ns.length)) (ai_ a);have l:=b.2.2 (KL (bk_ _) o M_).2;have:yg (zx F.ds) (.leaf c p) 0 j=fs[j].ty:=by
   simp only[yg,hc,au_,av_,ai_ a];rfl
  rw[this];exact G _ _ _ l
section
variable {α ρ:Type} {P:TP α ρ} {I:TI α} {L:TL} {F:FD}
structure RFM(P:TP α ρ)(I:TI α)(L:TL)(F:FD)(fs:An)(C:List (Rw α)->PF->Nat->Prop)(c0:Ay)(T0:Av)(W:Aw)(r:ρ)(rv:Ax)(g:Aq)(T:List (Rw α))(ns:Ao)(Dv:Ai)(lv:Ax)(V:Aw)(r':ρ)(rv':Ax)(g':Aq)(T':List (Rw α)):Prop where
 ti:TbI P I L V r' rv' g' T'
 st:Stp W V (TSS P L rv r) (TSS P L rv' r')
 gr:Grw P.Cl T T' g g'
 row:V.ownsRow (W.heap.size+2) 85 2 lv ns.length ((List.range ns.length).flatMap λj=>[Z_ ((ns.getD j 0:Nat):Int),Dv j])
 no:∀b,lv.ownBlock=some b->¬TSS P L rv' r' b
 kn:∀(j k:Nat) (f:PF),ns[j]?=some k->fs[j]?=some f->C T' f k/\svD F V (λy=>¬TSS P L rv' r' y) (QD F (.ty f.ty)) (QT F (.ty f.ty)) k (Dv j)
 iv:∀j,IfV (Dv j)
 le:∀n∈ns,n<=301
 o0:wo V (TSS P L rv' r') W.heap.size c0 T0
 o1:wo V (TSS P L rv' r') (W.heap.size+1) [O_,.nilIface] 85
 f:L.fb<W.heap.size
variable {fs:An} {C:List (Rw α)->PF->Nat->Prop} {c0:Ay} {T0:Av} {W V V1 w5:Aw} {r r' r1:ρ} {rv rv' rv1 lv v5:Ax} {g g' g1:Aq} {T T' T1:List (Rw α)} {ns:Ao} {Dv:Ai}
def RFM.new(a:P.OK I L)(h:RFM P I L F fs C c0 T0 W r rv g T ns Dv lv V r' rv' g' T')(hf:Fr V V1 N_):RFM P I L F fs C c0 T0 W r rv g T ns Dv lv V1 r' rv' g' T':=
 ⟨h.ti.new a hf,h.st.trans (C_ hf (λ_ h=>h)),h.gr,zj h.row hf u_,h.no,λj k f e e'=>⟨(h.kn j k f e e').1,(h.kn j k f e e').2.stp (C_ hf (λ_ h=>h))⟩,h.iv,h.le,h.o0.new hf,h.o1.new hf,h.f⟩
def RFM.start(a:P.OK I L)(h:TbI P I L W r rv g T)(cs:Dy)(T0:Av):RFM P I L F fs C cs.toList T0 W r rv g T [] (λ_=>.nilIface) (L_) ((W.alloc (.cells cs T0)).alloc (.cells #[O_,.nilIface] 85)) r rv g T:=by
 have hl:=λx (hx:TSS P L rv r x)=>(h.li a hx);have c:=zm W (.cells cs T0);have b1:=B_ (W.alloc (.cells cs T0)) #[O_,.nilIface] 85;rw[c]at b1;have hb:=hl L.tb (.inl (.inl rfl));have hf:=((A_ W N_).alloc (.cells cs T0)).alloc (.cells #[O_,.nilIface] 85);exact⟨h.new a hf,C_ hf (λ_ h=>h),Grw.refl _ _,World.ownsRow_nil _ _ _ _,λb e=>by simp[Value.ownBlock]at e,λj k f e=>by simp at e,λ_=>.inl rfl,λn hn=>by simp at hn,⟨(B_ W cs T0).alloc _,λe=>o1_ (hl _ e)⟩,⟨b1,λe=>o1_ (hl _ e)⟩,M_⟩
def RFM.known(a:P.OK I L)(c:∀T R f k,C T f k->C (T++R) f k)(h:RFM P I L F fs C c0 T0 W r rv g T ns Dv lv V r' rv' g' T')(u:TbI P I L V1 r1 rv1 g1 T1)(hs:Stp V V1 (TSS P L rv' r') (TSS P L rv1 r1))(hg:Grw P.Cl T' T1 g' g1):RFM P I L F fs C c0 T0 W r rv g T ns Dv lv V1 r1 rv1 g1 T1:=by
 have o:=hg;obtain⟨R,l,_⟩:=o;refine⟨u,h.st.trans hs,h.gr.trans a.mono hg,zj h.row hs.1 h.no,λb e k=>h.no b e (hs.2 b (h.row.lt b e).2 k),λj k f e e'=>⟨?_,(h.kn j k f e e').2.stp hs⟩,h.iv,h.le,h.o0.stp hs,h.o1.stp hs,h.f⟩;rw[l];exact c _ _ _ _ (h.kn j k f e e').1
def RFM.item(a:P.OK I L){kd:Ax}{f:PF}{o:Obj}(h:RFM P I L F fs C c0 T0 W r rv g T ns Dv lv V r' rv' g' T')(hf:fs[ns.length]?=some f)(hc:C T' f k)(w:svD F V (λy=>¬TSS P L rv' r' y) (QD F (.ty f.ty)) (QT F (.ty f.ty)) k kd)(hk:k<=301)(hd:IfV kd)(u:w5.ownsRow (W.heap.size+2) 85 2 v5 (ns.length+1) (((List.range ns.length).flatMap λj=>[Z_ ((ns.getD j 0:Nat):Int),Dv j])++[I_ k,kd]))(hg:(V.alloc o).grownBy w5 lv.ownBlock)(hl:v5.ownBlock=lv.ownBlock\/v5.ownBlock=some (V.alloc o).heap.size):RFM P I L F fs C c0 T0 W r rv g T (ns++[k]) (λj=>if j<ns.length then Dv j else kd) v5 w5 r' rv' g' T':=by
 have A:=(A_ V N_).alloc o;have h1:=h.new a A;have c:Fr (V.alloc o) w5 (λx=>lv.ownBlock=some x):=(A_ _ _).gw hg (λk e _=>e);have hz:=h.o1.1.lt;have z:=A.size;have key:TbI P I L w5 r' rv' g' T'/\(∀k kd (D:DT->Prop) (B:PT->Prop),svD F (V.alloc o) (λy=>¬TSS P L rv' r' y) D B k kd->svD F w5 (λy=>¬TSS P L rv' r' y) D B k kd):=by
  rcases Ja h1.row c with hf|⟨q,cs,hb,hB,_,hf⟩
  .exact⟨h1.ti.new a hf,λk kd D B hs=>hs.stp (C_ hf (λ_ h=>h))⟩
  .have:=h.f;exact⟨h1.ti.put a M_ hb hf,λk kd D B hs=>hs.put hb D_ D_ hf⟩
 have lo:∀x,lv.ownBlock=some x->W.heap.size+2<=x:=λx e=>(h.row.lt x e).1;have st:Stp W w5 (TSS P L rv r) (TSS P L rv' r'):=⟨h1.st.1.trans c (λx hx e=>o1_ (lo x e)),h.st.2⟩;refine⟨key.1,st,h.gr,?_,?_,λj m f' e e'=>?_,λj=>?_,λn hn=>?_,?_,?_,h.f⟩
 .rw[ag_,ap_,bs_,ba_,yo ns.length _ (λj=>[Z_ ((ns.getD j 0:Nat):Int),Dv j]) (λi hi=>by
   simp only[au_]
   rw[ar_ hi,i_ hi])]
  simpa[au_] using u
 .intro b e e';rcases hl with hl|hl
  .exact h.no b (hl▸e) e'
  .rw[hl]at e;simp only[af_]at e;have:=(h1.ti.li a e').2;omega
 .rcases gZ e with⟨l,e⟩|⟨rfl,rfl⟩
  .simp only[l,if_true];exact⟨(h.kn j m f' e e').1,key.2 _ _ _ _ (h1.kn j m f' e e').2⟩
  .simp only[a2_,if_false];rw[hf]at e';cases e';exact⟨hc,key.2 _ _ _ _ (w.stp (C_ A (λ_ h=>h)))⟩
 .show IfV (if j<ns.length then Dv j else kd);split
  .exact h.iv j
  .exact hd
 .rcases a1_.1 hn with hn|hn
  .exact h.le n hn
  .simp only[a0_]at hn;omega
 .exact⟨c.bl h1.o0.1 (λe=>o1_ (lo _ e)),h.o0.2⟩
 .exact⟨c.bl h1.o1.1 (λe=>o1_ (lo _ e)),h.o1.2⟩
end
mutual
def XI:∀t:PT,xS t->vq t
 | .leaf _ _,_=>by unfold vq;trivial
 | .wrap _ _ t,h=>by unfold vq;unfold xS at h;exact XI t h
 | .alts _ l,h=>by unfold vq;unfold xS at h;exact⟨h.1,We l h.2⟩
def We:∀l:List PT,(∀t∈l,xS t)->fW l
 | [],_=>by unfold fW;trivial
 |t::r,h=>by unfold fW;exact⟨XI t (h t (by simp)),We r (λx hx=>h x (by simp[hx]))⟩
end
def fu{w:Aw}{P:Az}{s:BA}{fs:An}{g cap:Nat}{xs:Ay}(ho:w.ownsRow 0 194 4 (S_ g fs.length cap) fs.length xs)(h:xG w P s fs xs){q:Nat}{f:PF}(z:fs[q]?=some f):∃T x d,w.cell? ⟨g,q*4,none⟩=some (I_ f.place)/\w.cell? ⟨g,q*4+1,none⟩=some (U_ f.letter)/\w.cell? ⟨g,q*4+2,none⟩=some (.iface T x)/\w.cell? ⟨g,q*4+3,none⟩=some (.pointer d)/\TyV w P f.ty (.iface T x)/\DfV w P s f.dflt (.pointer d):=by
 obtain⟨a,b,c,d,h1,l,o,u,rfl,rfl,y,j⟩:=h q f z;obtain⟨T,x,rfl⟩:=y.iface;have hd:∃e,d=.pointer e:=by
  unfold DfV at j;split at j
  .exact⟨_,j⟩
  .obtain⟨g',z,_,e,_⟩:=j;exact⟨_,e⟩
 obtain⟨e,rfl⟩:=hd;rw[bg_]at h1 l o u;exact⟨T,x,e,zr ho rfl h1,zr ho rfl l,zr ho rfl o,zr ho rfl u,y,j⟩
def Km{F:FD}(a:F.OK){fs:An}(b:okQ F (.bd p (.recd fs))):fs.length<=300/\∀f∈fs,okQ F (.ty f.ty):=by
 obtain⟨⟨j,h1⟩,c,hc⟩:=b;have hg:=a.g c _ hc;exact⟨hg.1.1,λf hf=>⟨XJ h1 f hf,a.e c _ hc f hf,XI _ (hg.1.2.2 f hf)⟩⟩
def FR{F:FD}(a3:F.OK){W:Aw}{r:Unit}{rv sv:Ax}{g:Aq}{T:Dr}{fs:An}{xs:Ay}(O:KOK (dT F) (dI F) (dL F) 89 (λv=>v.headD .nilIface) m)(h:TbI (dT F) (dI F) (dL F) W r rv g T)(ho:W.ownsRow 0 194 4 sv fs.length xs)(hP:∀g,sv.ownBlock=some g->F.P g)(hX:xG W F.P F.s fs xs)(hq:okQ F (.bd p (.recd fs)))(hm:300<=T.length+m):Calls prog 90 #[P_ F.fb,.agg #[I_ p,sv]] W (yB (dT F) (dI F) (dL F) W r rv g T (.bd p (.recd fs))):=by
 obtain⟨d8,Q_⟩:=y_ (yB (dT F) (dI F) (dL F) W r rv g T (.bd p (.recd fs)));rw[<- Q_.o];have G:=fG a3;obtain⟨f0,b9⟩:=Km a3 hq;obtain⟨ua,uc,rfl⟩:=zw ho;obtain⟨w3,a1⟩:=e_ ((W.alloc (.cells #[I_ p,.slice ua fs.length uc] 231)).alloc (.cells #[O_,.nilIface] 85));obtain⟨l,z⟩:=e_ (RFM (dT F) (dI F) (dL F) F fs (λT f k=>fV T (.ty f.ty) k) [I_ p,.slice ua fs.length uc] 231 W r rv g T);have start:l [] (λ_=>.nilIface) (L_) w3 r rv g T:=by rw[a1,z];exact .start G h #[I_ p,.slice ua fs.length uc] 231
 have c1:=(show RFM (dT F) (dI F) (dL F) F _ _ _ _ W r rv g T _ _ _ _ _ _ _ _ from z▸start).o0.1.c1;have b7:∀x,TSS (dT F) (dL F) rv r x->F.fb<x:=λx e=>(h.li G e).1;have item:H_ (∀V r' rv' g' T' ns Dv lv f,l ns Dv lv V r' rv' g' T'->fs[ns.length]?=some f->∃b w fx Z,ua=some ⟨b,0,none⟩/\V.cell? ⟨b,ns.length*4,none⟩=some (I_ f.place)/\V.cell? ⟨b,ns.length*4+1,none⟩=some (U_ f.letter)/\V.cell? ⟨b,ns.length*4+2,none⟩=some (.iface w fx)/\V.cell? ⟨b,ns.length*4+3,none⟩=some (.pointer Z)/\V.cell? ⟨F.fb,4,none⟩=some (P_ F.tb)/\TyV V F.P f.ty (.iface w fx)):=zy (λV r' rv' g' T' ns Dv lv f M hf=>by
  rw[z]at M
  have hs:∀x,F.P x->¬TSS (dT F) (dL F) rv r x:=λx hx e=>by have:=b7 x e;have:=a3.pP x hx;omega
  have o1:=zj ho M.st.1 (λx e=>hs x (hP x e))
  obtain⟨b,e8,e⟩:=zg o1 (o1_ ((aj_.1 hf).1))
  cases e
  obtain⟨w,fx,Z,H,Q,U,k4,k5,k6⟩:=fu o1 (hX.fr M.st.1 hs) hf
  exact⟨b,w,fx,Z,rfl,H,Q,U,k4,M.ti.i.cell4,k5⟩)
 have call:H_ (∀V r' rv' g' T' ns Dv lv f w fx,l ns Dv lv V r' rv' g' T'->fs[ns.length]?=some f->TyV V F.P f.ty (.iface w fx)->Calls prog 89 #[P_ F.tb,.iface w fx] V (ju (dT F) (dI F) (dL F) V r' rv' g' T' (.ty f.ty))):=zy (λV r' rv' g' T' ns Dv lv f w fx M hf ty=>by
  rw[z]at M
  have ok:=b9 f (ah_ hf)
  obtain⟨R,hR,_⟩:=M.gr
  exact O V r' rv' g' T' (.ty f.ty) [.iface w fx] M.ti ok ⟨⟨_,rfl,ty⟩,ok⟩ (by rw[hR,ag_];show 300<=_;omega))
 have known:H_ (∀V r' rv' g' T' ns Dv lv V1 r1 rv1 g1 T1,l ns Dv lv V r' rv' g' T'->TbI (dT F) (dI F) (dL F) V1 r1 rv1 g1 T1->Stp V V1 (TSS (dT F) (dL F) rv' r') (TSS (dT F) (dL F) rv1 r1)->Grw (dT F).Cl T' T1 g' g1->l ns Dv lv V1 r1 rv1 g1 T1):=zy (λV r' rv' g' T' ns Dv lv V1 r1 rv1 g1 T1 M ht hs hg=>by
  rw[z]at M⊢
  exact M.known G (λT R f k h=>h.more R) ht hs hg)
 have next:H_ (∀V r' rv' g' T' ns Dv lv f (x:Rw Qu) o w5 v5,l ns Dv lv V r' rv' g' T'->fs[ns.length]?=some f->x∈T'->x.a=.ty f.ty->w5.ownsRow (W.heap.size+2) 85 2 v5 (ns.length+1) (((List.range ns.length).flatMap λj=>[Z_ ((ns.getD j 0:Nat):Int),Dv j])++[I_ x.n,x.d])->(V.alloc o).grownBy w5 lv.ownBlock->(v5.ownBlock=lv.ownBlock\/v5.ownBlock=some (V.alloc o).heap.size)->l (ns++[x.n]) (λj=>if j<ns.length then Dv j else x.d) v5 w5 r' rv' g' T'):=zy (λV r' rv' g' T' ns Dv lv f x o w5 v5 M hf hx ha H Q U=>by
  rw[z]at M⊢
  have q:=(M.ti.t.q x hx).2.2
  have sv:=(M.ti.v x hx).1
  rw[ha]at sv
  exact M.item G hf ⟨x,hx,ha,rfl⟩ sv q.1 q.2 H Q U)
 have row:H_ (∀V r' rv' g' T' ns Dv lv,l ns Dv lv V r' rv' g' T'->V.ownsRow (W.heap.size+2) 85 2 lv ns.length ((List.range ns.length).flatMap λj=>[Z_ ((ns.getD j 0:Nat):Int),Dv j])/\W.heap.size+2<=V.heap.size):=zy (λV r' rv' g' T' ns Dv lv M=>by rw[z]at M;exact⟨M.row,o1_ M.o1.1.lt⟩);have fin:H_ (∀V r' rv' g' T' ns Dv lv,l ns Dv lv V r' rv' g' T'->ns.length=fs.length->kR V lv ns Dv/\(∀i,IfV (Dv i))/\(∀n∈ns,n<=301)/\Blk V (W.heap.size+1) [O_,.nilIface] 85/\∀V1 v,Fr V V1 N_->IfV v->(jnN ns=0\/jnN ns=301->v=.nilIface)->(1<=jnN ns->jnN ns<=300->RcR (V.heap.size+2) ns.length Dv v V1)->d8 (.returned (.agg #[Z_ (jnN ns:Int),v])) ((V1.setCell ⟨W.heap.size+1,0,none⟩ (Z_ (jnN ns:Int))).setCell ⟨W.heap.size+1,1,none⟩ v)):=zy (λV r' rv' g' T' ns Dv lv M hl=>by
  rw[z]at M
  refine⟨yl M.row,M.iv,M.le,M.o1.1,λV1 v hf hv h0 h1=>?_⟩
  rw[Q_.o]
  have hF:=J_ V1 (W.heap.size+1) 0 1 (Z_ (jnN ns:Int)) v
  have M1:=M.new G hf
  have e9:(dL F).fb<W.heap.size:=M.f
  have a7:(dL F).fb<W.heap.size+1:=M_
  have t1:=M1.ti.put G a7 M1.o1.1 hF
  have e6:svD F V1 (λy=>¬TSS (dT F) (dL F) rv' r' y) (QD F (.bd p (.recd fs))) (QT F (.bd p (.recd fs))) (jnN ns) v:=by
   refine svD.recd (F:=F) (V:=V) (J:=λy=>¬TSS (dT F) (dL F) rv' r' y) (Dj:=λj d=>∀f,fs[j]?=some f->Dat (zx F.ds) d f.ty) (B:=V.heap.size+2) hl (λj k f e e'=>?_) (λds hd d9 u hu=>?_) (λu hu=>?_) (λx d u hx=>?_) (λx hx f6 e=>?_) h0 h1
   .have:=(M.kn j k f e e').2
    exact⟨this.1,λe0=>by
     obtain⟨y,y1,y2,y3⟩:=this.2 e0
     exact⟨y,λf' ef=>by rw[e']at ef;cases ef;exact y1 _ rfl,y2,y3⟩⟩
   .obtain⟨c,p',rfl,hb,hc⟩:=hu
    exact .recd hc hb hd (λi d t e e'=>by
     rw[av_]at e'
     cases a5:fs[i]? with
     |none=>rw[a5]at e';cases e'
     |some f=>rw[a5]at e';cases e';exact d9 i d e f a5)
   .obtain⟨c,p',rfl,hb,hc⟩:=hu
    exact⟨c,p',rfl,hc⟩
   .exact(hx.fr hf u_)
   .have:=(M.ti.li G e).2
    omega
  have hs:=M1.st
  refine⟨r',rv',g',T',jnN ns,v,rfl,iQ ns,hv,t1,⟨hs.1.trans hF (λx hx e=>M_),hs.2⟩,M.gr,⟨ns,hl,λq f k e e'=>(M.kn q k f e' e).1,rfl⟩,svD.put e6 M1.o1.1 D_ D_ hF⟩)
 replace start:=zy start;replace a1:=zy a1;have b8:H_ (∀V r' rv' g' T' ns Dv lv V1,l ns Dv lv V r' rv' g' T'->Fr V V1 N_->l ns Dv lv V1 r' rv' g' T'):=zy (λV r' rv' g' T' ns Dv lv V1 M hf=>by rw[z]at M⊢;exact M.new G hf);have e2:H_ (∀V r' rv' g' T' ns Dv lv (x:Rw Qu),l ns Dv lv V r' rv' g' T'->x∈T'->IfV x.d):=zy (λV r' rv' g' T' ns Dv lv x M hx=>by rw[z]at M;exact(M.ti.t.q x hx).2.2.2);have d2:H_ (∀V r' rv' g' T' ns Dv lv,l ns Dv lv V r' rv' g' T'->(∀x,lv.ownBlock=some x->x<V.heap.size/\F.fb<x)/\∀x,TSS (dT F) (dL F) rv' r' x->x<V.heap.size):=zy (λV r' rv' g' T' ns Dv lv M=>by
  rw[z]at M
  exact⟨λx e=>⟨(M.row.lt x e).2,by have:=(M.row.lt x e).1;have:F.fb<W.heap.size:=M.f;omega⟩,λx e=>(M.ti.li G e).2⟩)
 replace z:=zy z;go_in;go_upto_region 1 with fail;rw[<- a1.o];go_wp2;go_loopg [5,11] (fs.length+1) (λm v5 v V=>∃ns Dv lv r' rv' g' T',lv=v5/\v=Z_ ((ns.length:Nat):Int)/\ns.length<=fs.length/\fs.length+1-ns.length<=m/\H_ (l ns Dv lv V r' rv' g' T'));case atStart=>exact⟨[],_,_,_,_,_,_,rfl,rfl,al_ _,by simp,start⟩
 case round=>
  obtain⟨ns,Dv,lv,r',rv',g',T',rfl,rfl,hq,hm,M⟩:=hrel;by_cases a7:ns.length<fs.length
  .have e3:(ns.length:Int)<(fs.length:Int):=M_;obtain⟨f,hf⟩:∃f,fs[ns.length]?=some f:=⟨_,ai_ a7⟩;obtain⟨b,w,fx,Z,rfl,k0,H,Q,U,e4,ty⟩:=item.o _ _ _ _ _ _ _ _ _ M hf;obtain⟨w4,hw4⟩:=e_ (wr.alloc (.cells #[I_ f.place,U_ f.letter,.iface w fx,.pointer Z] 194));have A4:Fr wr w4 N_:=yf_
   have B4:Blk w4 wr.heap.size [I_ f.place,U_ f.letter,.iface w fx,.pointer Z] 194:=yv_
   have M4:=zy (b8.o _ _ _ _ _ _ _ _ w4 M A4);have z4:=A4.ke e4;have z2:=B4.c2;have d7:=ty.fr A4 u_;have hC:H_ (∀V1,Fr w4 V1 N_->Calls prog 89 #[P_ F.tb,.iface w fx] V1 (ju (dT F) (dI F) (dL F) V1 r' rv' g' T' (.ty f.ty))):=zy (λV1 b5=>call.o V1 _ _ _ _ _ _ _ _ _ _ (b8.o _ _ _ _ _ _ _ _ V1 M4 b5) hf (d7.fr b5 u_));have a0:¬TSS (dT F) (dL F) rv' r' wr.heap.size:=λe=>absurd ((d2.o _ _ _ _ _ _ _ _ M).2 _ e) (a2_ _);have a6:=zy ((d2.o _ _ _ _ _ _ _ _ M).1);replace a0:=zy a0;replace hf:=zy hf;replace hw4:=zy hw4;replace B4:=zy B4;go_wp2;rw[<- hw4.o];refine tr_ 10 (λV=>z_ V F.fb 4 (P_ F.tb)/\z_ V wr.heap.size 2 (.iface w fx)) ?_;refine tz_ 0 ?_;refine tz_ 1 ?_;refine tz_ 2 ?_;refine tz_ 3 ?_;refine tz_ 4 ?_;refine tz_ 5 ?_;refine tz_ 6 ?_;refine zh 7 rfl K_ (λ_=>⟨z4,z2⟩) (λK O=>?_);go_simp;apply(hC.o _ (A_ w4 _).drew).mono;rintro e w5 ⟨r1,rv1,g1,T1,x,rfl,hx,ha,h1,s1,G1⟩;refine O _ _ ?_;have a8:=(C_ (A_ w4 _).drew (λ_ h=>h)).trans s1;have M5:=zy (known.o _ _ _ _ _ _ _ _ w5 r1 rv1 g1 T1 M4 h1 a8 G1);have B5:=a8.1.bl B4 a0;have y4:w5.cell? ⟨F.fb,4,none⟩=some (P_ F.tb):=h1.i.cell4;have y2:=B5.c2;have e1:=e2.o _ _ _ _ _ _ _ _ x M5 hx;obtain⟨a2,e7⟩:=row.o _ _ _ _ _ _ _ _ M5;have a9:H_ (∀o E,(w5.alloc o).grownBy E lv.ownBlock->E.cell? ⟨F.fb,4,none⟩=some (P_ F.tb)/\E.cell? ⟨wr.heap.size,2,none⟩=some (.iface w fx)):=zy (λo E hg=>by
    have Y:=(A_ w5 N_).alloc o
    have hF:Fr (w5.alloc o) E (λx=>lv.ownBlock=some x):=(A_ _ _).gw hg (λk e _=>e)
    have q4:=Y.ke y4
    have b6:=hF.bl (Y.bl B5 id) (λe=>absurd (a6.o _ e).1 (a2_ _))
    have q2:=b6.c2
    refine⟨?_,q2⟩
    rw[World.cell?_of_block (hF.block F.fb (World.block_lt_of_cell? _ _ q4) (λe=>absurd (a6.o _ e).2 (a2_ _)))]
    exact q4)
   have d6:H_ (∀o E X,E.ownsRow (W.heap.size+2) 85 2 X (ns.length+1) (((List.range ns.length).flatMap λj=>[Z_ ((ns.getD j 0:Nat):Int),Dv j])++[I_ x.n,x.d])->(w5.alloc o).grownBy E lv.ownBlock->(X.ownBlock=lv.ownBlock\/X.ownBlock=some (w5.alloc o).heap.size)->l (ns++[x.n]) (λj=>if j<ns.length then Dv j else x.d) X E r1 rv1 g1 T1):=zy (λo E X o6 g6 l6=>next.o _ _ _ _ _ _ _ _ f x o E X M5 hf hx ha o6 g6 l6);have e5:ns.length<=1000:=M_;generalize x.n=xn at *;generalize x.d=xd at *;replace a2:=zy a2;generalize a4:ns.length=N at *;rcases e1 with rfl|⟨dT,dx,rfl⟩;all_goals
    refine t1_ 8 ⟨y4,y2⟩ ?_;have Y:=λo=>(A_ w5 N_).alloc o;refine zh 9 rfl K_ (λ_=>⟨(Y _).ke y4,(Y _).ke y2⟩) (λK O=>?_);rw[i_ (show Region.wanted _ _=true by kernel_rfl)];refine aL _ _ rfl (B:=W.heap.size+2) (v:=lv) a2 e5 e7 rfl rfl rfl rfl rfl ?_;intro X E o6 g6 l6;refine O _ _ ?_;have b4:=a9.o _ _ g6;have nx:=zy (d6.o _ _ _ o6 g6 l6);refine t1_ 10 b4 ?_;refine td_ ?_ _;go_wp2;go_roundg (fs.length+1-(N+1));case measure=>omega
    case rel=>exact⟨ns++[xn],_,_,_,_,_,_,rfl,by simp[a4],by simp[a4];omega,by simp[a4],nx⟩
  .have e3:¬((ns.length:Int)<(fs.length:Int)):=M_;obtain⟨H,Q,U,b1,f1⟩:=fin.o _ _ _ _ _ _ _ _ M M_;obtain⟨la,lc,rfl⟩:=zw H;have hC:=zy (bC H Q U M_);have l0:=b1.c0;have l1:=b1.c1;replace f1:=zy f1;replace b1:=zy b1;go_wp2_with (go_at_call 151;apply hC.o.mono;rintro e w2 ⟨v,rfl,hv,f2,v0,v1⟩;have b2:=f2.bl b1 id;have hp:=zy (f1.o w2 v f2 hv v0 v1);have q0:=b2.cell 0;have q1:=b2.cell 1;have t0:=b2.th 0;have t1:=b2.th 1;have sD:=(λW a m=>run_store prog W a v m hv.one);have B8:=(b2.set 0 (Z_ (jnN ns:Int))).set 1 v;have x0:=B8.cell 0;have x1:=B8.cell 1;simp only[am_,an_,aa_,ab_]at q0 q1 x0 x1;generalize jnN ns=jn at *);refine bodyPost_ret (v:=.agg #[I_ jn,v]) (by simp[results,results90,go_sem,x0,x1]) rfl ?_;exact hp
def NoD(W:Aw)(S:Az):Prop:=∀x cs T p,S x->W.heap[x]?=some (.cells cs T p)->T≠52/\T≠201
def bu{W:Aw}{n x:Nat}{e:Av}{lv:Ax}{ys:Ay}(h:W.ownsRow B e k lv n ys)(hx:lv.ownBlock=some x):∃cs,W.heap[x]?=some (.cells cs e):=by
 rcases h.2 with⟨e',_⟩|⟨g',c,a,e',_,b,_⟩
 .subst e';simp[Value.ownBlock]at hx
 .subst e';simp only[Value.ownBlock,af_]at hx;subst hx;exact⟨a,b⟩
def DaV.not{env:Au}{W:Aw}{J:Az}{d:DT}(h:DaV env W J d t v)(a:NoD W S):DaV env W (λx=>J x/\¬S x) d t v:=by
 induction h with
 |flat h hs=>exact .flat h hs
 |branch n h hd ih=>exact .branch n h ih
 |row Y hc ho hP hd ih=>exact .row Y hc ho (λg e=>⟨hP g e,λk=>by obtain⟨cs,hc⟩:=bu ho e;exact(a _ _ _ _ k hc).1 rfl⟩) ih
 |map Y hl hk ho hP hd ih=>exact .map Y hl hk ho (λg e=>⟨hP g e,λk=>by obtain⟨cs,hc⟩:=bu ho e;exact(a _ _ _ _ k hc).2 rfl⟩) ih
def svD.not{F:FD}{W:Aw}{J:Az}{D:Dg}{A:Ev}{n:Nat}{d:Ax}(h:svD F W J D A n d)(a:NoD W S):svD F W (λx=>J x/\¬S x) D A n d:=by
 refine⟨h.1,λe=>?_⟩;obtain⟨x,b,c,f⟩:=h.2 e;exact⟨x,b,c,λe' u hu=>(f e' u hu).not a⟩
def svD.mono{F:FD}{W:Aw}{J a:Az}{D:Dg}{A:Ev}{n:Nat}{d:Ax}(h:svD F W J D A n d)(c:∀x,J x->a x)(b:∀x,D x->D' x):svD F W a D' A n d:=by
 refine⟨h.1,λe=>?_⟩;obtain⟨x,a,f,j⟩:=h.2 e;exact⟨x,b x a,f,λe' u hu=>(j e' u hu).mono (λg _=>c g)⟩
def svD.frS{F:FD}{W:Aw}{J:Az}{D:Dg}{A:Ev}{n:Nat}{d:Ax}(h:svD F W J D A n d)(hf:Fr W W' S)(a:NoD W S):svD F W' J D A n d:=by
 refine⟨h.1,λe=>?_⟩;obtain⟨x,b,c,f⟩:=h.2 e;exact⟨x,b,c,λe' u hu=>(((f e' u hu).not a).fr hf (λg hg=>hg.2)).mono (λg _ hg=>hg.1)⟩
section
variable {α β:Type} {I:TI α} {I':TI β} {fb tb mb fb' tb' mb':Nat} {kf ff rv kf' ff' rv':Ax} {W:Aw} {g g':Aq} {T:List (Rw α)} {T':List (Rw β)}
def TbW.noD(h:TbW I fb tb mb kf ff W rv g T)(h1:I.TT≠52/\I.TT≠201)(a:I.RT≠52/\I.RT≠201):NoD W (TbS tb mb rv):=λ_ _ _ _ hx hc=>
 ⟨λe=>h.ot hc (e▸h1.1.symm) (e▸a.1.symm) hx,λe=>h.ot hc (e▸h1.2.symm) (e▸a.2.symm) hx⟩
def TbW.two(h:TbW I fb tb mb kf ff W rv g T)(k:TbW I' fb' tb' mb' kf' ff' W rv' g' T')(h1:I.TT≠I'.TT)(f:I.TT≠I'.RT)(j:I.RT≠I'.TT)(l:I.RT≠I'.RT)(hm:mb≠mb'):∀x,TbS tb mb rv x->¬TbS tb' mb' rv' x:=by
 rintro x (rfl|rfl|e)
 .have:=h.b;unfold Blk at this;exact k.ot this h1 f
 .obtain⟨D,⟨es,c,a,_⟩,_⟩:=h.map;rintro(rfl|rfl|e)
  .have:=k.b;unfold Blk at this;rw[this]at a;cases a
  .exact hm rfl
  .obtain⟨cs,hc⟩:=bu k.row e;rw[hc]at a;cases a
 .obtain⟨cs,hc⟩:=bu h.row e;exact k.ot hc j l
end
@[reducible] def IU {α:Type}(kv:α->Value) (Q:α->Prop) (num:α->Nat) (N:Nat):TI α:=⟨134,243,93,2,kv,Q,num,N⟩
def okY(F:FD)(y:PT):Prop:=wK F.s' y/\okT (zx F.ds') y/\vq y
def uQ(F:FD)(a:Es):Prop:=okQ F (.ty a.1)/\okY F a.2
def kvU(a:Es):Value:=.agg #[I_ a.1.place,I_ a.2.place]
def uI(F:FD):TI (PT×PT):=IU kvU (uQ F) (λa=>a.1.place*300+a.2.place) 90000
def LL(F:FD)(t:PT)(k:Nat):Prop:=∀d,Dat (zx F.ds) d t->kn k (ndT d)
def ll{F:FD}{T:Dr}(b:Gd (ClD F) T){x:Rw Qu}(hx:x∈T)(ha:x.a=.ty t):LL F t x.n:=λ_ hd=>(Ze b).all hd x.n ⟨x,hx,ha,rfl⟩
structure ClU(F:FD)(T:Ah)(a:Es)(v:Nat):Prop where
 alts0:∀p ws,a.1=.alts p ws->∀w1∈ws,∃k,fV T (w1,a.2) k/\le0 v (jnN [k])
 never:a.1.isAlts=false->Nev (zx F.ds) (zx F.ds') a.1 a.2->∃k,LL F a.1 k/\le0 v k
 items:∀c p p' u u',a.1=.wrap c p u->Via (zx F.ds) (zx F.ds') a.1 a.2 (.wrap c p' u')->∃k,fV T (u,u') k/\le0 v (jnN [k])
 sym:∀c p p' lw lr ow o q,a.1=.leaf c p->Via (zx F.ds) (zx F.ds') a.1 a.2 (.leaf c p')->zi c=false->zx F.ds c=some (.enum lw ow)->zx F.ds' c=some (.enum lr o)->q<lw.length->qh lr o ((lw.map Prod.fst).getD q 0)=none->le0 v 1
 field:∀c p p' fw fr g i h,a.1=.leaf c p->Via (zx F.ds) (zx F.ds') a.1 a.2 (.leaf c p')->zi c=false->zx F.ds c=some (.recd fw)->zx F.ds' c=some (.recd fr)->g∈fr->vV fw g.letter=some i->fw[i]?=some h->∃(ks:List Nat),ks.length=fw.length/\(∀(q:Nat) (f:PF) (k:Nat),fw[q]?=some f->ks[q]?=some k->if q=i then fV T (h.ty,g.ty) k else LL F f.ty k)/\le0 v (jnN ks)
 lack:∀c p p' fw fr g,a.1=.leaf c p->Via (zx F.ds) (zx F.ds') a.1 a.2 (.leaf c p')->zi c=false->zx F.ds c=some (.recd fw)->zx F.ds' c=some (.recd fr)->g∈fr->vV fw g.letter=none->g.dflt=none->∃(ks:List Nat),ks.length=fw.length/\(∀(q:Nat) (f:PF) (k:Nat),fw[q]?=some f->ks[q]?=some k->LL F f.ty k)/\le0 v (jnN ks)
def WS(F:FD):Qi (ClU F):=by
 intro T R a v h;refine⟨λp ws e w1 hw=>?_,h.never,λc p p' u u' e hv=>?_,h.sym,λc p p' fw fr g i H l o w x y z E G=>?_,h.lack⟩
 .obtain⟨k,h1,b⟩:=h.alts0 p ws e w1 hw;exact⟨k,h1.more R,b⟩
 .obtain⟨k,h1,b⟩:=h.items c p p' u u' e hv;exact⟨k,h1.more R,b⟩
 .obtain⟨ks,h1,b,K⟩:=h.field c p p' fw fr g i H l o w x y z E G;refine⟨ks,h1,λq f k e e'=>?_,K⟩;have:=b q f k e e';split at this
  .rename_i j;rw[i_ j];exact this.more R
  .rename_i j;rw[n_ j];exact this
def eI{F:FD}{T:Ah}(h:Gd (ClU F) T):ClP (zx F.ds) (zx F.ds') (LL F) (λx y n=>fV T (x,y) n):=by
 have f:∀{x y n},fV T (x,y) n->∃v,ClU F T (x,y) v/\le0 n v:=λ{x y n} hk=>by
  obtain⟨r,b,e,rfl⟩:=hk;obtain⟨v,h1,a⟩:=h r b;rw[e]at h1;exact⟨v,h1,pm a⟩
 refine⟨λp ws y n hk w1 hw=>?_,λx y n hk hx hv=>?_,λc p p' u u' y n hk hv=>?_,λc p p' y n lw lr ow o q hk hv j l w z E=>?_,λc p p' y n fw fr g i K hk hv j l w z E G=>?_,λc p p' y n fw fr g hk hv j l w z E G=>?_⟩
 .obtain⟨v,h1,a⟩:=f hk;obtain⟨k,b,e⟩:=h1.alts0 p ws rfl w1 hw;exact⟨k,b,a.trans e⟩
 .obtain⟨v,h1,a⟩:=f hk;obtain⟨k,b,e⟩:=h1.never hx hv;exact⟨k,b,a.trans e⟩
 .obtain⟨v,h1,a⟩:=f hk;obtain⟨k,b,e⟩:=h1.items c p p' u u' rfl hv;exact⟨k,b,a.trans e⟩
 .obtain⟨v,h1,a⟩:=f hk;exact a.trans (h1.sym c p p' lw lr ow o q rfl hv j l w z E)
 .obtain⟨v,h1,a⟩:=f hk;obtain⟨ks,b,e,H⟩:=h1.field c p p' fw fr g i K rfl hv j l w z E G;exact⟨ks,b,e,a.trans H⟩
 .obtain⟨v,h1,a⟩:=f hk;obtain⟨ks,b,e,H⟩:=h1.lack c p p' fw fr g rfl hv j l w z E G;exact⟨ks,b,e,a.trans H⟩
def uqv(F:FD)(W:Aw)(a:Es)(v:Ay):Prop:=∃u u',v=[u,u']/\TyV W F.P a.1 u/\TyV W F.P' a.2 u'
def uqv.fr{F:FD}(b:F.OK){W:Aw}{a:Es}{v:Ay}(h:uqv F W a v)(hf:Fr W W' S)(c:∀x,S x->F.fb<x):uqv F W' a v:=by
 obtain⟨u,u',e,h1,f⟩:=h;exact⟨u,u',e,h1.fr hf (λx hx e=>o2_ (c x e) (b.pP x hx)),f.fr hf (λx hx e=>o2_ (c x e) (b.pP' x hx))⟩
abbrev UD(F:FD)(a:Es):DT->Prop:=Un (zx F.ds) (zx F.ds') a.1 a.2
abbrev UA(a:Es):PT->Prop:=λu=>u=a.1
def uT(F:FD):TP (PT×PT) (Value×List (Rw Qu)):=⟨λW r=>TbI (dT F) (dI F) (dL F) W () r.1 false r.2/\Gd (ClD F) r.2,λr x=>TbS F.tb F.mb r.1 x,λW J a n d=>svD F W J (UD F a) (UA a) n d,λW a v=>uqv F W a v/\uQ F a,ClU F⟩
def uL(F:FD):TL:=⟨F.fb,F.tu,F.mu,.func (.func 52) #[] #[],.func (.func 53) #[P_ F.fb] #[]⟩
def MJ{F:FD}{W:Aw}{rv:Ax}{g:Aq}{T:Ah}(h:TbW (uI F) (uL F).fb (uL F).tb (uL F).mb (uL F).kf (uL F).ff W rv g T):NoD W (TbS F.tu F.mu rv):=
 h.noD (by show 134≠_/\134≠_;decide) (by show 243≠_/\243≠_;decide)
def oH{F:FD}(a:F.OK){W:Aw}{rv rv':Ax}{g g':Aq}{T:Dr}{T':Ah}(h:TbW (dI F) (dL F).fb (dL F).tb (dL F).mb (dL F).kf (dL F).ff W rv g T)(k:TbW (uI F) (uL F).fb (uL F).tb (uL F).mb (uL F).kf (uL F).ff W rv' g' T'):∀x,TbS F.tb F.mb rv x->¬TbS F.tu F.mu rv' x:=
 h.two k (by show 213≠134;decide) (by show 213≠243;decide) (by show 297≠134;decide) (by show 297≠243;decide) a.mm
def vH{F:FD}(b:F.OK):(uT F).OK (uI F) (uL F) where
 rs:=λW r x h hx=>h.1.t.li hx
 rfr:=λW W' r rv g T h c hf=>
  ⟨⟨h.1.i.fr b hf (λx hx=>(c.li hx).1),h.1.t.fr hf (λx hx=>oH b h.1.t c x hx),λx hx=>⟨svD.frS (h.1.v x hx).1 hf (MJ c),qvD.fr b (h.1.v x hx).2.1 hf (λx hx=>(c.li hx).1),(h.1.v x hx).2.2⟩⟩,h.2⟩
 rnew:=λW W' r h hf=>⟨h.1.new (fG b) hf,h.2⟩
 sv:=λW W' S S' a n d h hs=>svD.stp h hs
 qv:=λW W' S a v h hf c=>⟨h.1.fr b hf c,h.2⟩
 mono:=WS F
 z:=λW J a=>⟨λ_=>rfl,λe=>absurd rfl e⟩
 put:=λW W' r q cs c h hb hf=>⟨h.1.put (fG b) c hb hf,h.2⟩
 svp:=λW W' J a n d q cs h hb hf=>svD.put h hb D_ D_ hf
 tt:=⟨by show 134≠_;decide,by show 243≠_;decide⟩
def TbI.data{F:FD}(j:F.OK){W:Aw}{r:By}{rv b:Ax}{g:Aq}{T:Ah}{a:Dr}(h:TbI (uT F) (uI F) (uL F) W r rv g T)(o:TbI (dT F) (dI F) (dL F) W' () b false a)(hs:Stp W W' (TSS (dT F) (dL F) r.1 ()) (TSS (dT F) (dL F) b ()))(hg:Gd (ClD F) a):TbI (uT F) (uI F) (uL F) W' (b,a) rv g T/\Stp W W' (TSS (uT F) (uL F) rv r) (TSS (uT F) (uL F) rv (b,a)):=by
 have c:∀rv x,TSS (dT F) (dL F) rv () x->TbS F.tb F.mb rv x:=λrv x h=>h.elim id (λf=>f.elim);have l:Stp W W' (TSS (uT F) (uL F) rv r) (TSS (uT F) (uL F) rv (b,a)):=⟨hs.1.mono (λx _ e=>.inr (c _ x e)),λx hx e=>e.elim .inl (λe=>.inr (c _ x (hs.2 x hx (.inl e))))⟩;refine⟨⟨⟨o,hg⟩,h.t.fr hs.1 (λx hx e=>oH j h.i.1.t h.t x (c _ x e) hx),λx hx=>⟨svD.stp (h.v x hx).1 l,(h.v x hx).2.1.fr j hs.1 (λx hx=>(h.i.1.t.li (c _ x hx)).1),(h.v x hx).2.2⟩⟩,l⟩
def svD.data{F:FD}{W:Aw}{rv a:Ax}{g:Aq}{T:Ah}{b:Dr}{D:Dg}{A:Ev}{n:Nat}{d:Ax}(h:TbI (uT F) (uI F) (uL F) W (a,b) rv g T)(hv:svD F W (λy=>¬TSS (dT F) (dL F) a () y) D A n d):svD F W (λy=>¬TSS (uT F) (uL F) rv (a,b) y) D A n d:=
 (hv.not (MJ h.t)).mono (λ_ hx e=>e.elim hx.2 (λe=>hx.1 (.inl e))) (λ_ h=>h)
def VX:∀{n i:Nat}{l:List (Nat×Nat)}{j:Nat},jr s n i=.ok (l,j)->∃c q r,l=(c,q)::r
 | 0,i,l,j,h=>by simp[jr]at h
 |n+1,i,l,j,h=>by
  unfold jr at h;split at h
  .split at h
   .split at h
    .cases h
    .simp only[ae_,ad_]at h;exact⟨_,_,_,h.1.symm⟩
   .simp only[ae_,ad_]at h;exact⟨_,_,_,h.1.symm⟩
  .cases h
def Fh{l:As}{o:Ac}(h:pB s p (.enum l o)):∃c q r,l=(c,q)::r:=by
 obtain⟨j,h⟩:=h;unfold yG at h;split at h
 .split at h<;>cases h
 .split at h
  .split at h
   .cases h
   .rename_i a e j' hp;simp only[ae_,ad_,PB.enum.injEq]at h;obtain⟨⟨rfl,rfl⟩,_⟩:=h;unfold xY at hp;split at hp
    .split at hp
     .cases hp
     .rename_i l1 b hs;have hl:l1=a:=by
       split at hp
       .split at hp
        .split at hp
         .simp only[ae_,ad_]at hp;exact hp.1.1
         .cases hp
        .cases hp
       .split at hp
        .simp only[ae_,ad_]at hp;exact hp.1.1
        .cases hp
      subst hl;exact VX hs
    .cases hp
  .split at h
   .split at h<;>cases h
   .cases h
def aB{n:Nat}(h:pB s p (.bytes n)):n<=9:=by
 obtain⟨j,h⟩:=h;unfold yG at h;split at h
 .split at h<;>cases h
 .split at h
  .split at h<;>cases h
  .split at h
   .split at h
    .simp only[ae_,ad_,PB.bytes.injEq]at h;omega
    .cases h
   .cases h
def svD.conv{F:FD}{W:Aw}{J:Az}{D:Dg}{A a:Ev}{n:Nat}{d:Ax}(h:svD F W J D A n d)(c:∀x,D x->D' x)(b:∀u,a u->A u):svD F W J D' a n d:=by
 refine⟨h.1,λe=>?_⟩;obtain⟨x,a,f,j⟩:=h.2 e;exact⟨x,c x a,f,λe' u hu=>j e' u (b u hu)⟩
def svD.leaf{F:FD}{W:Aw}{J:Az}{q:Qu}{x:DT}(h1:ndT x=1)(h:∀u,QT F q u->Dat (zx F.ds) x u/\DaV (zx F.ds) W J x u v):svD F W J (QD F q) (QT F q) 1 v:=
 ⟨λe=>M_,λ_=>⟨x,λu hu=>(h u hu).1,by unfold nd3;rw[h1];rfl,λ_ u hu=>(h u hu).2⟩⟩
def yB.leaf{F:FD}(c:F.OK){W:Aw}{r:Unit}{rv:Ax}{g:Aq}{T:Dr}{a:Qu}{T1:Av}{b:Ax}(h:TbI (dT F) (dI F) (dL F) W r rv g T)(hf:Fr W W' N_)(hc:ClD F T a 1)(hv:∀J,svD F W' J (QD F a) (QT F a) 1 (.iface T1 b)):yB (dT F) (dI F) (dL F) W r rv g T a (.returned (.agg #[Z_ 1,.iface T1 b])) W':=
 ⟨r,rv,g,T,1,.iface T1 b,rfl,M_,.inr ⟨_,_,rfl⟩,h.new (fG c) hf,C_ hf (λ_ h=>h),Grw.refl _ _,hc,hv _⟩
def ju.name{F:FD}{W:Aw}{r:Unit}{rv:Ax}{g:Aq}{T:Dr}{p' c:Nat}{X:PB}{e:Ak}(hb:zi c=false)(hc:zx F.ds c=some X)(h:ju (dT F) (dI F) (dL F) W r rv g T (.bd p' X) e W'):yB (dT F) (dI F) (dL F) W r rv g T (.ty (.leaf c p)) e W':=by
 obtain⟨r',rv',g',T',x,rfl,hx,ha,a,hs,hg⟩:=h;have b:=(a.t.q x hx).2.2;refine⟨r',rv',g',T',x.n,x.d,rfl,b.1,b.2,a,hs,hg,?_,?_⟩
 .show ClD F T' (.ty (.leaf c p)) x.n;simp only[ClD];rw[n_ zs_];exact⟨p',X,hc,x,hx,ha,rfl⟩
 .have h1:=(a.v x hx).1;rw[ha]at h1;exact svD.conv h1 (λy hy u hu=>hy u ⟨c,p,hu,hb,hc⟩) (λu hu=>⟨c,p,hu,hb,hc⟩)
def ql:Prop:=∀(W:World) (n:Nat),n<=9->Calls prog 91 #[.string ⟨#[97]⟩,I_ n] W λe w'=>∃x,e=.returned (.string x)/\Fr W w' N_/\x.size=n/\cF x
section
variable {F:FD} {W:Aw} {J:Az}
def BC:svD F W J (QD F (.ty (.leaf 110 p))) (QT F (.ty (.leaf 110 p))) 1 (.iface 136 (.agg #[])):=
 .leaf (x:=.mk 110 0 noB [] []) rfl (λu hu=>by obtain rfl:u=_:=hu;exact⟨.null,.flat .nothing (λn l e=>by cases e)⟩)
def BU:svD F W J (QD F (.ty (.leaf 116 p))) (QT F (.ty (.leaf 116 p))) 1 (.iface 137 (.bool false)):=
 .leaf (x:=.mk 116 0 noB [] []) rfl (λu hu=>by obtain rfl:u=_:=hu;exact⟨.bool (n:=0) M_,.flat (.truth false) (λn l e=>by cases e)⟩)
def BH:svD F W J (QD F (.ty (.leaf 105 p))) (QT F (.ty (.leaf 105 p))) 1 (.iface 139 (O_)):=
 .leaf (x:=.mk 105 0 noB [] []) rfl (λu hu=>by obtain rfl:u=_:=hu;exact⟨.num M_ M_,.flat (.num 105 0 (.inl rfl) M_ M_) (λn l e=>by cases e)⟩)
def BL:svD F W J (QD F (.ty (.leaf 108 p))) (QT F (.ty (.leaf 108 p))) 1 (.iface 139 (O_)):=
 .leaf (x:=.mk 108 0 noB [] []) rfl (λu hu=>by obtain rfl:u=_:=hu;exact⟨.long M_ M_,.flat (.num 108 0 (.inr rfl) M_ M_) (λn l e=>by cases e)⟩)
def BM:svD F W J (QD F (.ty (.leaf 115 p))) (QT F (.ty (.leaf 115 p))) 1 (.iface 141 (.string ⟨#[]⟩)):=
 .leaf (x:=.mk 115 0 ⟨#[]⟩ [] []) rfl (λu hu=>by obtain rfl:u=_:=hu;exact⟨.text (λk hk=>absurd hk (Nat.not_lt_zero k)) (by show(0:Nat)<=_;omega),.flat (.text _ (by show(0:Nat)<=_;omega)) (λn l e=>by cases e)⟩)
def MF:svD F W J (QD F (.ty (.wrap 91 p t))) (QT F (.ty (.wrap 91 p t))) 1 (.iface 144 (L_)):=
 .leaf (x:=.mk 91 0 noB [] []) rfl (λu hu=>by obtain rfl:u=_:=hu;exact⟨.list x7_ (λd hd=>by simp at hd),.row (λ_=>.nilIface) (.inl ⟨rfl,rfl⟩) (World.ownsRow_nil _ _ _ _) (λg e=>by simp[Value.ownBlock]at e) (λi d e=>by simp at e)⟩)
def BP:svD F W J (QD F (.ty (.wrap 123 p t))) (QT F (.ty (.wrap 123 p t))) 1 (.iface 147 (L_)):=
 .leaf (x:=.mk 123 0 noB [] []) rfl (λu hu=>by obtain rfl:u=_:=hu;exact⟨.map x7_ rfl trivial (λd hd=>by simp at hd),.map (λ_=>.nilIface) rfl (λk hk=>by simp at hk) (World.ownsRow_nil _ _ _ _) (λg e=>by simp[Value.ownBlock]at e) (λi d e=>by simp at e)⟩)
def GO{c:Nat}{l:As}{o:Ac}(hc:c<256):svD F W J (QD F (.bd p (.enum ((c,q)::l) o))) (QT F (.bd p (.enum ((c,q)::l) o))) 1 (.iface 154 (.agg #[U_ c,O_])):=
 .leaf (x:=.mk 101 ((0:Nat):Int) noB [] []) rfl (λu hu=>by
  obtain⟨k,p',rfl,hb,he⟩:=hu
  refine⟨.sym he hb x7_,.flat (.sym 0 c M_) (λn a e=>?_)⟩
  simp only[Value.iface.injEq,Value.agg.injEq,true_and,Array.mk.injEq,List.cons.injEq,Value.int.injEq,and_true]at e
  obtain⟨b,b⟩:=e
  obtain rfl:n=0:=M_
  obtain rfl:a=c:=M_
  exact⟨by simp[fU,he],hc⟩)
def Kx{x:BA}(hx:cF x)(a:x.size<=9):svD F W J (QD F (.bd p (.bytes x.size))) (QT F (.bd p (.bytes x.size))) 1 (.iface 155 (.string x)):=
 .leaf (x:=.mk 102 0 x [] []) rfl (λu hu=>by
  obtain⟨k,p',rfl,hb,he⟩:=hu
  exact⟨.bytes he hb hx,.flat (.bytes x M_) (λn l e=>by cases e)⟩)
end
end Go.Proofs.YtlmebjdmdogmfaaGreatDoor
