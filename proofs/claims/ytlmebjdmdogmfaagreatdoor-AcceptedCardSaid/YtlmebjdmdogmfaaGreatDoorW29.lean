import Derived.Test.YtlmebjdmdogmfaaGreatDoorW28
set_option linter.unusedVariables false
set_option maxHeartbeats 16000000
set_option maxRecDepth 100000
set_option linter.defProp false
set_option linter.unusedSimpArgs false
open Go.Proofs.Tryz
namespace Go.Proofs.YtlmebjdmdogmfaaGreatDoor
open Go.RowKit
variable {m:Nat}
def Via.uniq{ew er:Au}{x y r r':PT}(h:Via ew er x y r)(b:Via ew er x y r'):r=r':=by
 rcases h with⟨a,rfl⟩|⟨p,rs,k,rfl,h1,i⟩
 .rcases b with⟨_,rfl⟩|⟨p,rs,k,rfl,_⟩
  .rfl
  .cases a
 .rcases b with⟨a,rfl⟩|⟨p',b,b,e,b,f⟩
  .cases a
  .cases e;rw[h1]at b;cases b;rw[i]at f;exact Option.some.inj f
def Via.nev{ew er:Au}{x y r:PT}(h:Via ew er x y r)(hm:xi ew er x r=true)(hn:Nev ew er x y):False:=by
 rcases h with⟨a,rfl⟩|⟨p,rs,k,rfl,h1,b⟩
 .rcases hn with⟨_,h⟩|⟨p,rs,rfl,_⟩
  .rw[hm]at h;cases h
  .cases a
 .rcases hn with⟨a,_⟩|⟨p',b,e,h⟩
  .cases a
  .cases e;rw[h1]at h;cases h
def svD.items{F:FD}{V f:Aw}{J o:Az}{c p p' n B:Nat}{u u' y:PT}{d v:Ax}(hc:c=91\/c=123)(hv:Via (zx F.ds) (zx F.ds') (.wrap c p u) y (.wrap c p' u'))(h:svD F V J (UD F (u,u')) (UA (u,u')) n d)(D:∀x t z,DaV (zx F.ds) V J x t z->DaV (zx F.ds) f o x t z)(hB:∀x,B<=x->x<f.heap.size->o x)(h0:jnN [n]=0\/jnN [n]=301->v=.nilIface)(h1:1<=jnN [n]->jnN [n]<=300->ItR c B d v f):svD F f o (UD F (.wrap c p u,y)) (UA (.wrap c p u,y)) (jnN [n]) v:=by
 refine⟨h0,λe=>?_⟩;obtain⟨x,l,A,E⟩:=h.2 (oe e);have hx:n<=301:=by rw[<- A];unfold nd3;split<;>omega
 rcases hc with rfl|rfl
 .have q:jnN [n]=nd3 (.mk 91 0 noB [] [x]):=by rw[<- A];exact iK (ds:=[x])
  refine⟨.mk 91 0 noB [] [x],.items hv (.list x7_ (λz hz=>by simp at hz;subst hz;exact Un.dat l)) zq_ l,q.symm,λb t w=>?_⟩;obtain rfl:t=.wrap 91 p u:=w;rcases h1 M_ b with⟨_,pv,rfl,hr⟩|⟨e,_⟩
  .have s:n<=300:=(KL (ns:=[n]) x7_ b M_).2;refine .row (λ_=>d) (.inl ⟨rfl,rfl⟩) (yl hr) (λg hg=>hB g (hr.lt g hg).1 (hr.lt g hg).2) (λi z hz=>?_);cases i with
   |zero=>simp at hz;subst hz;exact D _ _ _ (E s u rfl)
   |succ i=>simp at hz
  .cases e
 .have q:jnN [n]=nd3 (.mk 123 0 noB [⟨#[97]⟩] [x]):=by rw[<- A];exact iK (ds:=[x])
  refine⟨.mk 123 0 noB [⟨#[97]⟩] [x],.items hv (.map x7_ rfl ⟨by simp[kV],λk hk=>by
   have G:k=0:=by
    have:k<1:=hk
    omega
   subst G
   decide,by show(1:Nat)<=_;omega,trivial⟩ (λz hz=>by simp at hz;subst hz;exact Un.dat l)) zq_ l,q.symm,λb t w=>?_⟩
  obtain rfl:t=.wrap 123 p u:=w;rcases h1 M_ b with⟨e,_⟩|⟨_,pv,rfl,hr⟩
  .cases e
  .have s:n<=300:=(KL (ns:=[n]) x7_ b M_).2;refine .map (λ_=>d) rfl (λk hk=>by simp at hk;subst hk;show(1:Nat)<=_;omega) (yl hr) (λg hg=>hB g (hr.lt g hg).1 (hr.lt g hg).2) (λi z hz=>?_);cases i with
   |zero=>simp at hz;subst hz;exact D _ _ _ (E s u rfl)
   |succ i=>simp at hz
structure IM(F:FD)(W:Aw)(r:By)(rv:Ax)(g:Aq)(T:Ah)(a:Es)(wv:Ax)(q:Nat)(r':By)(rv':Ax)(g':Aq)(T':Ah)(n:Nat)(d:Ax)(V:Aw):Prop where
 n3:n<=301
 d1:IfV d
 ti:TbI (uT F) (uI F) (uL F) V r' rv' g' T'
 st:Stp W V (TSS (uT F) (uL F) rv r) (TSS (uT F) (uL F) rv' r')
 gr:Grw (uT F).Cl T T' g g'
 hk:fV T' a n
 sv:svD F V (λy=>¬TSS (uT F) (uL F) rv' r' y) (UD F a) (UA a) n d
 bq:Blk V q [I_ n,d] 85
 b1:wo V (TSS (uT F) (uL F) rv' r') (W.heap.size+1) [wv] 46
 b2:wo V (TSS (uT F) (uL F) rv' r') (W.heap.size+2) [O_,.nilIface] 85
def sG{F:FD}(b6:F.OK){W:Aw}{r:By}{rv:Ax}{g:Aq}{T:Ah}{c p p':Nat}{u u' y:PT}{aT bT f:Av}{ax bx l:Ax}(s:KOK (uT F) (uI F) (uL F) 54 prV m)(h:TbI (uT F) (uI F) (uL F) W r rv g T)(ha:TyV W F.P u (.iface aT ax))(hb:TyV W F.P' u' (.iface bT bx))(hw:TyV W F.P (.wrap c p u) (.iface f l))(hq:okQ F (.ty (.wrap c p u)))(a2:okY F u')(hv:Via (zx F.ds) (zx F.ds') (.wrap c p u) y (.wrap c p' u'))(hm:90000<=T.length+m):Calls prog 160 #[P_ F.fb,.agg #[.iface aT ax,.iface bT bx],.iface f l] W (yB (uT F) (uI F) (uL F) W r rv g T (.wrap c p u,y)):=by
 obtain⟨b7,Q_⟩:=y_ (yB (uT F) (uI F) (uL F) W r rv g T (.wrap c p u,y));rw[<- Q_.o];have G:=vH b6;have S:=hq.2.1;unfold okT at S;have a1:=hq.2.2;unfold vq at a1;have a4:okQ F (.ty u):=⟨hq.1.wrap,S.2,a1⟩;have b4:(c=91/\f≠223)\/(c=123/\f=223/\∃p Z vx,l=.agg #[Z_ p,.iface Z vx]):=by
  cases hw with
  |wrap _ _ b=>
   obtain⟨Z,vx,rfl⟩:=b.iface;rcases S.1 with rfl|rfl
   .exact .inl ⟨rfl,D_⟩
   .exact .inr ⟨rfl,rfl,_,Z,vx,rfl⟩
 obtain⟨w1,H⟩:=e_ (((W.alloc (.cells #[.iface aT ax,.iface bT bx] 282)).alloc (.cells #[.iface f l] 46)).alloc (.cells #[O_,.nilIface] 85));have z1:=zm W (.cells #[.iface aT ax,.iface bT bx] 282);have z2:=zm (W.alloc (.cells #[.iface aT ax,.iface bT bx] 282)) (.cells #[.iface f l] 46);have Y:Fr W w1 N_:=by rw[H];exact(((A_ W _).alloc _).alloc _).alloc _
 have B0:Blk w1 W.heap.size [.iface aT ax,.iface bT bx] 282:=by rw[H];exact((B_ W _ _).alloc _).alloc _
 have B1:Blk w1 (W.heap.size+1) [.iface f l] 46:=by
  rw[H];have:=(B_ (W.alloc (.cells #[.iface aT ax,.iface bT bx] 282)) #[.iface f l] 46).alloc (.cells #[O_,.nilIface] 85);rw[z1]at this;exact this
 have B2:Blk w1 (W.heap.size+2) [O_,.nilIface] 85:=by
  rw[H];have:=B_ ((W.alloc (.cells #[.iface aT ax,.iface bT bx] 282)).alloc (.cells #[.iface f l] 46)) #[O_,.nilIface] 85;rw[z2,z1]at this;exact this
 have hl:=λx (hx:TSS (uT F) (uL F) rv r x)=>(h.li G hx);have Z:F.fb<W.heap.size:=y2_
 have e5:w1.cell? ⟨F.fb,5,none⟩=some (P_ F.tu):=(h.new G Y).i.1.i.cell5;have p0:=B0.c0;have X:=B0.c1;have call:H_ (∀V,Fr w1 V N_->Calls prog 54 #[P_ F.tu,.agg #[.iface aT ax,.iface bT bx]] V (ju (uT F) (uI F) (uL F) V r rv g T (u,u'))):=zy (λV Z=>by
  have hf:=Y.trans Z u_
  exact s V r rv g T (u,u') [.iface aT ax,.iface bT bx] (h.new G hf) ⟨a4,a2⟩ ⟨⟨_,_,rfl,ha.fr hf u_,hb.fr hf u_⟩,a4,a2⟩ hm)
 have b9:H_ (∀x,TSS (uT F) (uL F) rv r x->x<W.heap.size):=zy (λx e=>(hl x e).2);have a5:H_ (∀Z V V1 r' rv' g' T' (x:Rw (PT×PT)) q,Fr w1 Z N_->TbI (uT F) (uI F) (uL F) V r' rv' g' T'->Stp Z V (TSS (uT F) (uL F) rv r) (TSS (uT F) (uL F) rv' r')->Grw (uT F).Cl T T' g g'->x∈T'->x.a=(u,u')->(Fr V V1 N_\/(W.heap.size+3<=q/\q<Z.heap.size/\Blk V q [O_,.nilIface] 85/\Fr V V1 (λx=>x=q)))->Blk V1 q [I_ x.n,x.d] 85->IM F W r rv g T (u,u') (.iface f l) q r' rv' g' T' x.n x.d V1):=zy (λZ V V1 r' rv' g' T' x q hf b hs hg hx E Z a9=>by
  have qq:=(b.t.q x hx).2.2
  have a3:=(C_ (Y.trans hf u_) (λ_ h=>h)).trans hs
  have o1:wo w1 (TSS (uT F) (uL F) rv r) (W.heap.size+1) [.iface f l] 46:=⟨B1,λe=>o1_ ((hl _ e).2)⟩
  have o2:wo w1 (TSS (uT F) (uL F) rv r) (W.heap.size+2) [O_,.nilIface] 85:=⟨B2,λe=>o1_ ((hl _ e).2)⟩
  have k1:=(o1.new hf).stp hs
  have k2:=(o2.new hf).stp hs
  have sv:=(b.v x hx).1
  rw[E]at sv
  rcases Z with A|⟨Z,Z,a8,A⟩
  .exact⟨qq.1,qq.2,b.new G A,a3.trans (C_ A (λ_ h=>h)),hg,⟨x,hx,E,rfl⟩,svD.stp sv (C_ A (λ_ h=>h)),a9,k1.new A,k2.new A⟩
  .exact⟨qq.1,qq.2,b.put G (by show F.fb<q;omega) a8 A,⟨a3.1.trans A (λy hy e=>M_),a3.2⟩,hg,⟨x,hx,E,rfl⟩,svD.put sv a8 D_ D_ A,a9,k1.ot A M_,k2.ot A M_⟩)
 have a0:w1.heap.size=W.heap.size+3:=by rw[H,zm,z2,z1]
 have a6:H_ (∀q r' rv' g' T' n d V,IM F W r rv g T (u,u') (.iface f l) q r' rv' g' T' n d V->Calls prog 146 #[S_ V.heap.size 1 1,.func (.func 210) #[] #[.pointer (some ⟨W.heap.size+1,0,none⟩)]] (V.alloc (.cells #[I_ n,d] 85)) (λe Q=>∃v,e=.returned (.agg #[Z_ (jnN [n]:Int),v])/\IfV v/\Blk Q (W.heap.size+2) [O_,.nilIface] 85/\b7 (.returned (.agg #[Z_ (jnN [n]:Int),v])) ((Q.setCell ⟨W.heap.size+2,0,none⟩ (Z_ (jnN [n]:Int))).setCell ⟨W.heap.size+2,1,none⟩ v))):=zy (λq r' rv' g' T' n d V M=>by
  have A3:=(A_ V N_).alloc (.cells #[I_ n,d] 85)
  have A:=zm V (.cells #[I_ n,d] 85)
  have Z:=M.n3
  have b3:=(M.b1.new A3).1
  refine(wu (w:=V.alloc (.cells #[I_ n,d] 85)) (ns:=[n]) (D:=λ_=>d) (fn:=210) (caps:=#[.pointer (some ⟨W.heap.size+1,0,none⟩)]) (R:=λv W'=>ItR c (V.heap.size+2) d v W') (cU (cs:=[I_ n,d]) (B_ V #[I_ n,d] 85) o_ rfl (by unfold maxLen;simp)) (λ_=>M.d1) (λk hk=>by simp at hk;omega) x7_ (qZ func210 K_ rfl) (λW' pv a7 hr=>?_) (λv Z Z h1 Z=>h1.fr Z (λg hg e=>by rw[A]at e;omega))).mono ?_
  .rw[A]at hr
   have O:=a7.size
   rw[A]at O
   have hB:V.heap.size+2<=W'.heap.size:=by
    have:=hr.lt
    obtain⟨N,A,rfl⟩:=zg hr x7_
    have:=hr.lt N rfl
    omega
   exact YV b4 M.d1 (a7.bl b3 id) hr hB
  .rintro e Q ⟨v,rfl,U,f4,v0,v1⟩
   have N:=A3.trans f4 u_
   have b2:=(M.b2.new N)
   refine⟨v,rfl,U,b2.1,?_⟩
   rw[Q_.o]
   have O:=J_ Q (W.heap.size+2) 0 1 (Z_ (jnN [n]:Int)) v
   have t4:=M.ti.new G N
   have b5:=M.st.trans (C_ N (λ_ h=>h))
   have b8:svD F Q (λy=>¬TSS (uT F) (uL F) rv' r' y) (UD F (.wrap c p u,y)) (UA (.wrap c p u,y)) (jnN [n]) v:=svD.items (V:=V) (J:=λy=>¬TSS (uT F) (uL F) rv' r' y) (B:=V.heap.size+2) S.1 hv M.sv (λx t z hz=>hz.fr N u_) (λx hx A e=>o1_ ((M.ti.li G e).2)) v0 v1
   refine⟨r',rv',g',T',jnN [n],v,rfl,iQ _,U,t4.put G (by show F.fb<W.heap.size+2;omega) b2.1 O,⟨b5.1.trans O (λx hx e=>M_),b5.2⟩,M.gr,?_,svD.put b8 b2.1 D_ D_ O⟩
   refine⟨λX ws e=>yk_,λ_ hn=>(Via.nev hv (by simp[xi]) hn).elim,λc1 X A A A e A=>?_,λc p p' lw lr ow o q e=>yk_,λc p p' fw fr g i h e=>yk_,λc p p' fw fr g e=>yk_⟩
   cases e
   cases Via.uniq hv A
   exact⟨n,M.hk,.refl _⟩)
 replace H:=zy H;replace a0:=zy a0;go_in;go_upto_region 1 with fail;rw[<- H.o];go_cut [7] (λv V=>∃q r' rv' g' T' n d,v=P_ q/\H_ (IM F W r rv g T (u,u') (.iface f l) q r' rv' g' T' n d V));case first=>
  refine tr_ 9 (λV=>z_ V F.fb 5 (P_ F.tu)/\z_ V W.heap.size 0 (.iface aT ax)/\z_ V W.heap.size 1 (.iface bT bx)) ?_;refine tB_ 0 [1,2,3,9] ?_;refine tB_ 1 [2,3,9] ?_;refine tB_ 2 [3,9] ?_;refine tB_ 3 [9] ?_;refine tB_ 4 [5,8,9] ?_;refine tB_ 5 [8,9] ?_;refine tB_ 6 [7,8,9] ?_;refine tB_ 7 [8,9] ?_;refine tB_ 8 [9] ?_;refine jV 9 10 rfl rfl K_ (λ_=>⟨e5,p0,X⟩) (λK s=>?_) (λK s=>?_)
  .go_simp;refine(call.o _ (A_ w1 _).drew).mono ?_;rintro e N ⟨r',rv',g',T',x,rfl,hx,E,b,hs,hg⟩;refine s _ _ ?_;have sD:=λW a m=>run_store prog W a x.d m ((b.t.q x hx).2.2.2).one;have fin:=zy (a5.o _ N (N.alloc (.cells #[I_ x.n,x.d] 85)) r' rv' g' T' x N.heap.size (A_ w1 _).drew b hs hg hx E (.inl ((A_ _ _).alloc _)) (B_ N #[I_ x.n,x.d] 85));generalize x.n=xn at *;generalize x.d=xd at *;refine t0_ 10 ?_;refine t0_ 11 ?_;refine td_ ?_ _;go_wp2;go_meet;exact⟨_,_,_,_,_,_,_,rfl,fin⟩
  .go_simp;refine s _ _ ?_;have O:=(A_ w1 N_).alloc (.cells #[O_,.nilIface] 85);have B3:=B_ w1 #[O_,.nilIface] 85;refine zh 9 rfl K_ (λ_=>⟨O.ke e5,O.ke p0,O.ke X⟩) (λK s=>?_);go_simp;refine(call.o _ O.drew).mono ?_;rintro e N ⟨r',rv',g',T',x,rfl,hx,E,b,hs,hg⟩;refine s _ _ ?_;have sD:=λW a m=>run_store prog W a x.d m ((b.t.q x hx).2.2.2).one;have l:¬TSS (uT F) (uL F) rv r w1.heap.size:=λe=>by
    have:=b9.o _ e;have:=a0.o;omega
   have f:=hs.1.bl B3.drew l;have fin:=zy (a5.o _ N ((N.setCell ⟨w1.heap.size,0,none⟩ (I_ x.n)).setCell ⟨w1.heap.size,1,none⟩ x.d) r' rv' g' T' x w1.heap.size O.drew b hs hg hx E (.inr ⟨by have:=a0.o;omega,by show w1.heap.size<(w1.alloc _).heap.size;rw[zm];omega,f,J_ N w1.heap.size 0 1 _ _⟩) ((f.set 0 _).set 1 _));have k0:=f.c0;have k1:=f.c1;have t0:=f.th 0;have t1:=f.th 1;generalize x.n=xn at *;generalize x.d=xd at *;refine t0_ 11 ?_;refine td_ ?_ _;go_wp2;go_meet;exact⟨_,_,_,_,_,_,_,rfl,fin⟩
 case rest=>
  obtain⟨q,r',rv',g',T',n,d,rfl,M⟩:=hcut;have O:=zy (a6.o _ _ _ _ _ _ _ _ M);have b:=M.o.bq.c0;have b:=M.o.bq.c1;have hd:=M.o.d1;generalize jnN [n]=jn at *;rcases hd with rfl|⟨b,tx,rfl⟩;all_goals
   go_wp2_with (go_at_call 146;refine O.o.mono ?_;rintro e Q ⟨v,rfl,U,hb,hP⟩;have s:=hb.cell 0;have A:=hb.cell 1;have t0:=hb.th 0;have t1:=hb.th 1;have sD:=(λW a m=>run_store prog W a v m U.one);have b:=(hb.set 0 (I_ jn)).set 1 v;have f:=b.cell 0;have l:=b.cell 1;simp only[am_,an_,aa_,ab_]at s A f l;replace hP:=zy hP);refine bodyPost_ret (v:=.agg #[I_ jn,v]) (by simp[results,results160,go_sem,f,l]) rfl ?_;exact hP
def Qz{w:Aw}{lv:Ax}{B n:Nat}{xs:Ay}(h:w.ownsRow B 85 2 lv n xs)(hn:n<=300)(h1:∀u∈xs,u.oneCell'=true):Calls prog 212 #[lv] w λe w'=>∃v,e=.returned v/\Fr w w' N_/\w'.ownsRow w.heap.size 85 2 v n xs:=by
 obtain⟨f,b⟩:=y_ (λ(e:Ending) (w':World)=>∃v,e=.returned v/\Fr w w' N_/\w'.ownsRow w.heap.size 85 2 v n xs);rw[<- b.o];rcases h.2 with⟨e,h0⟩|⟨g,i,A,e,_⟩
 .have hp:H_ (f (.returned (L_)) w):=zy (by
   rw[b.o]
   obtain rfl:n=0:=M_
   obtain rfl:xs=[]:=ch_ (o1_ h.1)
   exact⟨_,rfl,A_ _ _,World.ownsRow_nil _ _ _ _⟩)
  subst e;have nn:∀W,(binOp .eql 298 (L_) (L_)).run prog W=.ok (.bool true) W:=λW=>by kernel_rfl
  go_in;go_wp2;try go_ret
  exact hp
 .subst e;obtain⟨ti,q,s,t,z⟩:=info_parts XN;have nw:H_ (∀j u,xs[j]?=some u->(w.alloc (.cells #[] 85)).cell? ((⟨g,0,none⟩:Addr).add j)=some u):=zy (λj u A=>by
   have:=zr h rfl A
   have k:=((A_ w N_).alloc (.cells #[] 85)).ke this
   by_cases h0:j=0
   .subst h0
    exact k
   .simpa[Addr.add,h0] using k)
  have hl:H_ (xs.length=n*2):=zy h.1;have ow:H_ ((w.alloc (.cells #[] 85)).ownsRow w.heap.size 85 2 (S_ w.heap.size 0 0) 0 []):=zy (cU (cs:=[]) (B_ w #[] 85) l_ rfl o_);have fin:H_ (∀v w',w'.ownsRow w.heap.size 85 2 v (0+n) ([]++xs)->(w.alloc (.cells #[] 85)).grownBy w' (some w.heap.size)->f (.returned v) w'):=zy (λv w' l D=>by
   rw[b.o]
   rw[bu_,bp_]at l
   refine⟨v,rfl,?_,l⟩
   exact((A_ w N_).alloc (.cells #[] 85)).trans ((A_ _ (λx=>x=w.heap.size)).gw D (λk e _=>by simpa using e.symm)) (λx hx e=>M_))
  replace h1:=zy h1;have nn:∀W,(binOp .eql 298 (S_ g n i) (L_)).run prog W=.ok (.bool false) W:=λW=>by kernel_rfl
  go_in;go_wp2_with (first
   |(at_builtin;go_must (refine wpList_append_own_at _ rfl _ _ 298 rfl w.heap.size 85 ti _ 2 24 eC q s t z rfl D_ (S_ w.heap.size 0 0) 0 [] rfl ?hown ⟨g,0,none⟩ n i xs rfl ?len ?nn ?one ?b1 ?b2 ?b3 ?_)
     case hown=>exact ow
     case len=>exact hl
     case nn=>exact nw
     case one=>exact h1
     case b1=>unfold maxLen;omega
     case b2=>omega
     case b3=>simp
     intro s t f b q l
     have i:=zy (fin.o s t f b)
     clear f b q l))
  try go_ret
  exact i
section
variable {α ρ:Type} {P:TP α ρ} {I:TI α} {L:TL} {F:FD} {fs:An} {C:List (Rw α)->PF->Nat->Prop} {c0:Ay} {T0:Av} {W V V1:Aw} {r r':ρ} {rv rv' lv:Ax} {g g':Aq} {T T':List (Rw α)} {ns:Ao} {Dv:Ai}
def RFM.put(i:P.OK I L)(h:RFM P I L F fs C c0 T0 W r rv g T ns Dv lv V r' rv' g' T'){q:Nat}{cs:Ay}(hb:Blk V q cs 85)(l:W.heap.size+2<=q)(hl:lv.ownBlock≠some q)(hf:Fr V V1 (λx=>x=q)):RFM P I L F fs C c0 T0 W r rv g T ns Dv lv V1 r' rv' g' T':=
 ⟨h.ti.put i (o1_ h.f) hb hf,⟨h.st.1.trans hf (λx hx e=>M_),h.st.2⟩,h.gr,zj h.row hf (λb e k=>hl (k▸e)),h.no,λj k f e e'=>⟨(h.kn j k f e e').1,(h.kn j k f e e').2.put hb D_ D_ hf⟩,h.iv,h.le,h.o0.ot hf M_,h.o1.ot hf M_,h.f⟩
end
def dy(F:FD)(fw:An)(T:Ah)(g:PF)(v:Nat):Prop:=
 (∀i h,vV fw g.letter=some i->fw[i]?=some h->∃ks:List Nat,ks.length=fw.length/\(∀(q:Nat) (f:PF) (k:Nat),fw[q]?=some f->ks[q]?=some k->if q=i then fV T (h.ty,g.ty) k else LL F f.ty k)/\le0 v (jnN ks))/\
 (vV fw g.letter=none->g.dflt=none->∃ks:List Nat,ks.length=fw.length/\(∀(q:Nat) (f:PF) (k:Nat),fw[q]?=some f->ks[q]?=some k->LL F f.ty k)/\le0 v (jnN ks))
def dy.ls{F:FD}{fw:An}{T:Ah}{g:PF}{v s:Nat}(h:dy F fw T g v)(hv:le0 s v)(R:Ah):dy F fw (T++R) g s:=by
 refine⟨λi t e e'=>?_,λe e'=>?_⟩
 .obtain⟨ks,h1,b,l⟩:=h.1 i t e e';refine⟨ks,h1,λq f k u w=>?_,hv.trans l⟩;have:=b q f k u w;split at this
  .rename_i o;rw[i_ o];exact this.more R
  .rename_i o;rw[n_ o];exact this
 .obtain⟨ks,h1,b,l⟩:=h.2 e e';exact⟨ks,h1,b,hv.trans l⟩
structure UFM(F:FD)(fw fr:An)(c0:Ay)(W:Aw)(r:By)(rv:Ax)(g:Aq)(T:Ah)(a:Es)(qf:Nat)(ns:Ao)(Dv:Ai)(lv:Ax)(j n:Nat)(d:Ax)(V:Aw)(r':By)(rv':Ax)(g':Aq)(T':Ah):Prop where
 B:RFM (uT F) (uI F) (uL F) F fw (λ_ f k=>LL F f.ty k) c0 288 W r rv g T ns Dv lv V r' rv' g' T'
 len:ns.length=fw.length
 bf:wo V (TSS (uT F) (uL F) rv' r') qf [I_ n,d] 85
 ge:W.heap.size+2<=qf
 nl:lv.ownBlock≠some qf
 n3:n<=301
 d1:IfV d
 sv:svD F V (λy=>¬TSS (uT F) (uL F) rv' r' y) (UD F a) (UA a) n d
 dn:∀q x,q<j->fr[q]?=some x->dy F fw T' x n
section
variable {F:FD} {fw fr:An} {c0:Ay} {W V V1:Aw} {r r' r1:By} {rv rv' rv1:Ax} {g g' g1:Aq} {T T' T1:Ah} {a:Es} {qf:Nat} {ns:Ao} {Dv:Ai} {lv:Ax} {j n:Nat} {d:Ax}
def UFM.start(b:F.OK)(h:RFM (uT F) (uI F) (uL F) F fw (λ_ f k=>LL F f.ty k) c0 288 W r rv g T ns Dv lv V r' rv' g' T')(hl:ns.length=fw.length):UFM F fw fr c0 W r rv g T a V.heap.size ns Dv lv 0 0 .nilIface (V.alloc (.cells #[O_,.nilIface] 85)) r' rv' g' T':=
 have hz:=h.o1.1.lt
 ⟨h.new (vH b) ((A_ V _).alloc _),hl,⟨B_ V #[O_,.nilIface] 85,λe=>o1_ ((h.ti.li (vH b) e).2)⟩,M_,λe=>o1_ ((h.row.lt _ e).2),M_,.inl rfl,⟨λ_=>rfl,λe=>absurd rfl e⟩,λq x b=>absurd b (Nat.not_lt_zero q)⟩
def UFM.new(b:F.OK)(h:UFM F fw fr c0 W r rv g T a qf ns Dv lv j n d V r' rv' g' T')(hf:Fr V V1 N_):UFM F fw fr c0 W r rv g T a qf ns Dv lv j n d V1 r' rv' g' T':=
 ⟨h.B.new (vH b) hf,h.len,h.bf.new hf,h.ge,h.nl,h.n3,h.d1,h.sv.stp (C_ hf (λ_ h=>h)),h.dn⟩
def UFM.known(b:F.OK)(h:UFM F fw fr c0 W r rv g T a qf ns Dv lv j n d V r' rv' g' T')(l:TbI (uT F) (uI F) (uL F) V1 r1 rv1 g1 T1)(hs:Stp V V1 (TSS (uT F) (uL F) rv' r') (TSS (uT F) (uL F) rv1 r1))(hg:Grw (uT F).Cl T' T1 g' g1):UFM F fw fr c0 W r rv g T a qf ns Dv lv j n d V1 r1 rv1 g1 T1:=by
 have i:=hg;obtain⟨R,f,_⟩:=i;exact⟨h.B.known (vH b) (λ_ _ _ _ k=>k) l hs hg,h.len,h.bf.stp hs,h.ge,h.nl,h.n3,h.d1,h.sv.stp hs,λq x b e=>by rw[f];exact(h.dn q x b e).ls (.refl _) R⟩
def UFM.put(b:F.OK)(h:UFM F fw fr c0 W r rv g T a qf ns Dv lv j n d V r' rv' g' T'){q:Nat}{cs:Ay}(hb:Blk V q cs 85)(e:W.heap.size+2<=q)(hl:lv.ownBlock≠some q)(hn:q≠qf)(hf:Fr V V1 (λx=>x=q)):UFM F fw fr c0 W r rv g T a qf ns Dv lv j n d V1 r' rv' g' T':=
 ⟨h.B.put (vH b) hb e hl hf,h.len,h.bf.ot hf (Ne.symm hn),h.ge,h.nl,h.n3,h.d1,h.sv.put hb D_ D_ hf,h.dn⟩
def UFM.next(h:UFM F fw fr c0 W r rv g T a qf ns Dv lv j n d V r' rv' g' T')(hx:∀x,fr[j]?=some x->dy F fw T' x n):UFM F fw fr c0 W r rv g T a qf ns Dv lv (j+1) n d V r' rv' g' T':=
 ⟨h.B,h.len,h.bf,h.ge,h.nl,h.n3,h.d1,h.sv,λq x f e=>by
  by_cases b:q=j
  .subst b
   exact hx x e
  .exact h.dn q x M_ e⟩
def UFM.best(k:F.OK)(h:UFM F fw fr c0 W r rv g T a qf ns Dv lv j n d V r' rv' g' T'){kv:Ax}{x:PF}(hm:m<=301)(hk:IfV kv)(o:svD F V (λy=>¬TSS (uT F) (uL F) rv' r' y) (UD F a) (UA a) m kv)(hx:fr[j]?=some x)(hc:dy F fw T' x m)(b:Aq)(hb:btr m n=b):UFM F fw fr c0 W r rv g T a qf ns Dv lv (j+1) (if b=true then m else n) (if b=true then kv else d) ((V.setCell ⟨qf,0,none⟩ (Z_ ((if b=true then m else n:Nat):Int))).setCell ⟨qf,1,none⟩ (if b=true then kv else d)) r' rv' g' T':=by
 subst hb;have f:=J_ V qf 0 1 (Z_ ((if btr m n=true then m else n:Nat):Int)) (if btr m n=true then kv else d);have i:=h.B.put (vH k) h.bf.1 h.ge h.nl f;obtain⟨l1,l2⟩:=XR (n:=n) (m:=m);refine⟨i,h.len,⟨?_,h.bf.2⟩,h.ge,h.nl,by split;exact hm;exact h.n3,by split;exact hk;exact h.d1,?_,λq y i e=>?_⟩
 .have:=(h.bf.1.set 0 (Z_ ((if btr m n=true then m else n:Nat):Int))).set 1 (if btr m n=true then kv else d);simpa using this
 .refine svD.put ?_ h.bf.1 D_ D_ f;split
  .exact o
  .exact h.sv
 .by_cases l:q=j
  .subst l;rw[hx]at e;cases e;have:=hc.ls l2 [];rwa[bf_]at this
  .have:=(h.dn q y M_ e).ls l1 [];rwa[bf_]at this
end
structure UCM(F:FD)(fw:An)(a:Es)(x:PF)(ks:Ao)(Dk:Ai)(v:Ax)(V:Aw)(r':By)(rv':Ax)(T':Ah):Prop where
 row:kR V v ks Dk
 len:ks.length=fw.length
 iv:∀j,IfV (Dk j)
 le:∀k∈ks,k<=301
 cl:dy F fw T' x (jnN ks)
 sv:∀V1 kv,Fr V V1 N_->(jnN ks=0\/jnN ks=301->kv=.nilIface)->(1<=jnN ks->jnN ks<=300->RcR (V.heap.size+2) ks.length Dk kv V1)->svD F V1 (λy=>¬TSS (uT F) (uL F) rv' r' y) (UD F a) (UA a) (jnN ks) kv
def Qv{ns:Ao}{Dv:Ai}{i n:Nat}{d:Ax}(hi:i<ns.length):((((List.range ns.length).flatMap λj=>[Value.int .i64 ((ns.getD j 0:Nat):Int),Dv j]).set (i*2) (I_ n)).set (i*2+1) d)=(List.range (ns.set i n).length).flatMap λj=>[Value.int .i64 (((ns.set i n).getD j 0:Nat):Int),(λj=>if j=i then d else Dv j) j]:=by
 have hl:∀(N:Nat) (f:Nat->List Value),(∀j,(f j).length=2)->((List.range N).flatMap f).length=N*2:=λN f hf=>by
  induction N with
  |zero=>rfl
  |succ N ih=>rw[bs_,ba_,ag_,ih];simp[hf];omega
 have gt:∀(N:Nat) (f:Nat->List Value),(∀j,(f j).length=2)->∀q p,q<N->p<2->((List.range N).flatMap f)[q*2+p]?=(f q)[p]?:=λN f hf q p b hp=>gY (l:=List.range N) (λx _=>hf x) (cb_ b) hp;apply List.ext_getElem?;intro k;rw[bn_];by_cases hk:k<ns.length*2
 .obtain⟨q,p,hp,rfl⟩:∃q p,p<2/\k=q*2+p:=⟨k / 2,k % 2,M_,M_⟩;have b:q<ns.length:=M_;rw[gt _ _ (λ_=>rfl) q p b hp];have hb:((List.range ns.length).flatMap λj=>[Value.int .i64 ((ns.getD j 0:Nat):Int),Dv j])[q*2+p]?=([Value.int .i64 ((ns.getD q 0:Nat):Int),Dv q])[p]?:=gt _ _ (λ_=>rfl) q p b hp;have e:=hl ns.length (λj=>[Value.int .i64 ((ns.getD j 0:Nat):Int),Dv j]) (λ_=>rfl);by_cases h:q=i
  .subst h;rcases(by omega:p=0\/p=1) with rfl|rfl
   .rw[bv_ M_,bz_,cg_ (by rw[e];omega)];simp[au_,b]
   .rw[cg_ (by rw[bn_,e];omega)];simp
  .rw[bv_ M_,bv_ M_,hb];have:(ns.set i n).getD q 0=ns.getD q 0:=by rw[au_,au_,bv_ M_]
   rw[this];simp[h]
 .rw[bj_ (by rw[bn_,bn_,hl _ _ (λ_=>rfl)];omega),bj_ (by rw[hl _ _ (λ_=>rfl)];omega)]
section
variable {F:FD} {fw fr:An} {c0:Ay} {W V:Aw} {r r':By} {rv rv':Ax} {g g':Aq} {T T':Ah} {qf c p p':Nat} {y:PT} {ns:Ao} {Dv:Ai} {lv:Ax} {j n:Nat} {d v:Ax} {x:PF}
def QC(l:F.OK)(h:UFM F fw fr c0 W r rv g T (.leaf c p,y) qf ns Dv lv j n d V r' rv' g' T')(hv:Via (zx F.ds) (zx F.ds') (.leaf c p) y (.leaf c p'))(hb:zi c=false)(b:zx F.ds c=some (.recd fw))(s:zx F.ds' c=some (.recd fr))(hx:fr[j]?=some x)(hi:vV fw x.letter=none)(hd:x.dflt=none)(row:kR V v ns Dv):UCM F fw (.leaf c p,y) x ns Dv v V r' rv' T':=by
 refine⟨row,h.len,h.B.iv,h.B.le,⟨λi w e=>zm_,λ_ _=>⟨ns,h.len,λq f k e e'=>(h.B.kn q k f e' e).1,.refl _⟩⟩,λV1 kv hf h0 h1=>?_⟩;refine svD.recd (F:=F) (V:=V) (J:=λy=>¬TSS (uT F) (uL F) rv' r' y) (Dj:=λj d=>∀f,fw[j]?=some f->Dat (zx F.ds) d f.ty) (B:=V.heap.size+2) h.len (λq k f e e'=>?_) (λds hl o=>?_) (λu hu=>⟨c,p,hu,b⟩) (λz t u hz=>hz.fr hf u_) (λz hz w e=>o1_ ((h.B.ti.li (vH l) e).2)) h0 h1
 .have:=(h.B.kn q k f e e').2;exact⟨this.1,λl=>by
   obtain⟨z,w,A,D⟩:=this.2 l
   exact⟨z,λf' l=>by rw[e']at l;cases l;exact w _ rfl,A,D⟩⟩
 .refine Un.lack hv hb b s (.recd b hb hl (λi z t e e'=>?_)) (ah_ hx) hi hd;rw[av_]at e';cases b:fw[i]? with
  |none=>rw[b]at e';cases e'
  |some f=>rw[b]at e';cases e';exact o i z e f b
def Va(K:F.OK){i:Nat}{E:PF}{z:Rw (PT×PT)}(h:UFM F fw fr c0 W r rv g T (.leaf c p,y) qf ns Dv lv j n d V r' rv' g' T')(hv:Via (zx F.ds) (zx F.ds') (.leaf c p) y (.leaf c p'))(hb:zi c=false)(D:zx F.ds c=some (.recd fw))(M:zx F.ds' c=some (.recd fr))(hx:fr[j]?=some x)(hi:vV fw x.letter=some i)(s:fw[i]?=some E)(hz:z∈T')(H:z.a=(E.ty,x.ty))(row:kR V v (ns.set i z.n) (λj=>if j=i then z.d else Dv j)):UCM F fw (.leaf c p,y) x (ns.set i z.n) (λj=>if j=i then z.d else Dv j) v V r' rv' T':=by
 have Q:=(aj_.1 s).1;have Q:=h.len;have q:=(h.B.ti.t.q z hz).2.2;have sv:=(h.B.ti.v z hz).1;rw[H]at sv;have w:∀(q k:Nat),(ns.set i z.n)[q]?=some k->(q=i/\k=z.n)\/(q≠i/\ns[q]?=some k):=λq k e=>by
  by_cases l:q=i
  .subst l;rw[cg_ M_]at e;cases e;exact .inl ⟨rfl,rfl⟩
  .rw[bv_ M_]at e;exact .inr ⟨l,e⟩
 refine⟨row,by rw[bn_];exact h.len,λb=>?_,λk hk=>?_,⟨λQ Q e e'=>?_,λe=>zm_⟩,λV1 kv hf h0 h1=>?_⟩
 .show IfV (if b=i then z.d else Dv b);split
  .exact q.2
  .exact h.B.iv b
 .obtain⟨b,o⟩:=bw_ hk;rcases w b k o with⟨_,rfl⟩|⟨_,e⟩
  .exact q.1
  .exact h.B.le k (ah_ e)
 .rw[hi]at e;cases e;rw[s]at e';cases e';refine⟨_,by rw[bn_];exact h.len,λb f k e e'=>?_,.refl _⟩;rcases w b k e' with⟨rfl,rfl⟩|⟨l,A⟩
  .rw[i_ rfl];exact⟨z,hz,H,rfl⟩
  .rw[n_ l];exact(h.B.kn b k f A e).1
 .refine svD.recd (F:=F) (V:=V) (J:=λy=>¬TSS (uT F) (uL F) rv' r' y) (Dj:=λq d=>if q=i then Un (zx F.ds) (zx F.ds') E.ty x.ty d else ∀f,fw[q]?=some f->Dat (zx F.ds) d f.ty) (B:=V.heap.size+2) (by rw[bn_];exact h.len) (λb k f e e'=>?_) (λds hl G=>?_) (λu hu=>⟨c,p,hu,D⟩) (λz t u hz=>hz.fr hf u_) (λz hz E e=>o1_ ((h.B.ti.li (vH K) e).2)) h0 h1
  .rcases w b k e with⟨rfl,rfl⟩|⟨l,A⟩
   .rw[s]at e';cases e';simp only[if_true];exact sv
   .simp only[l,if_false];have:=(h.B.kn b k f A e').2;exact⟨this.1,λw=>by
     obtain⟨z,A,N,O⟩:=this.2 w
     exact⟨z,λf' w=>by rw[e']at w;cases w;exact A _ rfl,N,O⟩⟩
  .have w:i<ds.length:=M_;have A:=G i _ (ai_ w);rw[i_ rfl]at A;refine Un.field hv hb D M (.recd D hb hl (λb z t e e'=>?_)) (ah_ hx) hi s (ai_ w) A;rw[av_]at e';have o:=G b z e;by_cases l:b=i
   .subst l;rw[s]at e';cases e';rw[i_ rfl]at o;exact o.dat
   .rw[n_ l]at o;cases l:fw[b]? with
    |none=>rw[l]at e';cases e'
    |some f=>rw[l]at e';cases e';exact o f l
end
def da{F:FD}(D:F.OK)(o9:ql){W:Aw}{r:By}{rv:Ax}{g:Aq}{T:Ah}{c p p' pw pr:Nat}{y:PT}{fw fr:An}{ua va:Am}{uc vc:Nat}{xs ys:Ay}(G:KOK (uT F) (uI F) (uL F) 54 prV m)(h:TbI (uT F) (uI F) (uL F) W r rv g T)(hw:xh W F.P F.s fw (.slice ua fw.length uc) xs)(hr:xh W F.P' F.s' fr (.slice va fr.length vc) ys)(m4:pB F.s pw (.recd fw))(m3:pB F.s' pr (.recd fr))(hv:Via (zx F.ds) (zx F.ds') (.leaf c p) y (.leaf c p'))(m1:xi (zx F.ds) (zx F.ds') (.leaf c p) (.leaf c p')=true)(hb:zi c=false)(b4:zx F.ds c=some (.recd fw))(a9:zx F.ds' c=some (.recd fr))(hm:90000<=T.length+m):Calls prog 162 #[P_ F.fb,.agg #[I_ pw,.slice ua fw.length uc,I_ pr,.slice va fr.length vc]] W (yB (uT F) (uI F) (uL F) W r rv g T (.leaf c p,y)):=by
 obtain⟨o3,Q_⟩:=y_ (yB (uT F) (uI F) (uL F) W r rv g T (.leaf c p,y));rw[<- Q_.o];have a3:=vH D;obtain⟨l9,j3⟩:=Km D (p:=pw) (fs:=fw) ⟨m4,c,b4⟩;have r9:fr.length<=300:=(D.g' c _ a9).1.1;have m2:∀f∈fr,okY F f.ty:=λf hf=>by
  obtain⟨j,hp⟩:=m3;exact⟨XJ hp f hf,D.e' c _ a9 f hf,XI _ ((D.g' c _ a9).1.2.2 f hf)⟩
 obtain⟨c0,f1⟩:∃l:List Value,l=[I_ pw,.slice ua fw.length uc,I_ pr,.slice va fr.length vc]:=⟨_,rfl⟩;obtain⟨w3,h6⟩:=e_ ((W.alloc (.cells #[I_ pw,.slice ua fw.length uc,I_ pr,.slice va fr.length vc] 288)).alloc (.cells #[O_,.nilIface] 85));obtain⟨O,Z⟩:=e_ (RFM (uT F) (uI F) (uL F) F fw (λ_ f k=>LL F f.ty k) c0 288 W r rv g T);have start:O [] (λ_=>.nilIface) (L_) w3 r rv g T:=by rw[h6,Z,f1];exact .start a3 h #[I_ pw,.slice ua fw.length uc,I_ pr,.slice va fr.length vc] 288
 have c1:=(show RFM (uT F) (uI F) (uL F) F _ _ _ _ W r rv g T _ _ _ _ _ _ _ _ from Z▸start).o0.1.cell 1;rw[f1]at c1;simp only[aa_,ab_]at c1;have i9:∀x,TSS (uT F) (uL F) rv r x->F.fb<x:=λx e=>(h.li a3 e).1;have h5:∀x,F.P x->¬TSS (uT F) (uL F) rv r x:=λx hx e=>by have:=i9 x e;have:=D.pP x hx;omega
 have j4:∀x,F.P' x->¬TSS (uT F) (uL F) rv r x:=λx hx e=>by have:=i9 x e;have:=D.pP' x hx;omega
 have r6:F.fb<W.heap.size:=by have:F.fb<F.tu/\F.tu<W.heap.size:=h.li a3 (.inl (.inl rfl));omega
 have item:H_ (∀V r' rv' g' T' ns Dv lv f q,O ns Dv lv V r' rv' g' T'->fw[q]?=some f->∃b H fx fd,ua=some ⟨b,0,none⟩/\V.cell? ⟨b,q*4,none⟩=some (I_ f.place)/\V.cell? ⟨b,q*4+1,none⟩=some (U_ f.letter)/\V.cell? ⟨b,q*4+2,none⟩=some (.iface H fx)/\V.cell? ⟨b,q*4+3,none⟩=some (.pointer fd)/\V.cell? ⟨F.fb,4,none⟩=some (P_ F.tb)/\TyV V F.P f.ty (.iface H fx)):=zy (λV r' rv' g' T' ns Dv lv f q M hf=>by
  rw[Z]at M
  have o1:=zj hw.row M.st.1 (λx e=>h5 x (hw.off x e))
  obtain⟨b,d7,e⟩:=zg o1 (o1_ ((aj_.1 hf).1))
  cases e
  obtain⟨H,fx,fd,k1,k2,k3,k4,k5,k6⟩:=fu o1 (hw.V.fr M.st.1 h5) hf
  exact⟨b,H,fx,fd,rfl,k1,k2,k3,k4,M.ti.i.1.i.cell4,k5⟩)
 have call:H_ (∀V r' rv' g' T' ns Dv lv f H fx,O ns Dv lv V r' rv' g' T'->fw[ns.length]?=some f->TyV V F.P f.ty (.iface H fx)->Calls prog 158 #[P_ F.tb,.iface H fx] V (cg (dT F) (dI F) (dL F) V () r'.1 (.ty f.ty))):=zy (λV r' rv' g' T' ns Dv lv f H fx M hf ty=>by
  rw[Z]at M
  exact bI D o9 M.ti.i.1 M.ti.i.2 ty (j3 f (ah_ hf)))
 have known:H_ (∀V r' rv' g' T' ns Dv lv V1 a6 Td,O ns Dv lv V r' rv' g' T'->TbI (dT F) (dI F) (dL F) V1 () a6 false Td->Stp V V1 (TSS (dT F) (dL F) r'.1 ()) (TSS (dT F) (dL F) a6 ())->Gd (ClD F) Td->O ns Dv lv V1 (a6,Td) rv' g' T'/\Stp V V1 (TSS (uT F) (uL F) rv' r') (TSS (uT F) (uL F) rv' (a6,Td))):=zy (λV r' rv' g' T' ns Dv lv V1 a6 Td M ht hs hg=>by
  rw[Z]at M⊢
  obtain⟨a1,a2⟩:=TbI.data D M.ti ht hs hg
  exact⟨M.known a3 (λ_ _ _ _ k=>k) a1 a2 (Grw.refl _ _),a2⟩)
 have next:H_ (∀V a6 Td rv' g' T' ns Dv lv f (x:Rw Qu) o J v5,O ns Dv lv V (a6,Td) rv' g' T'->fw[ns.length]?=some f->x∈Td->x.a=.ty f.ty->J.ownsRow (W.heap.size+2) 85 2 v5 (ns.length+1) (((List.range ns.length).flatMap λj=>[Z_ ((ns.getD j 0:Nat):Int),Dv j])++[I_ x.n,x.d])->(V.alloc o).grownBy J lv.ownBlock->(v5.ownBlock=lv.ownBlock\/v5.ownBlock=some (V.alloc o).heap.size)->O (ns++[x.n]) (λj=>if j<ns.length then Dv j else x.d) v5 J (a6,Td) rv' g' T'):=zy (λV a6 Td rv' g' T' ns Dv lv f x o J v5 M hf hx ha k1 k2 k3=>by
  rw[Z]at M⊢
  have q:=(M.ti.i.1.t.q x hx).2.2
  have sv:=(M.ti.i.1.v x hx).1
  rw[ha]at sv
  exact M.item a3 hf (ll M.ti.i.2 hx ha) (svD.data M.ti sv) q.1 q.2 k1 k2 k3)
 have row:H_ (∀V r' rv' g' T' ns Dv lv,O ns Dv lv V r' rv' g' T'->V.ownsRow (W.heap.size+2) 85 2 lv ns.length ((List.range ns.length).flatMap λj=>[Z_ ((ns.getD j 0:Nat):Int),Dv j])/\W.heap.size+2<=V.heap.size):=zy (λV r' rv' g' T' ns Dv lv M=>by rw[Z]at M;exact⟨M.row,o1_ M.o1.1.lt⟩);have j1:H_ (∀V r' rv' g' T' ns Dv lv V1,O ns Dv lv V r' rv' g' T'->Fr V V1 N_->O ns Dv lv V1 r' rv' g' T'):=zy (λV r' rv' g' T' ns Dv lv V1 M hf=>by rw[Z]at M⊢;exact M.new a3 hf);have j5:H_ (∀V r' rv' g' T' ns Dv lv,O ns Dv lv V r' rv' g' T'->(∀x,lv.ownBlock=some x->x<V.heap.size/\F.fb<x)/\∀x,TSS (uT F) (uL F) rv' r' x->x<V.heap.size):=zy (λV r' rv' g' T' ns Dv lv M=>by
  rw[Z]at M
  exact⟨λx e=>⟨(M.row.lt x e).2,o1_ ((M.row.lt x e).1)⟩,λx e=>(M.ti.li a3 e).2⟩)
 obtain⟨A,S⟩:=e_ (UFM F fw fr c0 W r rv g T (.leaf c p,y));have j9:H_ (∀V r' rv' g' T' ns Dv lv,O ns Dv lv V r' rv' g' T'->ns.length=fw.length->A V.heap.size ns Dv lv 0 0 .nilIface (V.alloc (.cells #[O_,.nilIface] 85)) r' rv' g' T'):=zy (λV r' rv' g' T' ns Dv lv M hl=>by
  rw[Z]at M
  rw[S]
  exact UFM.start D M hl)
 have a7:H_ (∀qf ns Dv lv j n d V r' rv' g' T',A qf ns Dv lv j n d V r' rv' g' T'->V.cell? ⟨W.heap.size,0,none⟩=some (I_ pw)/\V.cell? ⟨W.heap.size,1,none⟩=some (.slice ua fw.length uc)/\V.cell? ⟨W.heap.size,3,none⟩=some (.slice va fr.length vc)/\V.cell? ⟨F.fb,5,none⟩=some (P_ F.tu)/\xh V F.P F.s fw (.slice ua fw.length uc) xs):=zy (λqf ns Dv lv j n d V r' rv' g' T' M=>by
  rw[S]at M
  have k:=M.B.o0.1
  rw[f1]at k
  exact⟨k.cell 0,k.cell 1,k.cell 3,M.B.ti.i.1.i.cell5,hw.fr M.B.st.1 h5⟩)
 have j6:H_ (∀qf ns Dv lv j n d V r' rv' g' T' x,A qf ns Dv lv j n d V r' rv' g' T'->fr[j]?=some x->∃b Q gx gd,va=some ⟨b,0,none⟩/\V.cell? ⟨b,j*4,none⟩=some (I_ x.place)/\V.cell? ⟨b,j*4+1,none⟩=some (U_ x.letter)/\V.cell? ⟨b,j*4+2,none⟩=some (.iface Q gx)/\V.cell? ⟨b,j*4+3,none⟩=some (.pointer gd)/\TyV V F.P' x.ty (.iface Q gx)/\DfV V F.P' F.s' x.dflt (.pointer gd)):=zy (λqf ns Dv lv j n d V r' rv' g' T' x M hf=>by
  rw[S]at M
  have o1:=zj hr.row M.B.st.1 (λx e=>j4 x (hr.off x e))
  obtain⟨b,d7,e⟩:=zg o1 (o1_ ((aj_.1 hf).1))
  cases e
  obtain⟨H,fx,fd,k1,k2,k3,k4,k5,k6⟩:=fu o1 (hr.V.fr M.B.st.1 j4) hf
  exact⟨b,H,fx,fd,rfl,k1,k2,k3,k4,k5,k6⟩)
 have a5:H_ (∀qf ns Dv lv j n d V r' rv' g' T' V1,A qf ns Dv lv j n d V r' rv' g' T'->Fr V V1 N_->A qf ns Dv lv j n d V1 r' rv' g' T'):=zy (λqf ns Dv lv j n d V r' rv' g' T' V1 M hf=>by rw[S]at M⊢;exact M.new D hf);have i3:H_ (∀qf ns Dv lv j n d V r' rv' g' T',A qf ns Dv lv j n d V r' rv' g' T'->Calls prog 212 #[lv] V λe w'=>∃v,e=.returned v/\Fr V w' N_/\w'.ownsRow V.heap.size 85 2 v ns.length ((List.range ns.length).flatMap λj=>[Z_ ((ns.getD j 0:Nat):Int),Dv j])):=zy (λqf ns Dv lv j n d V r' rv' g' T' M=>by
  rw[S]at M
  refine Qz M.B.row (o1_ M.len) (λu hu=>?_)
  obtain⟨q,_,hq⟩:=b8_.1 hu
  simp only[ao_,a9_,or_false]at hq
  rcases hq with rfl|rfl
  .rfl
  .exact(M.B.iv q).one)
 have e7:H_ (∀qf ns Dv lv j n d V r' rv' g' T' x v,A qf ns Dv lv j n d V r' rv' g' T'->fr[j]?=some x->vV fw x.letter=none->x.dflt=none->kR V v ns Dv->UCM F fw (.leaf c p,y) x ns Dv v V r' rv' T'):=zy (λqf ns Dv lv j n d V r' rv' g' T' x v M hx hi hd ro=>by
  rw[S]at M
  exact QC D M hv hb b4 a9 hx hi hd ro)
 have e8:H_ (∀qf ns Dv lv j n d V r' rv' g' T' x,A qf ns Dv lv j n d V r' rv' g' T'->fr[j]?=some x->vV fw x.letter=none->x.dflt≠none->A qf ns Dv lv (j+1) n d V r' rv' g' T'):=zy (λqf ns Dv lv j n d V r' rv' g' T' x M hx hi hd=>by
  rw[S]at M⊢
  exact M.next (λx' m7=>by rw[hx]at m7;cases m7;exact⟨λi h e=>zm_,λ_ e=>absurd e hd⟩))
 have d6:H_ (∀qf ns Dv lv j n d V r' rv' g' T' (x:PF) (i:Nat) (f:PF) hT hx Q gx,A qf ns Dv lv j n d V r' rv' g' T'->fr[j]?=some x->fw[i]?=some f->TyV V F.P f.ty (.iface hT hx)->TyV V F.P' x.ty (.iface Q gx)->Calls prog 54 #[P_ F.tu,.agg #[.iface hT hx,.iface Q gx]] V (ju (uT F) (uI F) (uL F) V r' rv' g' T' (f.ty,x.ty))):=zy (λqf ns Dv lv j n d V r' rv' g' T' x i f hT hx Q gx M q5 p2 t1 t2=>by
  rw[S]at M
  have o1:=j3 f (ah_ p2)
  have o2:=m2 x (ah_ q5)
  obtain⟨R,hR,_⟩:=M.B.gr
  exact G V r' rv' g' T' (f.ty,x.ty) [.iface hT hx,.iface Q gx] M.B.ti ⟨o1,o2⟩ ⟨⟨_,_,rfl,t1,t2⟩,o1,o2⟩ (by rw[hR,ag_];show 90000<=_;omega))
 have d8:H_ (∀qf ns Dv lv j n d V r' rv' g' T' (x:PF) (i:Nat) (f:PF) V1 r1 rv1 g1 T1 (z:Rw (PT×PT)) gw d7 lo,A qf ns Dv lv j n d V r' rv' g' T'->fr[j]?=some x->vV fw x.letter=some i->fw[i]?=some f->z∈T1->z.a=(f.ty,x.ty)->TbI (uT F) (uI F) (uL F) V1 r1 rv1 g1 T1->Stp V V1 (TSS (uT F) (uL F) rv' r') (TSS (uT F) (uL F) rv1 r1)->Grw (uT F).Cl T' T1 g' g1->V1.ownsRow lo 85 2 (S_ gw ns.length d7) ns.length ((List.range ns.length).flatMap λj=>[Z_ ((ns.getD j 0:Nat):Int),Dv j])->W.heap.size+2<=lo->lv.ownBlock≠some gw->gw≠qf->A qf ns Dv lv j n d ((V1.setCell ⟨gw,i*2,none⟩ (I_ z.n)).setCell ⟨gw,i*2+1,none⟩ z.d) r1 rv1 g1 T1/\UCM F fw (.leaf c p,y) x (ns.set i z.n) (λj=>if j=i then z.d else Dv j) (S_ gw ns.length d7) ((V1.setCell ⟨gw,i*2,none⟩ (I_ z.n)).setCell ⟨gw,i*2+1,none⟩ z.d) r1 rv1 T1):=zy (λqf ns Dv lv j n d V r' rv' g' T' x i f V1 r1 rv1 g1 T1 z gw d7 lo M hx hi hf hz e6 ht hs hg ro h3 h2 p3=>by
  rw[S]at M⊢
  have M1:=M.known D ht hs hg
  have j0:=(aj_.1 hf).1
  have s0:=M.len
  have n4:=((ro.stored (i*2) (I_ z.n)).1.stored (i*2+1) z.d).1
  rw[Qv M_]at n4
  obtain⟨cs,g7⟩:=bu ro rfl
  have a8:Blk V1 gw cs.toList 85:=by unfold Blk;simpa using g7
  have M2:=M1.put D (V1:=(V1.setCell ⟨gw,i*2,none⟩ (I_ z.n)).setCell ⟨gw,i*2+1,none⟩ z.d) a8 (o1_ ((ro.lt gw rfl).1)) h2 p3 (J_ V1 gw (i*2) (i*2+1) _ _)
  refine⟨M2,Va D M2 hv hb b4 a9 hx hi hf hz e6 ?_⟩
  have r2:=yl n4
  unfold kR
  rw[bn_]at r2⊢
  exact r2)
 have d2:H_ (∀qf ns Dv lv j n d V r' rv' g' T' x ks Dk v,A qf ns Dv lv j n d V r' rv' g' T'->fr[j]?=some x->UCM F fw (.leaf c p,y) x ks Dk v V r' rv' T'->IfV d/\(∀V1,Fr V V1 N_->Blk V1 qf [I_ n,d] 85)/\∀b,btr (jnN ks) n=b->∀V1 kv V2,Fr V V1 N_->IfV kv->(jnN ks=0\/jnN ks=301->kv=.nilIface)->(1<=jnN ks->jnN ks<=300->RcR (V.heap.size+2) ks.length Dk kv V1)->Fr V1 V2 N_->A qf ns Dv lv (j+1) (if b=true then jnN ks else n) (if b=true then kv else d) ((V2.setCell ⟨qf,0,none⟩ (Z_ ((if b=true then jnN ks else n:Nat):Int))).setCell ⟨qf,1,none⟩ (if b=true then kv else d)) r' rv' g' T'):=zy (λqf ns Dv lv j n d V r' rv' g' T' x ks Dk v M hx Y=>by
  rw[S]at M⊢
  refine⟨M.d1,λV1 hf=>(M.bf.new hf).1,λb f0 V1 kv V2 hf hk h0 h1 l7=>?_⟩
  exact(M.new D (hf.trans l7 u_)).best D (iQ ks) hk ((Y.sv V1 kv hf h0 h1).stp (C_ l7 (λ_ h=>h))) hx Y.cl b f0)
 have j8:H_ (∀qf ns Dv lv j n d V r' rv' g' T',A qf ns Dv lv j n d V r' rv' g' T'->qf<V.heap.size/\W.heap.size+2<=V.heap.size/\(∀x,lv.ownBlock=some x->x<V.heap.size)/\(∀x,TSS (uT F) (uL F) rv' r' x->x<V.heap.size)/\ns.length=fw.length/\(∀x,TSS (uT F) (uL F) rv' r' x->F.fb<x/\x≠W.heap.size)):=zy (λqf ns Dv lv j n d V r' rv' g' T' M=>by
  rw[S]at M
  exact⟨M.bf.1.lt,o1_ M.B.o1.1.lt,λx e=>(M.B.row.lt x e).2,λx e=>(M.B.ti.li a3 e).2,M.len,λx e=>⟨(M.B.ti.li a3 e).1,λh=>M.B.o0.2 (h▸e)⟩⟩)
 have fin:H_ (∀qf ns Dv lv j n d V r' rv' g' T',A qf ns Dv lv j n d V r' rv' g' T'->fr.length<=j->IfV d/\Blk V qf [I_ n,d] 85/\Blk V (W.heap.size+1) [O_,.nilIface] 85/\o3 (.returned (.agg #[I_ n,d])) ((V.setCell ⟨W.heap.size+1,0,none⟩ (I_ n)).setCell ⟨W.heap.size+1,1,none⟩ d)):=zy (λqf ns Dv lv j n d V r' rv' g' T' M hj=>by
  rw[S]at M
  refine⟨M.d1,M.bf.1,M.B.o1.1,?_⟩
  rw[Q_.o]
  have hF:=J_ V (W.heap.size+1) 0 1 (I_ n) d
  refine⟨r',rv',g',T',n,d,rfl,M.n3,M.d1,M.B.ti.put a3 (by show F.fb<W.heap.size+1;omega) M.B.o1.1 hF,⟨M.B.st.1.trans hF (λx hx e=>M_),M.B.st.2⟩,M.B.gr,?_,svD.put M.sv M.B.o1.1 D_ D_ hF⟩
  refine⟨λp1 ws e=>yk_,λ_ hn=>(Via.nev hv m1 hn).elim,λc1 p1 j7 u1 s6 e=>yk_,λc1 p1 j7 lw lr ow o q e m6 l4 E=>(by cases e;rw[b4]at E;cases E),λc1 p1 j7 o5 o4 g1 i h1 e m6 l4 E e2 hg hi hf=>?_,λc1 p1 j7 o5 o4 g1 e m6 l4 E e2 hg hi hf=>?_⟩
  .cases e
   rw[b4]at E
   cases E
   rw[a9]at e2
   cases e2
   obtain⟨q,hq⟩:=bw_ hg
   exact(M.dn q g1 (o1_ ((aj_.1 hq).1)) hq).1 i h1 hi hf
  .cases e
   rw[b4]at E
   cases E
   rw[a9]at e2
   cases e2
   obtain⟨q,hq⟩:=bw_ hg
   exact(M.dn q g1 (o1_ ((aj_.1 hq).1)) hq).2 hi hf)
 replace start:=zy start;replace h6:=zy h6;replace Z:=zy Z;replace S:=zy S;replace f1:=zy f1;clear G hw hr m4 m3 hv m1 hb b4 a9 h i9 j3 m2 h5 j4 hm a3;go_in;go_upto_region 1 with fail;rw[<- h6.o];go_wp2;go_loopg [5,18] (fw.length+1) (λm v5 v V=>∃ns Dv lv r' rv' g' T',lv=v5/\v=Z_ ((ns.length:Nat):Int)/\ns.length<=fw.length/\fw.length+1-ns.length<=m/\H_ (O ns Dv lv V r' rv' g' T'));case atStart=>exact⟨[],_,_,_,_,_,_,rfl,rfl,al_ _,by simp,start⟩
 case round=>
  clear start c1;obtain⟨ns,Dv,lv,r',rv',g',T',rfl,rfl,hq,hm,M⟩:=hrel;by_cases j0:ns.length<fw.length
  .have m0:(ns.length:Int)<(fw.length:Int):=M_;obtain⟨f,hf⟩:∃f,fw[ns.length]?=some f:=⟨_,ai_ j0⟩;obtain⟨b,H,fx,fd,rfl,k0,k1,k2,k3,e4,ty⟩:=item.o _ _ _ _ _ _ _ _ _ _ M hf;obtain⟨w4,hw4⟩:=e_ (wr.alloc (.cells #[I_ f.place,U_ f.letter,.iface H fx,.pointer fd] 194));have A4:Fr wr w4 N_:=yf_
   have B4:Blk w4 wr.heap.size [I_ f.place,U_ f.letter,.iface H fx,.pointer fd] 194:=yv_
   have M4:=zy (j1.o _ _ _ _ _ _ _ _ w4 M A4);have z4:=A4.ke e4;have z2:=B4.c2;have g3:=ty.fr A4 u_;have hC:H_ (∀V1,Fr w4 V1 N_->Calls prog 158 #[P_ F.tb,.iface H fx] V1 (cg (dT F) (dI F) (dL F) V1 () r'.1 (.ty f.ty))):=zy (λV1 l5=>call.o V1 _ _ _ _ _ _ _ _ _ _ (j1.o _ _ _ _ _ _ _ _ V1 M4 l5) hf (g3.fr l5 u_));have h4:¬TSS (uT F) (uL F) rv' r' wr.heap.size:=λe=>absurd ((j5.o _ _ _ _ _ _ _ _ M).2 _ e) (a2_ _);have h3:=zy ((j5.o _ _ _ _ _ _ _ _ M).1);replace h4:=zy h4;replace hf:=zy hf;replace hw4:=zy hw4;replace B4:=zy B4;clear ty g3 A4 e4 M j9 a7 j6 a5 i3 e7 e8 d6 d8 d2 j8 fin;go_wp2;rw[<- hw4.o];refine tr_ 10 (λV=>z_ V F.fb 4 (P_ F.tb)/\z_ V wr.heap.size 2 (.iface H fx)) ?_;refine tz_ 0 ?_;refine tz_ 1 ?_;refine tz_ 2 ?_;refine tz_ 3 ?_;refine tz_ 4 ?_;refine tz_ 5 ?_;refine tz_ 6 ?_;refine zh 7 rfl K_ (λ_=>⟨z4,z2⟩) (λK G=>?_);go_simp;apply(hC.o _ (A_ w4 _).drew).mono;rintro e J ⟨r1,rv1,T1,x,rfl,hx,ha,h1,s1,G1⟩;refine G _ _ ?_;clear G K k0 k1 k2 k3 z4 z2;have n6:=(C_ (A_ w4 _).drew (λ_ h=>h)).trans s1;obtain⟨M5,S5⟩:=known.o _ _ _ _ _ _ _ _ J rv1 T1 M4 h1 n6 G1;replace M5:=zy M5;have B5:=S5.1.bl B4 h4;have y4:J.cell? ⟨F.fb,4,none⟩=some (P_ F.tb):=h1.i.cell4;have y2:=B5.c2;have p4:=(h1.t.q x hx).2.2.2;obtain⟨h8,q6⟩:=row.o _ _ _ _ _ _ _ _ M5;have l3:H_ (∀o U,(J.alloc o).grownBy U lv.ownBlock->U.cell? ⟨F.fb,4,none⟩=some (P_ F.tb)/\U.cell? ⟨wr.heap.size,2,none⟩=some (.iface H fx)):=zy (λo U hg=>by
    have A5:=(A_ J N_).alloc o
    have hF:Fr (J.alloc o) U (λx=>lv.ownBlock=some x):=(A_ _ _).gw hg (λk e _=>e)
    have q4:=A5.ke y4
    have b6:=hF.bl (A5.bl B5 id) (λe=>absurd (h3.o _ e).1 (a2_ _))
    have q2:=b6.c2
    refine⟨?_,q2⟩
    rw[World.cell?_of_block (hF.block F.fb (World.block_lt_of_cell? _ _ q4) (λe=>absurd (h3.o _ e).2 (a2_ _)))]
    exact q4)
   have n1:H_ (∀o U v6,U.ownsRow (W.heap.size+2) 85 2 v6 (ns.length+1) (((List.range ns.length).flatMap λj=>[Z_ ((ns.getD j 0:Nat):Int),Dv j])++[I_ x.n,x.d])->(J.alloc o).grownBy U lv.ownBlock->(v6.ownBlock=lv.ownBlock\/v6.ownBlock=some (J.alloc o).heap.size)->O (ns++[x.n]) (λj=>if j<ns.length then Dv j else x.d) v6 U (rv1,T1) rv' g' T'):=zy (λo U v6 o6 g6 l6=>next.o _ _ _ _ _ _ _ _ _ f x o U v6 M5 hf hx ha o6 g6 l6);have p8:ns.length<=1000:=M_;generalize x.n=xn at *;generalize x.d=xd at *;clear hx ha h1 s1 n6 S5 G1 M5 M4 B4 B5 hC h3 h4;replace h8:=zy h8;generalize i7:ns.length=N at *;rcases p4 with rfl|⟨dT,dx,rfl⟩;all_goals
    refine t1_ 8 ⟨y4,y2⟩ ?_;have A5:=λo=>(A_ J N_).alloc o;refine zh 9 rfl K_ (λ_=>⟨(A5 _).ke y4,(A5 _).ke y2⟩) (λK G=>?_);rw[i_ (show Region.wanted _ _=true by kernel_rfl)];refine aL _ _ rfl (B:=W.heap.size+2) (v:=lv) h8 p8 q6 rfl rfl rfl rfl rfl ?_;intro v6 U o6 g6 l6;refine G _ _ ?_;clear G K;have g7:=l3.o _ _ g6;have nx:=zy (n1.o _ _ _ o6 g6 l6);clear o6 g6 l6 A5 h8 n1 l3;refine t1_ 10 g7 ?_;clear g7;refine td_ ?_ _;go_wp2;go_roundg (fw.length+1-(N+1));case measure=>omega
    case rel=>exact⟨ns++[xn],_,_,_,_,_,_,rfl,by simp[i7],by simp[i7];omega,by simp[i7],nx⟩
  .have m0:¬((ns.length:Int)<(fw.length:Int)):=M_;have j2:ns.length=fw.length:=M_;obtain⟨n5,_⟩:=row.o _ _ _ _ _ _ _ _ M;obtain⟨la,lc,rfl⟩:=zw n5;obtain⟨qf,f2⟩:=e_ wr.heap.size;obtain⟨J,g0⟩:=e_ (wr.alloc (.cells #[O_,.nilIface] 85));have s2:H_ (A qf ns Dv (.slice la ns.length lc) 0 0 .nilIface J r' rv' g' T'):=zy (by rw[g0,f2];exact j9.o _ _ _ _ _ _ _ _ M j2);obtain⟨-,-,e3,-,-⟩:=a7.o _ _ _ _ _ _ _ _ _ _ _ _ s2;replace g0:=zy g0;replace f2:=zy f2;replace j2:=zy j2;clear M n5 item call known next row j1 j5 j9;go_upto_region 8 with fail;rw[<- g0.o,<- f2.o];clear g0;go_wp2;go_loopg [37] (fr.length+1) (λmm v V=>∃(j n:Nat) (d:Value) (r':Value×List (Rw Qu)) (rv':Value) (g':Bool) (T':List (Rw (PT×PT))),v=I_ j/\j<=fr.length/\fr.length+1-j<=mm/\H_ (A qf ns Dv (.slice la ns.length lc) j n d V r' rv' g' T'));case atStart=>exact⟨0,0,.nilIface,_,_,_,_,rfl,al_ _,M_,s2⟩
   case round=>
    clear s2 e3 m0 j0 hq hm f2;obtain⟨j,n,d,r',rv',g',T',rfl,hj,s3,M⟩:=hrel;by_cases i8:j<fr.length
    .have p7:(j:Int)<(fr.length:Int):=M_;obtain⟨x,hx⟩:∃x,fr[j]?=some x:=⟨_,ai_ i8⟩;obtain⟨b,Q,gx,gd,rfl,k0,k1,k2,k3,ty,df⟩:=j6.o _ _ _ _ _ _ _ _ _ _ _ _ x M hx;obtain⟨h9,i0,i1,g2,i2,e9⟩:=j8.o _ _ _ _ _ _ _ _ _ _ _ _ M;obtain⟨fq,d9⟩:=e_ wr.heap.size;obtain⟨w4,hw4⟩:=e_ (wr.alloc (.cells #[I_ x.place,U_ x.letter,.iface Q gx,.pointer gd] 194));have A4:Fr wr w4 N_:=yf_
     have B4:Blk w4 fq [I_ x.place,U_ x.letter,.iface Q gx,.pointer gd] 194:=by rw[hw4,d9];exact B_ wr _ _
     have M4:=zy (a5.o _ _ _ _ _ _ _ _ _ _ _ _ w4 M A4);have hC:=zy (i3.o _ _ _ _ _ _ _ _ _ _ _ _ M4);have b7:wr.heap.size<w4.heap.size:=by rw[hw4,zm];omega
     have g3:=zy (ty.fr A4 u_);have g9:H_ ((x.dflt=none->gd=none)/\(x.dflt≠none->∃a,gd=some a)):=zy (by
      unfold DfV at df
      split at df
      .rename_i e
       cases df
       exact⟨λ_=>rfl,λh=>absurd e h⟩
      .rename_i e
       obtain⟨g',x',_,e',_⟩:=df
       cases e'
       exact⟨λh=>(by rw[e]at h;cases h),λ_=>⟨_,rfl⟩⟩)
     replace hx:=zy hx;replace hw4:=zy hw4;replace d9:=zy d9;replace h9:=zy h9;replace i0:=zy i0;replace i1:=zy i1;replace g2:=zy g2;replace i2:=zy i2;replace e9:=zy e9;replace b7:=zy b7;clear ty df A4 M fin j6 i3 j8;go_upto_region 11 with fail;rw[<- hw4.o,<- d9.o];clear k0 k1 k2 k3;go_upto_region 12 with(go_at_call 212;apply hC.o.mono;rintro e U ⟨v6,rfl,f6,o6⟩;have M6:=zy (a5.o _ _ _ _ _ _ _ _ _ _ _ _ U M4 f6);have B6:=zy (f6.bl B4 id);have n7:=zy (g3.o.fr f6 u_);have q7:=zy f6.size;replace o6:=zy o6;clear f6);obtain⟨s7,n9,rfl⟩:=zw o6;clear hC M4 B4 g3;obtain⟨e0,E,-,-,k8⟩:=a7.o _ _ _ _ _ _ _ _ _ _ _ _ M6;have z1:=B6.o.c1;have z3:=B6.o.c3;obtain⟨oi,e1⟩:=x_ ((vV fw x.letter).getD 0);obtain⟨ob,b5⟩:=x_ ((vV fw x.letter).isSome);have hH:=eH (p:=(pw:Int)) (c:=x.letter) k8 l9;unfold gv at hH;rw[e1,b5]at hH;replace hH:=zy hH;replace e1:=zy e1;replace b5:=zy b5;clear k8;go_upto_if 52 with(go_at_call 213;apply hH.o.mono;rintro e w7 ⟨rfl,f7⟩;have M7:=zy (a5.o _ _ _ _ _ _ _ _ _ _ _ _ w7 M6 f7);have B7:=zy (f7.bl B6 id);have g4:=zy (n7.o.fr f7 u_);have o7:=zy (zj o6 f7 u_);clear f7);clear hH M6 B6 n7 o6 e0 E z1 z3;obtain⟨e0,E,-,e5,a4⟩:=a7.o _ _ _ _ _ _ _ _ _ _ _ _ M7;replace a4:=zy a4;have z3:=B7.o.c3;have z2:=B7.o.c2;go_cut [11] (λv V=>∃ks Dk r1 rv1 g1 T1,H_ (A qf ns Dv (.slice la ns.length lc) j n d V r1 rv1 g1 T1)/\H_ (UCM F fw (.leaf c p,y) x ks Dk v V r1 rv1 T1));case first=>
      cases ob with
      |false=>
       have hi:vV fw x.letter=none:=by
        have:=b5.o;cases he:vV fw x.letter with
        |none=>rfl
        |some i=>rw[he]at this;cases this
       by_cases g8:x.dflt=none
       .obtain rfl:=g9.o.1 g8;have Y:=zy (e7.o _ _ _ _ _ _ _ _ _ _ _ _ _ _ M7 hx hi g8 (yl o7));clear e7 e8 d6 d8 d2 a5 a7 B7 g4 o7 hi e0 E e5 z2 a4;go_wp2;go_meet;exact⟨_,_,_,_,_,_,M7,Y⟩
       .obtain⟨ga,rfl⟩:=g9.o.2 g8;have M8:=zy (e8.o _ _ _ _ _ _ _ _ _ _ _ _ _ M7 hx hi g8);clear e7 e8 d6 d8 d2 a5 a7 M7 B7 g4 o7 hi e0 E e5 z2 a4;go_wp2;go_roundg (fr.length+1-(j+1));case measure=>omega
        case rel=>exact⟨j+1,n,d,_,_,_,_,by simp,i8,l_,M8⟩
      |true=>
       obtain⟨i,hi⟩:∃i,vV fw x.letter=some i:=by
        have:=b5.o;cases he:vV fw x.letter with
        |none=>rw[he]at this;cases this
        |some i=>exact⟨i,rfl⟩
       obtain rfl:i=oi:=by
        have:=e1.o;rw[hi]at this;exact this
       have p5:i<fw.length:=by
        have l8:=hi;unfold vV at l8;obtain⟨h1,_⟩:=List.findIdx?_eq_some_iff_getElem.1 l8;simpa using h1
       have r7:(i:Int)<(fw.length:Int):=M_;have p9:=i2.o;have p6:i<ns.length:=M_;have r8:(i:Int)<(ns.length:Int):=M_;obtain⟨f,hf⟩:∃f,fw[i]?=some f:=⟨_,ai_ p5⟩;obtain⟨gw,d7,e⟩:=zg o7 M_;cases e;obtain⟨b2,r3,e⟩:=zg a4.o.row M_;cases e;obtain⟨hT,h7,r5,-,-,y2,-,n8,-⟩:=fu a4.o.row a4.o.V hf;have kp:H_ (∀V,Fr w7 V N_->V.cell? ⟨F.fb,5,none⟩=some (P_ F.tu)/\V.cell? ⟨W.heap.size,1,none⟩=some (S_ b2 fw.length uc)/\V.cell? ⟨b2,i*4+2,none⟩=some (.iface hT h7)/\V.cell? ⟨fq,2,none⟩=some (.iface Q gx)):=zy (λV X=>⟨X.ke e5,X.ke E,X.ke y2,X.ke z2⟩);have k7:H_ (∀V,Fr w7 V N_->Calls prog 54 #[P_ F.tu,.agg #[.iface hT h7,.iface Q gx]] V (ju (uT F) (uI F) (uL F) V r' rv' g' T' (f.ty,x.ty))):=zy (λV X=>d6.o _ _ _ _ _ _ _ _ _ _ _ _ _ i f _ _ _ _ (a5.o _ _ _ _ _ _ _ _ _ _ _ _ V M7 X) hx hf (n8.fr X u_) (g4.o.fr X u_));have h2:(Value.slice la ns.length lc).ownBlock≠some gw:=λe=>by
        have:=i1.o _ e;have:=(o7.o.lt gw rfl).1;have:=b7.o;omega
       have k9:H_ (∀V V1 r1 rv1 g1 T1 (z:Rw (PT×PT)),Fr w7 V N_->z∈T1->z.a=(f.ty,x.ty)->TbI (uT F) (uI F) (uL F) V1 r1 rv1 g1 T1->Stp V V1 (TSS (uT F) (uL F) rv' r') (TSS (uT F) (uL F) rv1 r1)->Grw (uT F).Cl T' T1 g' g1->(∃a0 a1,V1.cell? ⟨gw,i*2,none⟩=some a0/\V1.cell? ⟨gw,i*2+1,none⟩=some a1)/\(∀o,V1.frozen? ⟨gw,o,none⟩=false)/\A qf ns Dv (.slice la ns.length lc) j n d ((V1.setCell ⟨gw,i*2,none⟩ (I_ z.n)).setCell ⟨gw,i*2+1,none⟩ z.d) r1 rv1 g1 T1/\UCM F fw (.leaf c p,y) x (ns.set i z.n) (λj=>if j=i then z.d else Dv j) (S_ gw ns.length n9) ((V1.setCell ⟨gw,i*2,none⟩ (I_ z.n)).setCell ⟨gw,i*2+1,none⟩ z.d) r1 rv1 T1):=zy (λV V1 r1 rv1 g1 T1 z X hz e6 ht hs hg=>by
        have gl:=(o7.o.lt gw rfl).1
        have o7:=zj o7 X u_
        have o8:=zj o7 hs.1 (λg e k=>by
         have e:gw=g:=by simpa[Value.ownBlock] using e
         subst e
         have:=g2.o _ k
         have:=b7.o
         omega)
        have cc:=kR.cells (yl o8) (ai_ p6)
        exact⟨⟨_,_,cc.1,cc.2⟩,λo=>o8.frozenAt _,d8.o _ _ _ _ _ _ _ _ _ _ _ _ x i f V1 r1 rv1 g1 T1 z gw n9 _ (a5.o _ _ _ _ _ _ _ _ _ _ _ _ V M7 X) hx hi hf hz e6 ht hs hg o8 (by have:=i0.o;have:=b7.o;omega) h2 (by have:=h9.o;have:=b7.o;omega)⟩)
       have n0:H_ (∀V V1 r1 rv1,Fr w7 V N_->Stp V V1 (TSS (uT F) (uL F) rv' r') (TSS (uT F) (uL F) rv1 r1)->V1.cell? ⟨F.fb,5,none⟩=some (P_ F.tu)/\V1.cell? ⟨W.heap.size,1,none⟩=some (S_ b2 fw.length uc)/\V1.cell? ⟨b2,i*4+2,none⟩=some (.iface hT h7)/\V1.cell? ⟨fq,2,none⟩=some (.iface Q gx)):=zy (λV V1 r1 rv1 X hs=>by
        have kk:∀(a o:Nat) (z:Value),w7.cell? ⟨a,o,none⟩=some z->¬TSS (uT F) (uL F) rv' r' a->V1.cell? ⟨a,o,none⟩=some z:=λa o z hz hn=>by
         have m8:=X.ke hz
         rw[World.cell?_of_block (hs.1.block a (World.block_lt_of_cell? _ _ m8) hn)]
         exact m8
        have r4:=D.pP b2 (a4.o.off b2 rfl)
        exact⟨kk _ _ _ e5 (λe=>o1_ ((e9.o _ e).1)),kk _ _ _ E (λe=>(e9.o _ e).2 rfl),kk _ _ _ y2 (λe=>o1_ ((e9.o _ e).1)),kk _ _ _ z2 (λe=>by have:=g2.o _ e;have:=d9.o;omega)⟩)
       have m5:H_ (∀V r1 rv1 g1 T1,TbI (uT F) (uI F) (uL F) V r1 rv1 g1 T1->∀x∈T1,IfV x.d):=zy (λV r1 rv1 g1 T1 ht x hx=>(ht.t.q x hx).2.2.2);replace hi:=zy hi;have m9:=kp.o w7 (A_ _ _);clear e7 e8 d6 d8 d2 a5 a7 M7 B7 g4 o7 n8 a4 h2 z3 e0 g9 hf p9 kp b5 e1;clear E e5 y2 z2;go_upto_region 14 with fail;refine tr_ 18 (λV=>z_ V F.fb 5 (P_ F.tu)/\z_ V W.heap.size 1 (S_ b2 fw.length uc)/\z_ V b2 (i*4+2) (.iface hT h7)/\z_ V fq 2 (.iface Q gx)) ?_;refine tz_ 0 ?_;refine tz_ 1 ?_;refine tz_ 2 ?_;refine tz_ 3 ?_;refine tz_ 4 ?_;refine tz_ 5 ?_;refine tz_ 6 ?_;refine tz_ 7 ?_;refine tz_ 8 ?_;refine tz_ 9 ?_;refine tz_ 10 ?_;refine tz_ 11 ?_;refine tz_ 12 ?_;refine tz_ 13 ?_;refine tz_ 14 ?_;refine tz_ 15 ?_;refine zh 16 rfl K_ (λ_=>m9) (λK G=>?_);go_simp;apply(k7.o _ (A_ w7 _).drew).mono;rintro e w8 ⟨r1,rv1,g1,T1,z,rfl,hz,e6,ht,hs,hg⟩;refine G _ _ ?_;clear G K m9 k7;have c8:=n0.o _ w8 r1 rv1 (A_ w7 _).drew hs;obtain⟨⟨a0,a1,q0,q1⟩,t0,i4,i5⟩:=k9.o _ w8 r1 rv1 g1 T1 z (A_ w7 _).drew hz e6 ht hs hg;have sD:=λW a m=>run_store prog W a z.d m (m5.o w8 r1 rv1 g1 T1 ht z hz).one;replace i4:=zy i4;replace i5:=zy i5;clear hz e6 ht hs hg k9 m5 n0;generalize z.n=zn at *;generalize z.d=zd at *;refine t1_ 17 c8 ?_;refine t1_ 18 c8 ?_;refine td_ ?_ _;go_wp2;go_meet;exact⟨_,_,_,_,_,_,i4,i5⟩
     case rest=>
      obtain⟨ks,Dk,r1,rv1,g1,T1,M9,Y⟩:=hcut;clear e0 E e5 z2 z3 M7 B7 g4 o7 a4 b5 e1 g9 e7 e8 d6 d8 a7 a5 hw4 d9 h9 i0 i1 g2 i2 e9 b7 q7;obtain⟨hd,a8,g5⟩:=d2.o _ _ _ _ _ _ _ _ _ _ _ _ _ _ _ _ M9 hx Y;obtain⟨s4,s5,rfl⟩:=zw Y.o.row;replace a8:=zy a8;replace g5:=zy g5;go_upto_region 16 with fail;have hC:=zy (bC (w:=wc.drew) (zj Y.o.row (A_ wc N_).drew u_) Y.o.iv Y.o.le (by rw[Y.o.len];exact l9));have bq:=a8.o wc (A_ _ _);have q0:=bq.c0;have q1:=bq.c1;obtain⟨bb,f0⟩:=x_ (btr (jnN ks) n);have nx:=zy (g5.o bb f0);have i6:H_ (∀V kv,IfV kv->Calls prog 148 #[.agg #[I_ n,d],.agg #[Z_ (jnN ks:Int),kv]] V λe w'=>e=.returned (if bb=true then .agg #[Z_ (jnN ks:Int),kv] else .agg #[I_ n,d])/\Fr V w' N_):=zy (λV kv hk=>by rw[<- f0];exact pn hd hk);have p0:=zy hd.one;clear bq g5 d2 hd M9 f0;generalize jnN ks=jn at *;cases bb;all_goals
       simp only[if_true,bh_,if_false]at nx i6;refine tr_ 4 (λV=>z_ V qf 0 (I_ n)/\z_ V qf 1 d) ?_;refine tz_ 0 ?_;refine tz_ 1 ?_;refine zh 2 rfl K_ (λ_=>⟨q0,q1⟩) (λK G=>?_);go_simp;apply hC.o.mono;rintro e w8 ⟨kv,rfl,hk,f8,v0,v1⟩;refine G _ _ ?_;clear G K;have F8:=(A_ wc N_).drew.trans f8 u_;have b8:=a8.o w8 F8;have q8:=b8.c0;have q9:=b8.c1;have l0:=zy (λV=>i6.o V kv hk);have n2:=zy (λV2=>nx.o w8 kv V2 F8 hk v0 v1);have sK:=λW a m=>run_store prog W a kv m hk.one;have sD:=λW a m=>run_store prog W a d m p0;clear i6 nx v0 v1 f8 hk b8 hC;refine zh 3 rfl K_ (λ_=>⟨q8,q9⟩) (λK G=>?_);go_simp;apply(l0.o _).mono;rintro e w9 ⟨rfl,f9⟩;refine G _ _ ?_;clear G K q0 q1 q8 q9;have b9:=a8.o w9 (F8.trans f9 u_);have q0:=b9.c0;have q1:=b9.c1;have t0:=b9.th 0;have t1:=b9.th 1;have fn:=zy (n2.o w9 f9);clear f9 F8 l0 n2 b9 a8 Y;refine t1_ 4 ⟨q0,q1⟩ ?_;refine td_ ?_ _;go_wp2;go_roundg (fr.length+1-(j+1));case measure=>omega
       case rel=>exact⟨j+1,_,_,_,_,_,_,by simp,i8,l_,fn⟩
    .have p7:¬((j:Int)<(fr.length:Int)):=M_;obtain⟨hd,bf,b1,hP⟩:=fin.o _ _ _ _ _ _ _ _ _ _ _ _ M M_;have q0:=bf.cell 0;have q1:=bf.cell 1;have x0:=b1.cell 0;have x1:=b1.cell 1;have t0:=b1.th 0;have t1:=b1.th 1;have sD:=(λW a m=>run_store prog W a d m hd.one);have B8:=(b1.set 0 (I_ n)).set 1 d;have y0:=B8.cell 0;have y1:=B8.cell 1;simp only[am_,an_,aa_,ab_]at q0 q1 x0 x1 y0 y1;replace hP:=zy hP;clear B8 b1 bf hd M fin;go_wp2;refine bodyPost_ret (v:=.agg #[I_ n,d]) (by simp[results,results162,go_sem,y0,y1]) rfl ?_;exact hP
end Go.Proofs.YtlmebjdmdogmfaaGreatDoor
