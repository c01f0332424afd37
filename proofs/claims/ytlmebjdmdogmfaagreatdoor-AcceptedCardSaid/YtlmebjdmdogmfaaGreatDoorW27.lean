import Derived.Test.YtlmebjdmdogmfaaGreatDoorW26
import Derived.WideKeyPair
import Derived.DeepKeys4
set_option linter.unusedVariables false
set_option maxHeartbeats 16000000
set_option maxRecDepth 100000
set_option linter.defProp false
set_option linter.unusedSimpArgs false
open Go.Proofs.Tryz
namespace Go.Proofs.YtlmebjdmdogmfaaGreatDoor
open Go.RowKit
variable {p b un uc i:Nat}{rv ux:Ax}{g:Aq}{F:FD}{kl:Lit}
def kL(W:Aw)(R:Bt)(e:Ak)(w2:Aw):Prop:=∃(n:Nat) (d:Value),e=.returned (.agg #[I_ n,d])/\IfV d/\Blk w2 W.heap.size [O_,.nilIface] 85/\R (.returned (.agg #[I_ n,d])) ((w2.setCell ⟨W.heap.size,0,none⟩ (I_ n)).setCell ⟨W.heap.size,1,none⟩ d)
def yB.ret{α ρ:Type}{P:TP α ρ}{I:TI α}{L:TL}(c:P.OK I L){W f l:Aw}{r:ρ}{T:List (Rw α)}{a:α}{e:Ak}(h:TbI P I L W r rv g T)(hf:Fr W f N_)(hb:Blk f W.heap.size [O_,.nilIface] 85)(hp:yB P I L f r rv g T a e l):kL W (yB P I L W r rv g T a) e l:=by
 obtain⟨r',rv',g',T',n,d,rfl,hn,hd,q,hs,hg,hc,hv⟩:=hp;have hl:=λx (hx:TSS P L rv r x)=>(h.li c hx);have k:=hs.1.bl hb (λe=>o1_ (hl _ e));have m:L.fb<W.heap.size:=by have:=hl L.tb (.inl (.inl rfl));omega
 have j:=J_ l W.heap.size 0 1 (I_ n) d;have hs':=(C_ hf (λ_ h=>h)).trans hs;exact⟨n,d,rfl,hd,k,r',rv',g',T',n,d,rfl,hn,hd,q.put c m k j,⟨hs'.1.trans j (λx hx e=>M_),hs'.2⟩,hg,hc,c.svp _ _ _ _ _ _ _ _ hv k j⟩
section
variable {W:Aw} {R:Bt} {fb:Nat}
def cq6_{p:Prop}(h:p:=by
 refine hq_ λu r=>?_;have j:H_ (∀o,Fr W ((W.alloc (.cells #[O_,.nilIface] 85)).alloc o) N_/\Blk ((W.alloc (.cells #[O_,.nilIface] 85)).alloc o) W.heap.size [O_,.nilIface] 85):=zy (λo=>⟨((A_ W _).alloc _).alloc _,(B_ W _ _).alloc _⟩);have k:H_ (Fr W (W.alloc (.cells #[O_,.nilIface] 85)) N_/\Blk (W.alloc (.cells #[O_,.nilIface] 85)) W.heap.size [O_,.nilIface] 85):=zy ⟨(A_ W _).alloc _,B_ W _ _⟩;replace h:=zy h;go_in;go_wp2_with ((first|go_at_call 87|go_at_call 90|go_at_call 88);apply(h.o _ ?fr ?bl).mono;(case fr=>(first|exact(j.o _).1|exact k.o.1));(case bl=>(first|exact(j.o _).2|exact k.o.2));rintro e A ⟨n,d,rfl,hd,hb,f⟩;have s:=hb.cell 0;have t:=hb.cell 1;have y:=hb.th 0;have z:=hb.th 1;have x:=(λW a m=>run_store prog W a d m hd.one);have c:=(hb.set 0 (I_ n)).set 1 d;have l:=c.cell 0;have q:=c.cell 1;simp only[am_,an_,aa_,ab_]at s t l q;replace f:=zy f;clear c hb hd);refine bodyPost_ret (v:=.agg #[I_ n,d]) (by simp[results,results50,go_sem,l,q]) rfl ?_;rw[r.o];exact f.o):p:=h
def dE(h:∀W1,Fr W W1 N_->Blk W1 W.heap.size [O_,.nilIface] 85->Calls prog 87 #[.iface 136 (.agg #[])] W1 (kL W R)):Calls prog 50 #[P_ fb,.iface 215 (.agg #[I_ p])] W R:=by
 have cc6:=Nat
 exact cq6_
def oh(h:∀W1,Fr W W1 N_->Blk W1 W.heap.size [O_,.nilIface] 85->Calls prog 87 #[.iface 137 (.bool false)] W1 (kL W R)):Calls prog 50 #[P_ fb,.iface 217 (.agg #[I_ p])] W R:=by
 have cc5:=Nat
 exact cq6_
def JZ(h:∀W1,Fr W W1 N_->Blk W1 W.heap.size [O_,.nilIface] 85->Calls prog 87 #[.iface 139 (O_)] W1 (kL W R)):Calls prog 50 #[P_ fb,.iface 218 (.agg #[I_ p])] W R:=by
 have cc4:=Nat
 exact cq6_
def Yr(h:∀W1,Fr W W1 N_->Blk W1 W.heap.size [O_,.nilIface] 85->Calls prog 87 #[.iface 139 (O_)] W1 (kL W R)):Calls prog 50 #[P_ fb,.iface 219 (.agg #[I_ p])] W R:=by
 exact cq6_
def Yl(h:∀W1,Fr W W1 N_->Blk W1 W.heap.size [O_,.nilIface] 85->Calls prog 87 #[.iface 141 (.string ⟨#[]⟩)] W1 (kL W R)):Calls prog 50 #[P_ fb,.iface 220 (.agg #[I_ p])] W R:=by
 have cc3:=Nat
 exact cq6_
def Yd{vT:Av}{vx:Ax}(h:∀W1,Fr W W1 N_->Blk W1 W.heap.size [O_,.nilIface] 85->Calls prog 87 #[.iface 144 (L_)] W1 (kL W R)):Calls prog 50 #[P_ fb,.iface 222 (.agg #[I_ p,.iface vT vx])] W R:=by
 have cc2:=Nat
 exact cq6_
def Jo{vT:Av}{vx:Ax}(h:∀W1,Fr W W1 N_->Blk W1 W.heap.size [O_,.nilIface] 85->Calls prog 87 #[.iface 147 (L_)] W1 (kL W R)):Calls prog 50 #[P_ fb,.iface 223 (.agg #[I_ p,.iface vT vx])] W R:=by
 have cc1:=Nat
 exact cq6_
def ol{ua:Am}(h:∀W1,Fr W W1 N_->Blk W1 W.heap.size [O_,.nilIface] 85->Calls prog 88 #[P_ fb,.agg #[I_ p,.slice ua un uc]] W1 (kL W R)):Calls prog 50 #[P_ fb,.iface 226 (.agg #[I_ p,.slice ua un uc])] W R:=by
 have cc8:=Nat
 exact cq6_
def iZ{ua:Am}(h:∀W1,Fr W W1 N_->Blk W1 W.heap.size [O_,.nilIface] 85->Calls prog 90 #[P_ fb,.agg #[I_ p,.slice ua un uc]] W1 (kL W R)):Calls prog 50 #[P_ fb,.iface 231 (.agg #[I_ p,.slice ua un uc])] W R:=by
 have cc7:=Nat
 exact cq6_
def Yt{c:Nat}{f:Am}(hn:0<un)(hc:W.cell? ⟨b,1,none⟩=some (U_ c))(h:∀j,Fr W j N_->Blk j W.heap.size [O_,.nilIface] 85->Calls prog 87 #[.iface 154 (.agg #[U_ c,O_])] j (kL W R)):Calls prog 50 #[P_ fb,.iface 236 (.agg #[I_ p,S_ b un uc,.pointer f])] W R:=by
 refine hq_ λj q=>?_;obtain⟨w1,hw1⟩:=e_ ((W.alloc (.cells #[O_,.nilIface] 85)).alloc (.cells #[I_ p,S_ b un uc,.pointer f] 236));have j:Fr W w1 N_:=x9_
 have k:Blk w1 W.heap.size [O_,.nilIface] 85:=xg_
 have l:Blk w1 (W.heap.size+1) [I_ p,S_ b un uc,.pointer f] 236:=by
  rw[hw1];have:=B_ (W.alloc (.cells #[O_,.nilIface] 85)) #[I_ p,S_ b un uc,.pointer f] 236;rw[zm]at this;exact this
 have c1:=l.c1;have f:=j.ke hc;have f:(0:Int)<(un:Int):=M_;have f:=zy (h w1 j k);replace hw1:=zy hw1;go_in;go_upto_region 31 with fail;rw[<- hw1.o];go_wp2_with (go_at_call 87;apply f.o.mono;rintro e f ⟨n,d,rfl,hd,hb,j⟩;have k:=hb.cell 0;have l:=hb.cell 1;have f:=hb.th 0;have f:=hb.th 1;have f:=(λW a m=>run_store prog W a d m hd.one);have f:=(hb.set 0 (I_ n)).set 1 d;have x0:=f.cell 0;have x1:=f.cell 1;simp only[am_,an_,aa_,ab_]at k l x0 x1;replace j:=zy j);refine bodyPost_ret (v:=.agg #[I_ n,d]) yc_ rfl ?_;rw[q.o];exact j
def od{n0:Nat}(f:ql)(hn:n0<=9)(h:∀c x,Fr W c N_->Blk c W.heap.size [O_,.nilIface] 85->x.size=n0->cF x->Calls prog 87 #[.iface 155 (.string x)] c (kL W R)):Calls prog 50 #[P_ fb,.iface 238 (.agg #[I_ p,I_ n0])] W R:=by
 refine hq_ λc k=>?_;have j:H_ (∀o,Fr W ((W.alloc (.cells #[O_,.nilIface] 85)).alloc o) N_/\Blk ((W.alloc (.cells #[O_,.nilIface] 85)).alloc o) W.heap.size [O_,.nilIface] 85):=zy (λo=>⟨((A_ W _).alloc _).alloc _,(B_ W _ _).alloc _⟩);have c:=zy (λV=>f V n0 hn);replace h:=zy h;have n0:=eu 238 D_;go_in;go_wp2_with (first
  |(go_at_call 91;apply(c.o _).mono;rintro e c ⟨x,rfl,f5,f,c⟩;revert f5 f c;refine h_ λf5 f c=>?_)
  |(go_at_call 87;apply(h.o _ x ((j.o _).1.trans f5 u_) (f5.o.bl (j.o _).2 id) f c).mono;rintro e c ⟨n,d,rfl,hd,hb,f⟩;have j:=hb.cell 0;have l:=hb.cell 1;have c:=hb.th 0;have c:=hb.th 1;have c:=(λW a m=>run_store prog W a d m hd.one);have c:=(hb.set 0 (I_ n)).set 1 d;have x0:=c.cell 0;have x1:=c.cell 1;simp only[am_,an_,aa_,ab_]at j l x0 x1;replace f:=zy f))
 refine bodyPost_ret (v:=.agg #[I_ n,d]) yc_ rfl ?_;rw[k.o];exact f
end
def Yh(M:F.OK){W:Aw}{r:Unit}{T:Dr}{c m:Nat}{C:PB}(f:KOK (dT F) (dI F) (dL F) 89 (λv=>v.headD .nilIface) m)(h:TbI (dT F) (dI F) (dL F) W r rv g T)(hc:zY c=true)(hX:zx F.ds c=some C)(hm:300<=T.length+m):Calls prog 50 #[P_ F.fb,.iface 229 (.agg #[I_ p,U_ c])] W (yB (dT F) (dI F) (dL F) W r rv g T (.ty (.leaf c p))):=by
 obtain⟨O,G⟩:=y_ (yB (dT F) (dI F) (dL F) W r rv g T (.ty (.leaf c p)));rw[<- G.o];have l:=fG M;obtain⟨w1,hw1⟩:=e_ ((W.alloc (.cells #[O_,.nilIface] 85)).alloc (.cells #[I_ p,U_ c] 229));have y:Fr W w1 N_:=x9_
 have E:Blk w1 W.heap.size [O_,.nilIface] 85:=xg_
 have u:Blk w1 (W.heap.size+1) [I_ p,U_ c] 229:=by
  rw[hw1];have:=B_ (W.alloc (.cells #[O_,.nilIface] 85)) #[I_ p,U_ c] 229;rw[zm]at this;exact this
 have hl:=λx (hx:TSS (dT F) (dL F) rv r x)=>(h.li l hx);have cl:H_ (∀V,FX F V->Blk V (W.heap.size+1) [I_ p,U_ c] 229->V.cell? ⟨F.fb,4,none⟩=some (P_ F.tb)/\V.cell? ⟨F.fb,0,none⟩=some F.sv/\V.cell? ⟨F.fb,1,none⟩=some (.iface F.sT F.sx)/\V.cell? ⟨W.heap.size+1,1,none⟩=some (U_ c)):=zy (λV hx hb=>⟨hx.b.cell 4,hx.b.cell 0,hx.b.cell 1,hb.cell 1⟩);have X:H_ (∀V,Fr w1 V N_->Calls prog 71 #[.agg #[F.sv,.iface F.sT F.sx],U_ c] V (λe j=>∃q bx,e=.returned (.iface q bx)/\Fr V j N_/\Calls prog 89 #[P_ F.tb,.iface q bx] j (λe B=>FX F B/\Blk B (W.heap.size+1) [I_ p,U_ c] 229/\kL W O e B))):=zy (λV z=>by
  have J:=y.trans z u_
  have h1:=h.new l J
  apply(jp (rv:=.iface F.sT F.sx) c h1.i.D).mono
  rintro e j ⟨v,rfl,t,hv⟩
  rw[hX]at hv
  obtain⟨p',q,bx,rfl,hp,U,_⟩:=rP hv
  refine⟨q,bx,rfl,t,?_⟩
  have f3:=J.trans t u_
  have ok:okQ F (.bd p' C):=⟨hp,c,hX⟩
  apply(f j r rv g T (.bd p' C) [.iface q bx] (h.new l f3) ok ⟨⟨_,rfl,hv,U⟩,ok⟩ hm).mono
  intro e B k
  have C:=k
  obtain⟨r',rv',g',T',x,he,hx,ha,B,hs,hg⟩:=C
  have s:=z.trans t u_
  refine⟨B.i,hs.1.bl (s.bl u id) (λe=>o1_ (hl _ e)),?_⟩
  rw[G.o]
  exact yB.ret l h f3 (s.bl E id) (ju.name (xM hc) hX k))
 have H:=cl.o w1 (h.new l y).i u;replace hw1:=zy hw1;replace u:=zy u;replace h:=zy h;have B:=zy y;have S:H_ (∀V,Fr w1 V N_->FX F V):=zy (λV z=>(h.o.new l (B.o.trans z u_)).i);go_in;go_upto_region 25 with fail;rw[<- hw1.o];refine tr_ 13 (λV=>z_ V F.fb 4 (P_ F.tb)/\z_ V F.fb 0 F.sv/\z_ V F.fb 1 (.iface F.sT F.sx)/\z_ V (W.heap.size+1) 1 (U_ c)) ?_;refine tz_ 0 ?_;refine tz_ 1 ?_;refine tz_ 2 ?_;refine tz_ 3 ?_;refine tz_ 4 ?_;refine tz_ 5 ?_;refine tz_ 6 ?_;refine tz_ 7 ?_;refine tz_ 8 ?_;refine tz_ 9 ?_;refine tz_ 10 ?_;refine zh 11 rfl K_ (λ_=>H) (λK f=>?_);go_simp;apply(X.o _ (A_ w1 _).drew).mono;rintro e j ⟨q,bx,rfl,t,A⟩;refine f _ _ ?_;have s:=(A_ w1 N_).drew.trans t u_;have I:=cl.o j (S.o _ s) (s.bl u id);replace A:=zy A;refine zh 12 rfl K_ (λ_=>I) (λK f=>?_);go_simp;apply A.o.mono;rintro e j ⟨hx,L,n,d,rfl,hd,hb,l⟩;refine f _ _ ?_;have q:=cl.o j hx L;have j:=hb.cell 0;have u:=hb.cell 1;have f:=hb.th 0;have f:=hb.th 1;have f:=(λW a m=>run_store prog W a d m hd.one);have f:=(hb.set 0 (I_ n)).set 1 d;have x0:=f.cell 0;have x1:=f.cell 1;simp only[am_,an_,aa_,ab_]at j u x0 x1;replace l:=zy l;refine t1_ 13 q ?_;refine td_ ?_ _;go_wp2;refine bodyPost_ret (v:=.agg #[I_ n,d]) yc_ rfl ?_;exact l
def lO(f:F.OK)(E:ql){m:Nat}(z:KOK (dT F) (dI F) (dL F) 89 (λv=>v.headD .nilIface) m):FOK (dT F) (dI F) (dL F) 50 (P_ F.fb) (λv=>v.headD .nilIface) m:=by
 intro W r rv g T a v h ha hv hm;obtain⟨hv,y⟩:=hv;have j:=fG f;have A:300<=T.length+m:=hm;have al:∀{q:Qu} {T1:TypeId} {x1:Value},ClD F T q 1->(∀V J,svD F V J (QD F q) (QT F q) 1 (.iface T1 x1))->∀d,Fr W d N_->Blk d W.heap.size [O_,.nilIface] 85->Calls prog 87 #[.iface T1 x1] d (kL W (yB (dT F) (dI F) (dL F) W r rv g T q)):=λ{q T1 x1} hc hsv d hf hb=>nR.mono (λe B k=>by
  obtain⟨rfl,C⟩:=k
  exact yB.ret j h hf hb (yB.leaf f (h.new j hf) C hc (hsv _)))
 cases a with
 |ty t=>
  obtain⟨u,rfl,ty⟩:=hv;show Calls prog 50 #[P_ F.fb,u] W _;cases ty with
  |base c p hb=>
   have s:ClD F T (.ty (.leaf c p)) 1:=by
    show if zi c=true then (1:Nat)=1 else _;rw[i_ hb]
   simp only[zi,ax_,beq_iff_eq]at hb;rcases hb with(((rfl|rfl)|rfl)|rfl)|rfl
   .exact dE (al s (λ_ _=>BC))
   .exact oh (al s (λ_ _=>BU))
   .exact JZ (al s (λ_ _=>BH))
   .exact Yr (al s (λ_ _=>BL))
   .exact Yl (al s (λ_ _=>BM))
  |name c p hn=>
   have ho:=y.2.1;unfold okT at ho;rcases ho with ho|⟨_,X,hX⟩
   .rw[xM hn]at ho;cases ho
   .exact Yh f z h hn hX A
  |wrap c p ht=>
   obtain⟨M,O,rfl⟩:=ht.iface;have ho:=y.2.1;unfold okT at ho;rcases ho.1 with rfl|rfl
   .exact Yd (al rfl (λ_ _=>MF))
   .exact Jo (al rfl (λ_ _=>BP))
  |alts p X ho hP hX=>
   obtain⟨G,uc,rfl⟩:=zw ho;exact ol (λd hf hb=>(Qq f z (h.new j hf) (zj ho hf u_) hP (λi t e=>(hX i t e).fr hf u_) y A).mono (λe B k=>yB.ret j h hf hb k))
 |bd p X=>
  obtain⟨u,rfl,hb,hp⟩:=hv;show Calls prog 50 #[P_ F.fb,u] W _;cases hb with
  |recd p' ho hP hX hpp=>
   have e:(p':Int)=(p:Int):=by simpa[Ux] using hp
   obtain rfl:p'=p:=M_;obtain⟨G,uc,rfl⟩:=zw ho;exact iZ (λd hf hb=>(FR f z (h.new j hf) (zj ho hf u_) hP (hX.fr hf u_) y A).mono (λe B k=>yB.ret j h hf hb k))
  |enum p' ho hP hu hpp=>
   rename_i l o sv uv;obtain⟨c,q,I,rfl⟩:=Fh hpp;obtain⟨b,H,rfl⟩:=zg ho x7_;obtain⟨L,rfl⟩:=hu.ptr;obtain⟨_,k,hk⟩:=y;have hs:=(f.g k _ hk).1.2.1 (c,q) x7_;have hc:c<256:=by
    have:97<=c/\c<=122:=by simpa[zl] using hs
    omega
   exact Yt x7_ (zr ho rfl (by simp[zE])) (al rfl (λ_ _=>GO hc))
  |bytes p' n hpp=>
   exact od E (aB hpp) (λd x hf hb hx D=>by
    subst hx
    exact al (q:=.bd p (.bytes x.size)) rfl (λ_ _=>Kx D (aB hpp)) d hf hb)
def qF:∀c W,(callFunc 50 c).run prog W=.ok (.enter 50 c) W:=qZ func50 K_ rfl
def rJ(c:F.OK)(d:ql):∀m,KOK (dT F) (dI F) (dL F) 89 (λv=>v.headD .nilIface) m:=by
 intro m;induction m with
 |zero=>exact nf (oN c) (fG c) qF (λW a v h=>ZJ c h.1 h.2) M_ (λf e=>by cases e)
 |succ m ih=>exact nf (oN c) (fG c) qF (λW a v h=>ZJ c h.1 h.2) M_ (λf e=>by cases e;exact lO c d ih)
def bI(c:F.OK)(l:ql){W:Aw}{T:Dr}{t:PT}{uT:Av}(h:TbI (dT F) (dI F) (dL F) W () rv false T)(s:Gd (ClD F) T)(ty:TyV W F.P t (.iface uT ux))(ok:okQ F (.ty t)):Calls prog 158 #[P_ F.tb,.iface uT ux] W (cg (dT F) (dI F) (dL F) W () rv (.ty t)):=by
 have d:=fG c;have qv:(dT F).QV W (.ty t) [.iface uT ux]:=⟨⟨_,rfl,ty⟩,ok⟩
 have j:=@Kq Qu Unit (dT F) (λq=>Z_ (bo q:Int)) (okQ F) bo 300 F.fb F.tb F.mb (.func (.methodOf 46 "Place") #[] #[]) (.func (.func 50) #[P_ F.fb] #[]) W () rv T (.ty t) uT ux (oN c) d h s qv M_
 have s:dI F=ID (λq=>Z_ (bo q:Int)) (okQ F) bo 300:=rfl
 have y:dL F=⟨F.fb,F.tb,F.mb,.func (.methodOf 46 "Place") #[] #[],.func (.func 50) #[P_ F.fb] #[]⟩:=rfl
 rw[<- s,<- y]at j;refine j ?_ ?_ ?_
 .intro V j;have s:=d.qv _ _ _ _ _ qv j (λ_ f=>f.elim);have k:=rJ c l 300 V () rv false T (.ty t) [.iface uT ux] (h.new d j) ok s (by show 300<=_;omega);exact k
 .intro V r rv g T j s ha;have k:=mC (oN c) d (λW a v h=>ZJ c h.1 h.2) j s ha;exact k
 .intro V r rv g T i x j hx;have y:=ah_ hx;have k:=PE (oN c) d (λw n m dv kv=>jA) qF j hx (λW' u s e=>by
   have k:=lO c l (rJ c l 300) W' r rv g T x.a x.v (j.new d s) (j.t.q x y).1 (d.qv _ _ _ _ _ (j.v x y).2 s (λ_ f=>f.elim)) (by show 300<=_;omega)
   rw[e]at k
   exact k)
  exact k
section
variable {α ρ:Type} {P:TP α ρ} {kv:α->Value} {Q:α->Prop} {num:α->Nat} {N fb tb mb:Nat} {kf:Ax} {fn:Et} {fa:Ax}
def TbI.cellsU{W:Aw}{r:ρ}{T:List (Rw α)}{L:TL}(h:TbI P (IU kv Q num N) L W r rv g T){x:Rw α}(hx:T[i]?=some x):∃b j u u',rv=S_ b T.length j/\x.v=[u,u']/\W.cell? ⟨b,i*4,none⟩=some u/\W.cell? ⟨b,i*4+1,none⟩=some u'/\W.cell? ⟨b,i*4+2,none⟩=some (I_ x.n)/\W.cell? ⟨b,i*4+2+1,none⟩=some x.d/\W.frozen? ⟨b,i*4+2,none⟩=false/\W.frozen? ⟨b,i*4+2+1,none⟩=false:=by
 obtain⟨b,j,e,h1⟩:=h.t.cell hx;have hl:x.v.length=2:=(h.t.q x (ah_ hx)).2.1;obtain⟨u,u',hu⟩:∃u u',x.v=[u,u']:=by
  match hv:x.v,hl with
  | [u,u'],_=>exact⟨u,u',rfl⟩
 have k:=h1 0 (by show 0<2+2;omega);have l:=h1 1 (by show 1<2+2;omega);have c:=h1 2 (by show 2<2+2;omega);have f:=h1 3 (by show 3<2+2;omega);simp only[Rw.cells,hu]at k l c f;exact⟨b,j,u,u',e,hu,k.1,l.1,c.1,f.1,c.2,f.2⟩
def PI{W:Aw}{r:ρ}{T:List (Rw α)}{x:Rw α}(C:(IU kv Q num N).OK)(f:P.OK (IU kv Q num N) ⟨fb,tb,mb,kf,.func (.func fn) #[fa] #[]⟩)(hB:∀(w:World) (n m:Nat) (dv kv:Value),Calls prog 202 #[.agg #[I_ n,dv],.agg #[I_ m,kv]] w λe w'=>e=.returned (.bool (btr n m))/\Fr w w' N_)(X:∀X W,(callFunc fn X).run prog W=.ok (.enter fn X) W)(h:TbI P (IU kv Q num N) ⟨fb,tb,mb,kf,.func (.func fn) #[fa] #[]⟩ W r rv g T)(hx:T[i]?=some x)(A:∀W' u u',Fr W W' N_->x.v=[u,u']->Calls prog fn #[fa,.agg #[u,u']] W' (yB P (IU kv Q num N) ⟨fb,tb,mb,kf,.func (.func fn) #[fa] #[]⟩ W' r rv g T x.a)):Calls prog 55 #[P_ tb,I_ i] W (cm P (IU kv Q num N) ⟨fb,tb,mb,kf,.func (.func fn) #[fa] #[]⟩ W r rv g T i):=by
 obtain⟨U,D⟩:=y_ (cm P (IU kv Q num N) ⟨fb,tb,mb,kf,.func (.func fn) #[fa] #[]⟩ W r rv g T i);rw[<- D.o];obtain⟨b,Y,u,u',rfl,hu,I,J,X,e2,-,-⟩:=h.cellsU hx;have hi:=(aj_.1 hx).1;have a3:(i:Int)<(T.length:Int):=M_;have c1:=h.t.b.c1;have c2:=h.t.b.c2;have L:=zy (λW' hW=>A W' u u' hW hu);replace h:=zy h;replace hx:=zy hx;replace hB:=zy hB;go_in;go_upto_region 0 with fail;go_cut [4] (λv V=>∃q r' rv' g' T' n d,v=P_ q/\H_ (LkM P (IU kv Q num N) ⟨fb,tb,mb,kf,.func (.func fn) #[fa] #[]⟩ W r (S_ b T.length Y) g T x.a q r' rv' g' T' n d V));case first=>
  refine tr_ 12 (λV=>z_ V tb 1 (.func (.func fn) #[fa] #[])/\z_ V tb 2 (S_ b T.length Y)/\z_ V b (i*4) u/\z_ V b (i*4+1) u') ?_;refine tB_ 0 [1,2,3,12] ?_;refine tB_ 1 [2,3,12] ?_;refine tB_ 2 [3,12] ?_;refine tB_ 3 [12] ?_;refine tB_ 4 [5,6,7,9,10,11,12] ?_;refine tB_ 5 [6,7,9,10,11,12] ?_;refine tB_ 6 [7,9,10,11,12] ?_;refine tB_ 7 [9,10,11,12] ?_;refine tB_ 8 [9,10,11,12] ?_;refine tB_ 9 [10,11,12] ?_;refine tB_ 10 [11,12] ?_;refine tB_ 11 [12] ?_;refine jV 12 13 rfl rfl K_ (λ_=>⟨c1,c2,I,J⟩) (λK k=>?_) (λK k=>?_)
  .go_simp;apply(L.o _ (A_ W _).drew).mono;rintro e w1 ⟨r',rv',g',T',n,d,rfl,hn,hd,c,hs,hg,hc,hv⟩;refine k _ _ ?_;have sD:=λW a m=>run_store prog W a d m hd.one;have j:=(A_ w1 N_).alloc (.cells #[I_ n,d] 85);have fin:=zy (LkM.new f h (A_ W _).drew hn hd (c.new f j) (hs.trans (C_ j (λ_ h=>h))) hg hc (f.sv _ _ _ _ _ _ _ hv (C_ j (λ_ h=>h))) (B_ w1 #[I_ n,d] 85) hs.1.size);refine t0_ 13 ?_;refine t0_ 14 ?_;refine td_ ?_ _;go_wp2;go_meet;exact⟨_,_,_,_,_,_,_,rfl,fin⟩
  .go_simp;refine k _ _ ?_;have j:=(A_ W N_).alloc (.cells #[O_,.nilIface] 85);have B:=B_ W #[O_,.nilIface] 85;have s:=((h.o.t.new j).b.cell 1);have z:=((h.o.t.new j).b.cell 2);have E:(W.alloc (.cells #[O_,.nilIface] 85)).cell? ⟨b,i*4,none⟩=some u:=by
    have:=j.block b (h.o.t.li (x:=b) (.inr (.inr rfl))).2 id;rw[World.cell?_of_block this];exact I
   have G:(W.alloc (.cells #[O_,.nilIface] 85)).cell? ⟨b,i*4+1,none⟩=some u':=by
    have:=j.block b (h.o.t.li (x:=b) (.inr (.inr rfl))).2 id;rw[World.cell?_of_block this];exact J
   simp only[aa_,ab_]at s z;refine zh 12 rfl K_ (λ_=>⟨s,z,E,G⟩) (λK k=>?_);go_simp;apply(L.o _ j.drew).mono;rintro e w1 ⟨r',rv',g',T',n,d,rfl,hn,hd,c,hs,hg,hc,hv⟩;refine k _ _ ?_;have sD:=λW a m=>run_store prog W a d m hd.one;have l:Blk w1 W.heap.size [O_,.nilIface] 85:=hs.1.bl B.drew (λe=>absurd (h.o.li f e).2 (a2_ _));have fin:=zy (LkM.of f h j.drew hn hd c hs hg hc hv l l_);have k0:=l.c0;have H:=l.c1;have H:=l.th 0;have H:=l.th 1;refine t0_ 14 ?_;refine td_ ?_ _;go_wp2;go_meet;exact⟨_,_,_,_,_,_,_,rfl,fin⟩
 case rest=>
  obtain⟨q,r',rv',g',T',n,d,rfl,hM⟩:=hcut;obtain⟨hn,hd,c,hs,hg,hc,hv,hb,I,I⟩:=hM.o;obtain⟨R,rfl,Z,g2,g3⟩:=hg;have B:(T++R)[i]?=some x:=by rw[ar_ hi];exact hx
  obtain⟨j,H,I,I,rfl,hu,a0,a9,E,G,s,z⟩:=c.cellsU B;have I:(i:Int)<((T++R).length:Int):=by rw[ag_];omega
  have a1:=((c.t.q x (ah_ B)).2.2.2).one;have c2:=c.t.b.c2;have t4:=c.t.b.th 4;have c4:=c.t.b.c4;have O:=hb.c0;have S:=hb.c1;have I:=λW a m=>run_store prog W a d m hd.one;have I:=rC;have I:j≠tb:=λe=>(c.t.apart C).2.1 zo_;have J:=Ne.symm I;have no:H_ (∀V,Fr wc V N_->btr n x.n=false->U (.returned (.tuple #[])) V):=zy (λV l e=>by
   rw[D.o]
   exact⟨r',_,g',T++R,rfl,c.new f l,hs.trans (C_ l (λ_ h=>h)),R,Z,.inl ⟨rfl,g2,λe'=>⟨g3 e',λy hy=>by rw[hx.o]at hy;cases hy;exact⟨n,hc,e⟩⟩⟩⟩)
  have a2:H_ (∀V,Fr wc V N_->btr n x.n=true->U (.returned (.tuple #[])) (((V.setCell ⟨j,i*4+2,none⟩ (I_ n)).setCell ⟨j,i*4+2+1,none⟩ d).setCell ⟨tb,4,none⟩ (.bool true)).drew):=zy (λV l e=>by
   have h1:=c.new f l
   have I:=((h1.t.set C B hn hd).flag C true).new (A_ _ _).drew
   have A:Fr V (((V.setCell ⟨j,i*4+2,none⟩ (I_ n)).setCell ⟨j,i*4+2+1,none⟩ d).setCell ⟨tb,4,none⟩ (.bool true)).drew (TbS tb mb (S_ j (T++R).length H)):=(((J_ V j _ _ _ _).mono (λx _ e=>.inr (.inr zo_))).setCell _ _ (λ_=>.inl rfl)).drew
   have h3:=h1.turn f (rv':=S_ j (T++R).length H) ⟨A,λ_ _ h=>h⟩ I (λy hy=>by
    rcases List.mem_or_eq_of_mem_set hy with hy|rfl
    .exact .inl hy
    .refine .inr ⟨f.sv _ _ _ _ _ _ _ (f.sv _ _ _ _ _ _ _ hv (C_ l (λ_ h=>h))) ⟨A.mono (λ_ _ e=>.inl e),λ_ _ h=>h⟩,?_⟩
     exact f.qv _ _ _ _ _ (h1.v x (ah_ B)).2 A (λy hy=>(h1.t.li hy).1))
   rw[D.o]
   exact⟨r',_,true,_,rfl,h3.1,(hs.trans (C_ l (λ_ h=>h))).trans h3.2,R,λ_=>rfl,.inr ⟨rfl,x,n,d,hx,e,hn,rfl⟩⟩)
  generalize x.n=xn at *;generalize x.d=xd at *;generalize (T++R).length=M at *;go_wp2;refine tr_ 10 (λV=>z_ V tb 2 (S_ j M H)/\z_ V q 0 (I_ n)/\z_ V q 1 d/\z_ V j (i*4+2) (I_ xn)/\z_ V j (i*4+2+1) xd) ?_;refine tB_ 0 [1,10] ?_;refine tB_ 1 [10] ?_;refine tB_ 2 [3,4,5,7,8,9,10] ?_;refine tB_ 3 [4,5,7,8,9,10] ?_;refine tB_ 4 [5,7,8,9,10] ?_;refine tB_ 5 [7,8,9,10] ?_;refine tB_ 6 [7,8,9,10] ?_;refine tB_ 7 [8,9,10] ?_;refine tB_ 8 [9,10] ?_;refine tB_ 9 [10] ?_;refine zh 10 rfl K_ (λ_=>⟨c2,O,S,E,G⟩) (λK k=>?_);go_simp;apply(hB.o _ n xn d xd).mono;rintro e w2 ⟨rfl,f⟩;refine k _ _ ?_;have c:Fr wc w2 N_:=(A_ wc _).drew.trans f u_;have k:=c.keepF E s;have k:=c.keepF G z;have k:=c.keepF c4 t4;have k:=c.ke c2;have l:=c.ke c4;have l:=c.ke O;have A:=c.ke S;replace E:=c.ke E;replace G:=c.ke G;replace c:=zy c;refine td_ ?_ _;cases f:btr n xn
  .go_wp2;go_end0;exact no.o _ c f
  .go_wp2;refine tr_ 8 (λV=>z_ V tb 2 (S_ j M H)/\z_ V q 0 (I_ n)/\z_ V q 1 d) ?_;refine tz_ 0 ?_;refine tz_ 1 ?_;refine tz_ 2 ?_;refine tz_ 3 ?_;refine tz_ 4 ?_;refine tz_ 5 ?_;refine tB_ 6 [7,8] ?_;refine tz_ 7 ?_;refine t1_ 8 ⟨k,l,A⟩ ?_;refine td_ ?_ _;go_wp2;go_end0;exact a2.o _ c f
end
def Wc:laidOutB prog=true:=K_
def PU:WideMaps.ArrKey prog 93 3 2:=⟨K_,K_,K_,K_⟩
def QL:Tryz.prog.underlying 132=some (.map 93 3):=K_
def GT:Tryz.prog.underlying 131=some (.slice 243):=K_
def Ue:(Tryz.prog.info? 243).map (λi=>(i.zero,i.size,i.bytes))=some (some (.agg #[.nilIface,.nilIface,O_,.nilIface]),4,56):=K_
def fR:Maps.Keyed prog 93:=Maps.Keyed.of_law (deep_law_laid Wc (m:=2) M_ (of_decide_eq_true K_) K_ (by rw[PU.hu]))
def lJ{a:Nat}(ha:a<=1000000)(hb:b<=1000000):∃l,keyOf prog 93 (.agg #[I_ a,I_ b])=some l:=
 ⟨_,WideMaps.keyOf_pair PU qV ⟨454-1,K_⟩ (WalkArith.wf_i64 M_) (WalkArith.wf_i64 M_)⟩
def Kz{s:BA}{t t':PT}(h:wK s t)(c:wK s t')(e:t.place=t'.place):t=t':=by
 obtain⟨j,h1⟩:=h;obtain⟨j',d⟩:=c;rw[e,d]at h1;cases h1;rfl
def Xo(c:F.OK):(uI F).OK:=by
 have lt:∀a,uQ F a->a.1.place<300/\a.2.place<300:=λa ha=>by
  have h1:=lQ ha.1.1;have d:=lQ ha.2.1;have:=c.hs;have:=c.hs';omega
 have inj:∀a b,uQ F a->uQ F b->a.1.place=b.1.place->a.2.place=b.2.place->a=b:=λa b ha hb e e'=>Prod.ext (Kz ha.1.1 hb.1.1 e) (Kz ha.2.1 hb.2.1 e');refine⟨by show 134≠243;decide,fR,λa ha=>lJ (o1_ (lt a ha)) (o1_ (lt a ha)),λa b ha hb e=>?_,λa ha=>?_,λa b ha hb e=>?_⟩
 .have e':Value.agg #[I_ a.1.place,I_ a.2.place]=.agg #[I_ b.1.place,I_ b.2.place]:=e;simp only[Value.agg.injEq,Array.mk.injEq,List.cons.injEq,Value.int.injEq,true_and,and_true]at e';exact inj a b ha hb M_ M_
 .have:=lt a ha;show a.1.place*300+a.2.place<90000;omega
 .have h1:=lt a ha;have d:=lt b hb;have e':a.1.place*300+a.2.place=b.1.place*300+b.2.place:=e;exact inj a b ha hb M_ M_
section
variable {o:Db} {a:Act} {K:Dx} {Q:Aa} {w:Aw}
def XP(m x:Operand)(ho:o.op=Op.lookup 132 m x true){n:Nat}{D:DataW Unit}{key:Ax}(hm:a.eval m=.map (some b))(e:w.ownsMap prog 93 (plainElem prog 3) b n D)(hx:a.eval x=key)(d:keyOf prog 93 key=some kl)(h:∀c:Int,D.atKey kl (.lit (.int .i64 0))=.lit (.int .i64 c)->K (a.put o.dst (.tuple #[.int .i64 c,.bool (Maps.has D kl)])) w):o.wp prog a w K Q:=by
 obtain⟨v,j,f,hv⟩:=e.look_ok fR QL (Qa w) (plainElem_int qV D_) d;obtain⟨c,rfl,hc,d⟩:=plainElem_int_inv qV hv;unfold Oper.wp;simp[execOp,ho,hm,hx,f,Result.andThen];exact h c (congrArg Prod.fst hc)
def Uj(m x v:Operand)(ho:o.op=Op.mapUpdate 132 m x v){n:Nat}{D:DataW Unit}{key:Ax}{z:Nat}(hm:a.eval m=.map (some b))(d:w.ownsMap prog 93 (plainElem prog 3) b n D)(hn:n<=1000000)(hx:a.eval x=key)(c:keyOf prog 93 key=some kl)(hv:a.eval v=I_ z)(hz:z<=1000000)(h:∀w',w'.ownsMap prog 93 (plainElem prog 3) b (n+1) (D.put kl (.lit (.int .i64 (z:Int))))->w.grownBy w' (some b)->K (a.put o.dst undef) w'):o.wp prog a w K Q:=by
 obtain⟨w',e,r1,f⟩:=d.update fR QL xt_ c (plainElem_int qV (WalkArith.wf_i64 (by omega : -9223372036854775808<=(z:Int)/\(z:Int)<=9223372036854775807)));unfold Oper.wp;simp[execOp,ho,hm,hx,hv,e,Result.andThen];exact h w' r1 f
def Uq(s x:Operand)(ho:o.op=.call { callee:=.builtin .append,args:=#[s,x],argTypes:=#[131,131] }){B g n:Nat}{v c0 c1 c2 c3:Ax}{xs:Ay}(hb:w.ownsRow B 243 4 v n xs)(c:n<=1000000)(hB:B<=w.heap.size)(hg:g=w.heap.size)(hs:a.eval s=v)(hx:a.eval x=S_ g 1 1)(h0:c0.oneCell'=true)(h1:c1.oneCell'=true)(d:c2.oneCell'=true)(e:c3.oneCell'=true)(h:∀c w',w'.ownsRow B 243 4 c (n+1) (xs++[c0,c1,c2,c3])->(w.alloc (.cells #[c0,c1,c2,c3] 243)).grownBy w' v.ownBlock->(c.ownBlock=v.ownBlock\/c.ownBlock=some (w.alloc (.cells #[c0,c1,c2,c3] 243)).heap.size)->K (a.put o.dst c) w'):o.wp prog a (w.alloc (.cells #[c0,c1,c2,c3] 243)) K Q:=by
 obtain⟨ti,f,j,k,l⟩:=info_parts Ue;obtain⟨r,t,hr,q,c,_,m⟩:=run_append_own_at (P:=prog) (w.alloc (.cells #[c0,c1,c2,c3] 243)) B 131 o.type 243 ti _ 4 56 GT f j k l rfl D_ _ n xs (World.ownsRow.alloc hb _) ⟨g,0,none⟩ 1 1 [c0,c1,c2,c3] rfl (zK _ #[c0,c1,c2,c3] _ _ hg) (by simp[h0,h1,d,e]) xt_ M_ x1_;unfold Oper.wp execOp;simp only[ho,resolve,invoke,builtin,Sem.run_bind,Sem.run_pure,Result.andThen_ok,List.map_toArray,aw_,be_,hs,hx,hr];exact h r t q c m
end
def kO{W:Aw}{uT f:Av}{h:Ax}{k c:Nat}(hm:∀W,(method 554 uT ux "Place").run prog W=.ok (72,I_ k) W)(B:∀W,(method 554 f h "Place").run prog W=.ok (72,I_ c) W):Calls prog 52 #[.agg #[.iface uT ux,.iface f h]] W λe w'=>e=.returned (.agg #[I_ k,I_ c])/\Fr W w' N_:=by
 obtain⟨z,t⟩:=y_ (λ(e:Ending) (w':World)=>e=.returned (.agg #[I_ k,I_ c])/\Fr W w' N_);rw[<- t.o];obtain⟨w1,hw1⟩:=e_ ((W.alloc (.cells #[.iface uT ux,.iface f h] 92)).alloc (.cells #[O_,O_] 93));have r:Fr W w1 N_:=x9_
 have m:Blk w1 W.heap.size [.iface uT ux,.iface f h] 92:=xg_
 have s:Blk w1 (W.heap.size+1) [O_,O_] 93:=by
  rw[hw1];have:=B_ (W.alloc (.cells #[.iface uT ux,.iface f h] 92)) #[O_,O_] 93;rw[zm]at this;exact this
 have c0:=m.c0;have c1:=m.c1;replace hw1:=zy hw1;go_in;go_upto_region 1 with fail;rw[<- hw1.o];refine tr_ 7 (λV=>z_ V W.heap.size 0 (.iface uT ux)/\z_ V W.heap.size 1 (.iface f h)) ?_;refine tz_ 0 ?_;refine tz_ 1 ?_;refine tz_ 3 ?_;refine tz_ 4 ?_;refine zh 2 rfl K_ (λ_=>⟨c0,c1⟩) (λK j=>?_);go_simp;apply(xp (k:Int) _).mono;rintro e A ⟨rfl,f⟩;refine j _ _ ?_;clear j K;have l:Fr w1 A N_:=by rw[f];exact(A_ w1 _).drew
 clear f;refine zh 5 rfl K_ (λ_=>⟨l.ke c0,l.ke c1⟩) (λK j=>?_);go_simp;apply(xp (c:Int) _).mono;rintro e q ⟨rfl,f⟩;refine j _ _ ?_;clear j K;have f3:Fr w1 q N_:=by rw[f];exact l
 clear f l;have d:=f3.bl s id;have f:=d.cell 0;have h:=d.cell 1;have j:=d.th 0;have j:=d.th 1;have n:=(d.set 0 (I_ k)).set 1 (I_ c);have u:=n.cell 0;have y:=n.cell 1;simp only[am_,an_,aa_,ab_]at f h u y;have fin:H_ (z (.returned (.agg #[I_ k,I_ c])) ((q.setCell ⟨W.heap.size+1,0,none⟩ (I_ k)).setCell ⟨W.heap.size+1,1,none⟩ (I_ c))):=zy (by
  rw[t.o]
  exact⟨rfl,(r.trans f3 u_).trans (J_ q (W.heap.size+1) 0 1 _ _) (λx hx e=>M_)⟩)
 have c3:=f3.ke c0;have c4:=f3.ke c1;clear n d s m r f3;refine t1_ 6 ⟨c3,c4⟩ ?_;refine t1_ 7 ⟨c3,c4⟩ ?_;refine td_ ?_ _;go_wp2;refine bodyPost_ret (v:=.agg #[I_ k,I_ c]) (by simp[results,results52,go_sem,u,y]) rfl ?_;exact fin
section
variable {α ρ:Type} {P:TP α ρ} {kv:α->Value} {Q:α->Prop} {num:α->Nat} {N fb tb mb:Nat} {fn:Et} {fa:Ax}
def Yi{W:Aw}{r:ρ}{rv:Ax}{g:Aq}{T:List (Rw α)}{i:Nat}{x:Rw α}{uT A:Av}{ux G:Ax}{k z:Nat}{kl:Lit}(S:P.OK (IU kv Q num N) ⟨fb,tb,mb,.func (.func 52) #[] #[],.func (.func fn) #[fa] #[]⟩)(h:TbI P (IU kv Q num N) ⟨fb,tb,mb,.func (.func 52) #[] #[],.func (.func fn) #[fa] #[]⟩ W r rv g T)(hx:T[i]?=some x)(hk:kv x.a=.agg #[I_ k,I_ z])(a2:keyOf prog 93 (.agg #[I_ k,I_ z])=some kl)(hm:∀W,(method 554 uT ux "Place").run prog W=.ok (72,I_ k) W)(a3:∀W,(method 554 A G "Place").run prog W=.ok (72,I_ z) W):Calls prog 54 #[P_ tb,.agg #[.iface uT ux,.iface A G]] W (tZ P (IU kv Q num N) ⟨fb,tb,mb,.func (.func 52) #[] #[],.func (.func fn) #[fa] #[]⟩ W r rv g T x.a):=by
 obtain⟨a5,Q_⟩:=y_ (tZ P (IU kv Q num N) ⟨fb,tb,mb,.func (.func 52) #[] #[],.func (.func fn) #[fa] #[]⟩ W r rv g T x.a);rw[<- Q_.o];have a0:=ah_ hx;obtain⟨w1,hw1⟩:=e_ ((W.alloc (.cells #[.iface uT ux,.iface A G] 92)).alloc (.cells #[O_,.nilIface] 85));have A1:Fr W w1 N_:=x9_
 have B0:Blk w1 W.heap.size [.iface uT ux,.iface A G] 92:=xg_
 have B1:Blk w1 (W.heap.size+1) [O_,.nilIface] 85:=by
  rw[hw1];have:=B_ (W.alloc (.cells #[.iface uT ux,.iface A G] 92)) #[O_,.nilIface] 85;rw[zm]at this;exact this
 have h1:=h.new S A1;have c0:=h1.t.b.c0;have L:=B0.c0;have O:=B0.c1;have hi:=(aj_.1 hx).1;have a7:(i:Int)<(T.length:Int):=M_;have a4:=((h.t.q x a0).2.2.2);have s1:=λW a m=>run_store prog W a x.d m a4.one;have rest:H_ (∀V,Fr w1 V N_->∃D b I,rv=S_ b T.length I/\V.ownsMap prog 93 (plainElem prog 3) mb T.length D/\Maps.has D kl=true/\D.atKey kl (.lit (.int .i64 0))=.lit (.int .i64 (i:Int))/\V.cell? ⟨tb,3,none⟩=some (.map (some mb))/\V.cell? ⟨tb,2,none⟩=some (S_ b T.length I)/\V.cell? ⟨b,i*4+2,none⟩=some (I_ x.n)/\V.cell? ⟨b,i*4+2+1,none⟩=some x.d/\Blk V (W.heap.size+1) [O_,.nilIface] 85/\a5 (.returned (.agg #[I_ x.n,x.d])) ((V.setCell ⟨W.heap.size+1,0,none⟩ (I_ x.n)).setCell ⟨W.heap.size+1,1,none⟩ x.d).drew):=zy (λV Z=>by
  have hf:=A1.trans Z u_
  have J:=h.new S hf
  obtain⟨D,C,a6⟩:=J.t.map
  obtain⟨hh,E⟩:=(a6 x.a _ (h.t.q x a0).1 (show keyOf prog 93 (kv x.a)=_ by rw[hk];exact a2)).1 i x hx rfl
  obtain⟨b,I,u,u',rfl,hu,e0,e9,e1,e2,-,-⟩:=J.cellsU hx
  have f:=Z.bl B1 id
  have hF:=(J_ V (W.heap.size+1) 0 1 (I_ x.n) x.d).drew
  refine⟨D,b,I,rfl,C,hh,E,J.t.b.cell 3,J.t.b.cell 2,e1,e2,f,?_⟩
  rw[Q_.o]
  have a8:fb<tb/\tb<W.heap.size:=(h.t.li (x:=tb) (.inl rfl))
  exact⟨x,rfl,a0,rfl,J.put S yq_ f hF,⟨(hf.mono v_).trans hF (λy hy e=>M_),λ_ _ e=>e⟩⟩)
 generalize x.n=xn at *;generalize x.d=xd at *;replace hw1:=zy hw1;go_in;go_upto_region 1 with fail;rw[<- hw1.o];go_cut [5] (λv V=>∃q,v=P_ q/\H_ (Fr w1 V N_)/\H_ (Blk V q [I_ k,I_ z] 93));case first=>
  refine tr_ 7 (λV=>z_ V tb 0 (.func (.func 52) #[] #[])/\z_ V W.heap.size 0 (.iface uT ux)/\z_ V W.heap.size 1 (.iface A G)) ?_;refine tz_ 0 ?_;refine tz_ 1 ?_;refine tz_ 2 ?_;refine tz_ 3 ?_;refine tz_ 4 ?_;refine jV 5 6 rfl rfl K_ (λ_=>⟨c0,L,O⟩) (λK l=>?_) (λK l=>?_)
  .go_simp;apply(kO hm a3).mono;rintro e H ⟨rfl,B⟩;refine l _ _ ?_;have j:Fr w1 H N_:=(A_ w1 _).drew.trans B u_;have fin:=zy (j.alloc (.cells #[I_ k,I_ z] 93));have a1:=zy (B_ H #[I_ k,I_ z] 93);have U:=j.ke c0;have X:=j.ke L;have Y:=j.ke O;have s:=λo=>(A_ H N_).alloc o;refine t1_ 6 ⟨U,X,Y⟩ ?_;refine t1_ 7 ⟨(s _).ke U,(s _).ke X,(s _).ke Y⟩ ?_;refine td_ ?_ _;go_wp2;go_meet;exact⟨_,rfl,fin,a1⟩
  .go_simp;refine l _ _ ?_;have s:=(A_ w1 N_).alloc (.cells #[O_,O_] 93);have f:=B_ w1 #[O_,O_] 93;refine zh 5 rfl K_ (λ_=>⟨s.ke c0,s.ke L,s.ke O⟩) (λK l=>?_);go_simp;apply(kO hm a3).mono;rintro e H ⟨rfl,B⟩;refine l _ _ ?_;have j:Fr w1 H N_:=s.drew.trans B u_;have A:=B.bl f.drew id;have fin:=zy (j.trans (J_ H w1.heap.size 0 1 (I_ k) (I_ z)) (λx hx e=>M_));have a1:=zy ((A.set 0 (I_ k)).set 1 (I_ z));have U:=j.ke c0;have X:=j.ke L;have Y:=j.ke O;have k0:=A.c0;have G:=A.c1;have t0:=A.th 0;have t1:=A.th 1;refine t1_ 7 ⟨U,X,Y⟩ ?_;refine td_ ?_ _;go_wp2;go_meet;exact⟨_,rfl,fin,a1⟩
 case rest=>
  obtain⟨q,rfl,Z,hB⟩:=hcut;obtain⟨D,b,I,rfl,C,hh,E,d3,j,e1,e2,f,fin⟩:=rest.o _ Z;have q0:=hB.o.c0;have q1:=hB.o.c1;replace C:=zy C;replace E:=zy E;generalize T.length=M at *;go_wp2;refine tr_ 10 (λV=>z_ V tb 3 (.map (some mb))/\z_ V q 0 (I_ k)/\z_ V q 1 (I_ z)) ?_;refine tz_ 0 ?_;refine tz_ 1 ?_;refine tz_ 2 ?_;refine tz_ 3 ?_;refine tz_ 4 ?_;refine zh 5 rfl K_ (λ_=>⟨d3,q0,q1⟩) (λK l=>?_);rw[i_ (show Region.wanted _ _=true by kernel_rfl)];refine XP _ _ rfl rfl C rfl a2 ?_;intro c hc;refine l _ _ ?_;rw[E.o]at hc;simp only[DataW.lit.injEq,Lit.int.injEq,true_and]at hc;subst hc;rw[hh];refine tz_ 6 ?_;refine tz_ 7 ?_;refine tz_ 8 ?_;refine t1_ 9 ⟨d3,q0,q1⟩ ?_;refine t1_ 10 ⟨d3,q0,q1⟩ ?_;refine td_ ?_ _;have z0:=f.cell 0;have l:=f.cell 1;have t0:=f.th 0;have t1:=f.th 1;have j:=(f.set 0 (I_ xn)).set 1 xd;have r0:=j.cell 0;have r1:=j.cell 1;simp only[am_,an_,aa_,ab_]at z0 l r0 r1;replace fin:=zy fin;go_wp2;refine bodyPost_ret (v:=.agg #[I_ xn,xd]) (by simp[results,results54,go_sem,r0,r1]) rfl ?_;exact fin
end
end Go.Proofs.YtlmebjdmdogmfaaGreatDoor
