import Derived.Test.YtokgeopihcopeaaGreatDoorW15
set_option linter.unusedVariables false
set_option maxHeartbeats 16000000
set_option maxRecDepth 100000
set_option linter.defProp false
set_option linter.unusedSimpArgs false
open Go.Proofs.Tryz
namespace Go.Proofs.YtokgeopihcopeaaGreatDoor
open Go.RowKit
variable {fs:An}{vT:Av}{vx:Ax}
def VG{s:BA}{env:Au}{pl:Aq}{f i:Nat}(k:eN env)(c:∀g∈fs,okT env g.ty):ko fs.length (jt (jD (rdT s env pl f) fs) s 40 41 [] i)=yv (rdT s env pl f) s (.recd fs) i:=by
 unfold jt yv;simp only;by_cases b:bt s i=40
 .rw[i_ b,i_ b];have d:=zp (s:=s) (i:=i) M_;by_cases a:bt s (i+1)=41
  .rw[i_ a];cases fs with
   |nil=>
    simp only[bn_,zQ,ko];rw[i_ a];rfl
   |cons g r=>
    rw[a0_,zQ,i_ rfl,BS k a f g.ty (c g x6_)];rfl
  .rw[n_ a];cases c:fs with
   |nil=>
    rw[jj];simp only[jD,List.getElem?_nil,bn_,zQ,ko];rw[n_ a]
   |cons g r=>
    rw[<- c];have h:=iW (rdT s env pl f) s fs (vD s env pl f) (s.size+2) [] (i+1) (by rw[c];simp) d M_;rw[h];simp only[av_,List.drop_zero];cases zQ (rdT s env pl f) s true (fs.map PF.ty) (i+1) with
    |none=>rfl
    |some q=>
     obtain⟨l,e⟩:=q;rfl
 .rw[n_ b,n_ b];rfl
def Kp{tt:PT}{w0 w:Aw}{P:Az}{ss:BA}{ds:Ar}{sv rv:Ax}{xs:Ay}{s:BA}{nt:Av}{nx:Ax}{pl:Aq}{br i:Nat}{p:Int}{fa:Am}{fc:Nat}{zs:Ay}(m:∀k g,fs[k]?=some g->yg (zx ds) tt 0 k=g.ty)(M:NC w0 P ss ds sv rv xs s nt nx pl br i w)(d:xh w P ss fs (.slice fa fs.length fc) zs){W':Aw}(h:yw W' br sv rv s (i+1) (!pl))(hf:Fr (((w.alloc (.cells #[P_ br] 199)).alloc (.cells #[Z_ p,.slice fa fs.length fc] 231)).alloc (.cells #[L_] 152)) W' (· = br))(hi:i+1<=s.size):RI tt w0 w P ss ds sv rv xs s nt nx pl br i fs p (.slice fa fs.length fc) zs [] (i+1) W':=by
 have l:=M.lt;have A:Fr w (((w.alloc (.cells #[P_ br] 199)).alloc (.cells #[Z_ p,.slice fa fs.length fc] 231)).alloc (.cells #[L_] 152)) N_:=(((A_ w _).alloc _).alloc _).alloc _;have hz:(((w.alloc (.cells #[P_ br] 199)).alloc (.cells #[Z_ p,.slice fa fs.length fc] 231)).alloc (.cells #[L_] 152)).heap.size=w.heap.size+3:=x6_
 have n:(w.alloc (.cells #[P_ br] 199)).heap.size=w.heap.size+1:=x6_
 have o:((w.alloc (.cells #[P_ br] 199)).alloc (.cells #[Z_ p,.slice fa fs.length fc] 231)).heap.size=w.heap.size+2:=x6_
 have c:=((B_ w #[P_ br] 199).alloc (.cells #[Z_ p,.slice fa fs.length fc] 231)).alloc (.cells #[L_] 152);have a:=(B_ (w.alloc (.cells #[P_ br] 199)) #[Z_ p,.slice fa fs.length fc] 231).alloc (.cells #[L_] 152);have b:=B_ ((w.alloc (.cells #[P_ br] 199)).alloc (.cells #[Z_ p,.slice fa fs.length fc] 231)) #[L_] 152;rw[n]at a;rw[o]at b;have n:=hf.size;exact⟨m,(M.new A).call h hf hi,(A.mono v_).trans hf u_,l,M_,hf.bl c M_,hf.bl a M_,(d.fr A u_).fr hf (λg hg e=>M.brP (e▸hg)),by simp,am_ _,_,hf.bl b M_,jY.nil _ _ _ _ _⟩
def aI{tt:PT}{w0 w:Aw}{P:Az}{ss:BA}{ds:Ar}{sv rv:Ax}{xs:Ay}{s:BA}{nt:Av}{nx:Ax}{pl:Aq}{br i:Nat}{p:Int}{fa:Am}{fc:Nat}{zs:Ay}{f:Nat}(a3:∀k g,fs[k]?=some g->yg (zx ds) tt 0 k=g.ty)(M:NC w0 P ss ds sv rv xs s nt nx pl br i w)(N:xh w P ss fs (.slice fa fs.length fc) zs)(V:∀g∈fs,zl g.letter=true)(U:fs.length<=300)(a2:eN (zx ds))(T:∀g∈fs,okT (zx ds) g.ty)(O:∀g∈fs,∀j,i<j->j<=s.size->jC w0 P ss ds sv rv xs s nt nx pl br f g.ty j):Calls prog 126 #[P_ br,.agg #[Z_ p,.slice fa fs.length fc]] w (yx (zx ds) tt w sv rv s nt nx pl br (yv (rdT s (zx ds) pl f) s (.recd fs) i)):=by
 refine hq_ λL D=>?_;have a1:s.size<=4000:=y7_
 have A:Fr w (((w.alloc (.cells #[P_ br] 199)).alloc (.cells #[Z_ p,.slice fa fs.length fc] 231)).alloc (.cells #[L_] 152)) N_:=(((A_ w _).alloc _).alloc _).alloc _;have S:=vD s (zx ds) pl f;have L:ea sv rv s nt nx pl br 180 #[.pointer (some ⟨w.heap.size+2,0,none⟩),.pointer (some ⟨w.heap.size+1,0,none⟩),P_ w.heap.size] (jD (rdT s (zx ds) pl f) fs) (λl j W=>RI tt w0 w P ss ds sv rv xs s nt nx pl br i fs p (.slice fa fs.length fc) zs l j W) (Zb w sv rv s nt nx pl br):=
  { F:=λW=>by kernel_rfl
    R:=λh=>⟨h.M.R,h.M.il,h.M.e⟩
    K:=λh h1 E G h4=>h.call h1 E G (o1_ h.c)
    B:=λh=>⟨h.fr,.base,_,h.M.R,h.M.il⟩
    C:=λ{l j W} h=>(VO h V U (λg hg=>O g hg j (o1_ h.c) h.M.il) (λt d j' e=>(S t j d j' e).1)).mono (by
     rintro e W' ⟨v,he,hm⟩
     refine⟨v,he,?_⟩
     cases U:jD (rdT s (zx ds) pl f) fs l j with
     |none=>rw[U]at hm;exact hm
     |some q=>obtain⟨a,b⟩:=q;rw[U]at hm;exact hm) }
 have H:=zy (fS L (w:=(((w.alloc (.cells #[P_ br] 199)).alloc (.cells #[Z_ p,.slice fa fs.length fc] 231)).alloc (.cells #[L_] 152))) (σ:=([]:List DT)) (i:=i) (co:=40) (cf:=41) 40 41 (A.bl M.R id) M.il (λW' h hf hi=>Kp a3 M N h hf hi) (λW' h hf=>⟨⟨(A.mono v_).trans hf u_,.base,i,h,M.il⟩,((M.new A).call h hf M.il).e⟩) a1 rfl rfl D_ D_);have r:=zy (VG (s:=s) (pl:=pl) (f:=f) (i:=i) a2 T);cases hp:jt (jD (rdT s (zx ds) pl f) fs) s 40 41 [] i with
 |none=>
  rw[hp]at r;replace hp:=zy hp;go_in;go_wp2_with (go_at_call 172;apply H.o.mono;rintro e Y ⟨X,rfl,hm⟩;rw[hp.o]at hm;obtain⟨⟨m,m,rfl⟩,hB⟩:=hm;replace hB:=zy hB);try go_ret
  rw[D.o,<- r.o];obtain⟨h1,E,G⟩:=hB.o;exact⟨.nilIface,_,rfl,h1,rfl,E,G⟩
 |some q=>
  obtain⟨l2,I⟩:=q;rw[hp]at r;replace hp:=zy hp;obtain⟨J,u⟩:=x_ l2.length;by_cases hn:J<fs.length
  .have a0:(J:Int)<(fs.length:Int):=M_;rw[show ko fs.length (some (l2,I))=none from i_ M_]at r;replace u:=zy u;go_in;go_wp2_with (go_at_call 172;apply H.o.mono;rintro e Y ⟨X,rfl,hm⟩;rw[hp.o]at hm;obtain⟨rfl,m⟩:=hm;obtain⟨lv,r1,x⟩:=m.row;obtain⟨ys,y⟩:=x.row;obtain⟨la,lc,rfl⟩:=zw y;rw[u.o]at r1;have k0:=r1.c0;have Z:=m.b3.c1;have z:=m.M.e;replace m:=zy m);go_quiet (fail);go_wp2;try go_ret
   rw[D.o,<- r.o];exact cZ (m.o.fr.si (zq.drewN _ _)) (m.o.M.R.si (zq.drewN _ _)) m.o.M.il
  .have a0:¬((J:Int)<(fs.length:Int)):=M_;rw[show ko fs.length (some (l2,I))=some (.mk 114 0 noB [] l2,I) from n_ M_]at r;replace u:=zy u;go_in;go_wp2_with (go_at_call 172;apply H.o.mono;rintro e Y ⟨X,rfl,hm⟩;rw[hp.o]at hm;obtain⟨rfl,m⟩:=hm;obtain⟨lv,r1,x⟩:=m.row;obtain⟨ys,y⟩:=x.row;obtain⟨la,lc,rfl⟩:=zw y;have z:=x.dat (Q:=λg=>w.heap.size<=g) (λg _ hg=>zt_) (λg hg=>(o1_ (y.lt g hg))) (.inr ⟨rfl,rfl⟩);rw[u.o]at r1 z;replace z:=zy z;have k0:=r1.c0;have Z:=m.b3.c1;replace m:=zy m);try go_ret
   rw[D.o,<- r.o];exact nok z m.o.fr m.o.M.R m.o.M.il
def aH(k:Nat):Option (DT×Nat)->Option (DT×Nat)
 |none=>none
 |some (d,j)=>some (.mk 40 (k:Int) noB [] [d],j)
def mK{tt:PT}{w0 w:Aw}{P:Az}{ss:BA}{ds:Ar}{sv rv:Ax}{xs:Ay}{s:BA}{nt:Av}{nx:Ax}{pl:Aq}{br i:Nat}{t:PT}{n k:Nat}{p:Int}{b:Ax}{f:Nat}{X:Ai}(r:yg (zx ds) tt k 0=t)(M:NC w0 P ss ds sv rv xs s nt nx pl br i w)(ho:w.ownsRow 0 46 1 b n ((List.range n).map X))(m:k<n)(hk4:k<=4000)(hX:TyV w P t (X k))(hI:yM w0)(c:jC w0 P ss ds sv rv xs s nt nx pl br f t i):Calls prog 179 #[P_ br,.agg #[Z_ p,b],I_ k] w (yx (zx ds) tt w sv rv s nt nx pl br (aH k (rdT s (zx ds) pl f t i))):=by
 refine hq_ λb Q_=>?_;obtain⟨g,h,rfl⟩:=zg ho M_;obtain⟨T,x,hx⟩:=hX.iface;have c0:=zr ho rfl (k:=k) (x:=X k) (by simp[m]);rw[hx]at c0 hX;have A:Fr w (w.alloc (.cells #[Z_ p,S_ g n h] 226)) N_:=(A_ w _).alloc _;have M0:=M.new A;have b:=World.block_lt_of_cell? w ⟨g,k,none⟩ c0;have hC:=zy (c _ _ M0 (hX.fr A u_));have b:(k:Int)<(n:Int):=M_;have hsz:=A.size;replace A:=zy A;replace M0:=zy M0;cases hp:rdT s (zx ds) pl f t i with
 |none=>
  have cc1:=Nat;exact cwVO1_
 |some q=>
  obtain⟨d,b⟩:=q;replace hp:=zy hp;go_in;go_wp2_with (go_at_call 78;apply hC.o.mono;rintro e w1 ⟨v1,ev1,rfl,hf1,hm⟩;rw[hp.o]at hm;obtain⟨rfl,a,h1,hj1⟩:=hm;obtain⟨dT,b,rfl⟩:=a.iface;replace a:=zy a;replace hf1:=zy hf1;replace h1:=zy h1);try go_ret
  rw[Q_.o,hp.o];exact nok (.branch k hk4 (by rw[r];exact a.o.mono (λg _ hg=>M_))) ((A.o.mono (T:=λg=>g=br) v_).trans hf1 u_) h1 hj1
def Yz{tt:PT}{w0 w:Aw}{P:Az}{ss:BA}{ds:Ar}{sv rv:Ax}{xs:Ay}{s:BA}{nt:Av}{nx:Ax}{br i:Nat}{t:PT}{l:Af}{p:Int}{a:Ax}{f:Nat}{X:Ai}(B:yg (zx ds) tt 0 0=t)(M:NC w0 P ss ds sv rv xs s nt nx true br i w)(ho:w.ownsRow 0 46 1 a (t::l).length ((List.range (t::l).length).map X))(hX:TyV w P t (X 0))(z:yM w0)(h:jC w0 P ss ds sv rv xs s nt nx true br f t i):Calls prog 125 #[P_ br,.agg #[Z_ p,a]] w (yx (zx ds) tt w sv rv s nt nx true br (aH 0 (rdT s (zx ds) true f t i))):=by
 refine hq_ λa r=>?_;obtain⟨u,x,rfl⟩:=zw ho;have A:Fr w (w.alloc (.cells #[Z_ p,.slice u (t::l).length x] 226)) N_:=(A_ w _).alloc _;have a:=M.new A;have c:=zy (mK (p:=p) (k:=0) B a (zj ho A u_) x6_ M_ (hX.fr A u_) z h);have c4:=a.R.c4;have m:=A.size;replace A:=zy A;generalize (t::l).length=n at c A m c4⊢;go_in;go_wp2_with (go_at_call 179;apply c.o.mono;rintro e w1 ⟨C,y,rfl,b,hm⟩;replace b:=zy b;replace hm:=zy hm);try go_ret
 rw[r.o];refine⟨C,y,rfl,(A.o.mono (T:=λg=>g=br) v_).trans b u_,?_⟩;have a:=hm.o;cases hp:aH 0 (rdT s (zx ds) true f t i) with
 |none=>rw[hp]at a;exact⟨a.1,a.2.1.ls m,a.2.2⟩
 |some q=>obtain⟨d,j⟩:=q;rw[hp]at a;exact⟨a.1,a.2.1.mono (λg _ hg=>M_),a.2.2⟩
def fE:∀(a b:List UInt8),(Op.bytesLess a b||a==b) = !Op.bytesLess b a:=by
 intro a;induction a with
 |nil=>intro b;cases b<;>rfl
 |cons x xs ih=>
  intro b;cases b with
  |nil=>rfl
  |cons y ys=>
   simp only[Op.bytesLess,List.cons_beq_cons];have h:=ih ys;by_cases h1:x<y
   .have c:¬y<x:=by simp only[UInt8.lt_iff_toNat_lt]at h1⊢;omega
    have d:¬y=x:=λe=>by subst e;simp only[UInt8.lt_iff_toNat_lt]at h1;omega
    simp[h1,c,d]
   .by_cases c:x=y
    .subst c;simp[h1,h]
    .have d:y<x:=by
      have:x.toNat≠y.toNat:=λe=>c (UInt8.toNat_inj.1 e);simp only[UInt8.lt_iff_toNat_lt]at h1⊢;omega
     simp[h1,c,d]
def vC(R:Al)(s:BA)(es:Ag)(j:Nat):Option (List (BA×DT)×Nat):=
 match kJ s true (wX es) j with
 |none=>none
 |some (k,j1)=>(R j1).map (λq=>(es++[(k,q.1)],q.2))
def JX(R:Al)(s:BA)(fin:Nat):∀n es j,jj (vC R s) s fin n es j=(yc R s fin true n (wX es) j).map (λq=>(es++q.1,q.2)):=by
 intro n;induction n with
 |zero=>intro es j;rfl
 |succ n ih=>
  intro es j;rw[jj,yc];simp only[vC];cases kJ s true (wX es) j with
  |none=>rfl
  |some q=>
   obtain⟨key,a⟩:=q;simp only;cases R a with
   |none=>rfl
   |some q=>
    obtain⟨d,j'⟩:=q;simp only[by_];split
    .rfl
    .split
     .rw[ih (es++[(key,d)]) (j'+1),jF];cases yc R s fin true n (some key) (j'+1) with
      |none=>rfl
      |some q=>simp
     .rfl
def Ww(R:Al)(s:BA)(i:Nat):xH R s 123 i=(jt (vC R s) s 123 125 [] i).map (λq=>(.mk 123 0 noB (q.1.map Prod.fst) (q.1.map Prod.snd),q.2)):=by
 unfold jt xH jQ;by_cases h:bt s i=123
 .rw[i_ h,i_ h,show xw 123=125 from rfl,show((123:Nat)==123)=true from rfl];by_cases a:bt s (i+1)=125
  .rw[i_ a,i_ a];rfl
  .rw[n_ a,n_ a,JX R s 125 _ [] (i+1),show wX []=none from rfl];cases yc R s 125 true (s.size+2) none (i+1) with
   |none=>rfl
   |some q=>simp
 .rw[n_ h,n_ h];rfl
structure MI(w0 w:Aw)(P:Az)(ss:BA)(ds:Ar)(sv rv:Ax)(xs:Ay)(s:BA)(nt:Av)(nx:Ax)(pl:Aq)(br i:Nat)(t:PT)(p:Int)(v:Ax)(es:Ag)(j:Nat)(W:Aw):Prop where
 M:NC w0 P ss ds sv rv xs s nt nx pl br j W
 fr:Fr w W (· = br)
 lt:br<w.heap.size
 hB:w.heap.size+3<=W.heap.size
 b2:Blk W w.heap.size [P_ br] 199
 b3:Blk W (w.heap.size+1) [Z_ p,v] 223
 ty:TyV W P t v
 c:i+es.length<j
 row:∃lv ys,Blk W (w.heap.size+2) [lv] 147/\W.ownsRow (w.heap.size+3) 201 2 lv es.length ys/\GX (wX es) es.length ys/\qe (zx ds) W (λg=>w.heap.size+3<=g/\lv.ownBlock≠some g) (.wrap 123 0 t) es ys
section
variable {w0 w:Aw} {P:Az} {ss:BA} {ds:Ar} {sv rv:Ax} {xs:Ay} {s:BA} {nt:Av} {nx:Ax} {pl:Aq} {br i:Nat} {t:PT} {p:Int} {v:Ax} {es:Ag} {j j':Nat} {W W':Aw}
def MI.call(L:MI w0 w P ss ds sv rv xs s nt nx pl br i t p v es j W)(h:yw W' br sv rv s j' (!pl))(hf:Fr W W' (· = br))(b:j'<=s.size)(hc:i+es.length<j'):MI w0 w P ss ds sv rv xs s nt nx pl br i t p v es j' W':=by
 have h1:=L.lt;obtain⟨lv,ys,r1,a,c,d⟩:=L.row;exact⟨L.M.call h hf b,L.fr.trans hf u_,L.lt,al_ L.hB hf.size,hf.bl L.b2 M_,hf.bl L.b3 M_,L.ty.fr hf (λg hg e=>L.M.brP (e▸hg)),hc,lv,ys,hf.bl r1 M_,zj a hf (λg hg e=>o1_ (a.lt g hg)),c,d.fr hf (λg hg e=>M_)⟩
end
def lj:Tryz.prog.underlying 147=some (.slice 201):=K_
def bH:(Tryz.prog.info? 201).map (λi=>(i.zero,i.size,i.bytes))=some (some (.agg #[.string ⟨#[]⟩,.nilIface]),2,32):=K_
def GZ(w0 w:Aw)(P:Az)(ss:BA)(ds:Ar)(sv rv:Ax)(xs:Ay)(s:BA)(nt:Av)(nx:Ax)(pl:Aq)(br i:Nat)(t:PT)(p:Int)(v:Ax)(R:Al)(es:Ag)(j:Nat)(e:Ak)(W':Aw):Prop:=
 ∃v1,e=.returned v1/\match vC R s es j with|some (es',j')=>v1=.nilIface/\j<j'/\MI w0 w P ss ds sv rv xs s nt nx pl br i t p v es' j' W'|none=>(∃T x,v1=.iface T x)/\Zb w sv rv s nt nx pl br v1 W'
def cwJx1_{p:Prop}(h:p:=by
 have hlt2:e1+1<=s.size:=zp (s:=s) (i:=e1) M_;have hsm:vC (rdT s (zx ds) pl f t) s es j=(rdT s (zx ds) pl f t (e1+1)).map (λq=>(es++[(key,q.1)],q.2)):=by
  unfold vC;rw[hrk.o,i_ ⟨h58,hri⟩]
 replace h58:=zy h58;cases hp:rdT s (zx ds) pl f t (e1+1) with
 |none=>
  have hst:=zy (show vC (rdT s (zx ds) pl f t) s es j=none by rw[hsm,hp];rfl);replace hp:=zy hp;clear hsm hgo hri;go_in;go_wp2_with (first
   |(go_at_call 176;apply hrun.o.mono;rintro e w1 ⟨rfl,hf1,h1⟩;(first|(have:=cc1;obtain⟨k0,k1⟩:=hfac.o w1 hf1)|(have k0:=hfac.o w1 hf1));have e0:=(hL1.o w1 hf1 h1).M.e;have b20:=(hL1.o w1 hf1 h1).b2.c0;have L1:=zy (hL1.o w1 hf1 h1);replace hf1:=zy hf1;replace h1:=zy h1)
   |(go_at_call 119;apply(yy 58 h1.o hs4 hle.2 rfl D_ h58.o).mono;rintro e w2 ⟨rfl,hf2,h2⟩;have L2:=L1.o.call h2 hf2 hlt2 (o1_ L1.o.c);have hC:=zy (hR (e1+1) M_ hlt2 w2 _ L2.M L2.ty);have d20:=L2.b2.c0;have d31:=L2.b3.c1;replace L2:=zy L2;have F2:=zy (hf1.o.trans hf2 u_);clear hf2 h2)
   |(go_at_call 78;apply hC.o.mono;rintro e w3 ⟨v3,ev3,rfl,hf3,hm3⟩;rw[hp.o]at hm3;obtain⟨rfl,hErr,j3,h3,hj3⟩:=hm3;obtain⟨eT,ex,rfl⟩:=hErr.iface;have G3:=(L2.o.M.call h3 hf3 hj3).G;have F3:=zy (L2.o.fr.trans hf3 u_);replace hErr:=zy hErr;replace h3:=zy h3;replace G3:=zy G3;clear hf3)
   |(go_at_call 178;apply(ni (k:=key) hI G3.o hks).mono;intro e w4 hW;obtain⟨g4,tx4,rfl,hg4,hb4,hf4⟩:=hW;replace hf4:=zy hf4;replace hb4:=zy hb4))
  try go_ret
  rw[Q_.o];refine⟨_,rfl,?_⟩;rw[hst.o];have hs1:=F3.o.size;have hsW:=L2.o.fr.size;exact⟨⟨_,_,rfl⟩,F3.o.trans hf4.o v_,.within g4 M_ tx4 hb4.o ((hErr.o.ls hsW).fr hf4.o u_),j3,hf4.o.bl h3.o id,hj3⟩
 |some q=>
  obtain⟨d,j2⟩:=q;have hj2:=hgo _ d j2 hp;have hst:=zy (show vC (rdT s (zx ds) pl f t) s es j=some (es++[(key,d)],j2) by rw[hsm,hp];rfl);replace hp:=zy hp;obtain⟨ti,hi1,hi2,hi3,hi4⟩:=info_parts bH;clear hsm hgo hri;go_in;go_wp2_with (first
   |(go_at_call 176;apply hrun.o.mono;rintro e w1 ⟨rfl,hf1,h1⟩;(first|(have:=cc1;obtain⟨k0,k1⟩:=hfac.o w1 hf1)|(have k0:=hfac.o w1 hf1));have e0:=(hL1.o w1 hf1 h1).M.e;have b20:=(hL1.o w1 hf1 h1).b2.c0;have L1:=zy (hL1.o w1 hf1 h1);replace hf1:=zy hf1;replace h1:=zy h1)
   |(go_at_call 119;apply(yy 58 h1.o hs4 hle.2 rfl D_ h58.o).mono;rintro e w2 ⟨rfl,hf2,h2⟩;have L2:=L1.o.call h2 hf2 hlt2 (o1_ L1.o.c);have hC:=zy (hR (e1+1) M_ hlt2 w2 _ L2.M L2.ty);have d20:=L2.b2.c0;have d31:=L2.b3.c1;replace L2:=zy L2;have F2:=zy (hf1.o.trans hf2 u_);clear hf2 h2)
   |(go_at_call 78;apply hC.o.mono;rintro e w3 ⟨v3,ev3,rfl,hf3,hm3⟩;rw[hp.o]at hm3;obtain⟨rfl,hDv,h3,hj3⟩:=hm3;obtain⟨dT,dx,rfl⟩:=hDv.iface;have L3:=L2.o.call h3 hf3 hj3 (o1_ L2.o.c);obtain⟨lv3,ys3,q1,q2,q3,q4⟩:=L2.o.row;rw[hnn.o]at q2;have r0:=zy q2.lt;have r1:=hf3.bl q1 M_;have r2:=zj q2 hf3 (λg hg e=>(o1_ (q2.lt g hg)));have rM:=zy (q4.fr hf3 (λg hg e=>zt_));obtain⟨la3,lc3,rfl⟩:=zw r2;replace hDv:=zy hDv;clear q1 q2 q3 q4;have k3:=r1.c0;have kg:=r1.th 0;have hB3:=L3.hB;replace L3:=zy L3;replace r1:=zy r1;replace r2:=zy r2;clear hf3 h3)
   |(at_builtin;go_must ((first|(have:=cc1;refine wpList_append_own_at _ rfl _ _ 147 rfl (w.heap.size+3) 201 ti _ 2 32 lj hi1 hi2 hi3 hi4 rfl D_ (.slice la3 (m+1) lc3) (m+1) ys3 rfl ?hown _ 1 1 [.string key,.iface dT dx] rfl rfl (zK _ #[.string key,.iface dT dx] _ _ ?nn) ?one ?b1 ?b2 ?b3 ?_)|(refine wpList_append_own_at _ rfl _ _ 147 rfl (w.heap.size+3) 201 ti _ 2 32 lj hi1 hi2 hi3 hi4 rfl D_ (.slice la3 0 lc3) 0 ys3 rfl ?hown _ 1 1 [.string key,.iface dT dx] rfl rfl (zK _ #[.string key,.iface dT dx] _ _ ?nn) ?one ?b1 ?b2 ?b3 ?_)))
     case hown=>exact World.ownsRow.alloc r2.o _
     case nn=>simp
     case one=>simp[Value.oneCell']
     case b1=>unfold maxLen;omega
     case b2=>omega
     case b3=>simp;omega
     intro v5 w5 ho5 hg5 hn5 hl5
     (first|(have:=cc1;have hF5:Fr w3 w5 (λg=>(Value.slice la3 (m+1) lc3).ownBlock=some g):=Y_ ((A_ w3 _).alloc _) hg5 (λk e _=>e))|(have hF5:Fr w3 w5 (λg=>(Value.slice la3 0 lc3).ownBlock=some g):=Y_ ((A_ w3 _).alloc _) hg5 (λk e _=>e)))
     (first|(have:=cc1;have hl6:H_ (v5.ownBlock=(Value.slice la3 (m+1) lc3).ownBlock\/∃h,v5.ownBlock=some h/\w3.heap.size<=h):=zy (hl5.imp id (λe=>⟨_,e,by simp⟩)))|(have hl6:H_ (v5.ownBlock=(Value.slice la3 0 lc3).ownBlock\/∃h,v5.ownBlock=some h/\w3.heap.size<=h):=zy (hl5.imp id (λe=>⟨_,e,by simp⟩))))
     have R5:=hF5.bl r1.o (λe=>o1_ (r2.o.lt _ e))
     have e5:=R5.c0
     have f5:=R5.th 0
     have hn5':∀g,v5.ownBlock=some g->w.heap.size+3<=g:=(λg hg=>(ho5.lt g hg).1)
     obtain⟨g5,cap5,rfl⟩:=zg ho5 M_
     replace hF5:=zy hF5
     replace ho5:=zy ho5
     replace R5:=zy R5
     replace hn5':=zy hn5'
     clear hg5 hl5 hn5))
  try go_ret
  rw[Q_.o];refine⟨_,rfl,?_⟩;rw[hst.o];refine⟨rfl,M_,?_⟩;(first|(have:=cc1;have hG:Fr w5 (w5.setCell ⟨w.heap.size+2,0,none⟩ (S_ g5 ((m+1)+1) cap5)) (λg=>g=w.heap.size+2):=(A_ w5 (λg=>g=w.heap.size+2)).setCell ⟨w.heap.size+2,0,none⟩ _ (λ_=>rfl))|(have hG:Fr w5 (w5.setCell ⟨w.heap.size+2,0,none⟩ (.slice (some ⟨g5,0,none⟩) (0+1) cap5)) (λg=>g=w.heap.size+2):=(A_ w5 (λg=>g=w.heap.size+2)).setCell ⟨w.heap.size+2,0,none⟩ _ (λ_=>rfl)));(first|(have:=cc1;have hH:Fr w3 (w5.setCell ⟨w.heap.size+2,0,none⟩ (S_ g5 ((m+1)+1) cap5)) (λg=>w.heap.size+2<=g):=(hF5.o.mono (λg _ e=>o1_ (r2.o.lt g e))).trans hG (λg _ e=>M_))|(have hH:Fr w3 (w5.setCell ⟨w.heap.size+2,0,none⟩ (.slice (some ⟨g5,0,none⟩) (0+1) cap5)) (λg=>w.heap.size+2<=g):=(hF5.o.mono (λg _ e=>o1_ (r2.o.lt g e))).trans hG (λg _ e=>M_)));have hM1:=L3.o.M;have hbG:=hM1.brG;have hl1:=L3.o.lt;have hPl:∀g,P g->¬(w.heap.size+2<=g):=λg hg=>by have:=hM1.Pbr g hg;omega
  have hyl:=r2.o.1;(first|(have:=cc1;exact⟨⟨hH.bl hM1.R M_,hM1.D.fr hH hPl,hM1.G.fr hH (o1_ hM1.lt) (λg e=>M_),hM1.E,hM1.Pbr,hM1.brG,hM1.hs,hM1.il⟩,L3.o.fr.trans hH (λg hg e=>M_),L3.o.lt,al_ L3.o.hB hH.size,hH.bl L3.o.b2 M_,hH.bl L3.o.b3 M_,L3.o.ty.fr hH hPl,by rw[ag_,hnn.o,ao_];omega,_,_,R5.o.set 0 _,by rw[ag_,hnn.o,ao_];exact zj ho5.o hG (λg hg e=>o1_ (hn5'.o g hg)),by rw[jF,ag_,hnn.o,ao_];exact⟨(m+1),rfl,by rw[aw_ M_,show(m+1)*2-ys3.length=0 by omega];rfl⟩,rM.o.grow (c:=w.heap.size+2) (hDv.o.mono (λg _ hg=>⟨o1_ L2.o.hB,λe=>o1_ (r0.o g e)⟩)) hks ((hF5.o.mono (λ_ _ e=>.inl e)).trans hG (λ_ _ e=>.inr e)) M_ hl6.o⟩)|(exact⟨⟨hH.bl hM1.R M_,hM1.D.fr hH hPl,hM1.G.fr hH (o1_ hM1.lt) (λg e=>M_),hM1.E,hM1.Pbr,hM1.brG,hM1.hs,hM1.il⟩,L3.o.fr.trans hH (λg hg e=>M_),L3.o.lt,al_ L3.o.hB hH.size,hH.bl L3.o.b2 M_,hH.bl L3.o.b3 M_,L3.o.ty.fr hH hPl,by rw[ag_,hnn.o,ao_];omega,_,_,R5.o.set 0 _,by rw[ag_,hnn.o,ao_];exact zj ho5.o hG (λg hg e=>o1_ (hn5'.o g hg)),by rw[jF,ag_,hnn.o,ao_];exact⟨0,rfl,by rw[aw_ M_,show 0*2-ys3.length=0 by omega];rfl⟩,rM.o.grow (c:=w.heap.size+2) (hDv.o.mono (λg _ hg=>⟨o1_ L2.o.hB,λe=>o1_ (r0.o g e)⟩)) hks ((hF5.o.mono (λ_ _ e=>.inl e)).trans hG (λ_ _ e=>.inr e)) M_ hl6.o⟩))):p:=h
def Jx{w0 w:Aw}{P:Az}{ss:BA}{ds:Ar}{sv rv:Ax}{xs:Ay}{s:BA}{nt:Av}{nx:Ax}{pl:Aq}{br i:Nat}{t:PT}{p:Int}{es:Ag}{j f:Nat}{W:Aw}(L:MI w0 w P ss ds sv rv xs s nt nx pl br i t p (.iface vT vx) es j W)(hI:yH w0)(hR:∀j',j<j'->j'<=s.size->jC w0 P ss ds sv rv xs s nt nx pl br f t j')(hgo:∀j d j',rdT s (zx ds) pl f t j=some (d,j')->j<j'):Calls prog 175 #[P_ w.heap.size,.pointer (some ⟨w.heap.size+2,0,none⟩),.pointer (some ⟨w.heap.size+1,0,none⟩)] W (GZ w0 w P ss ds sv rv xs s nt nx pl br i t p (.iface vT vx) (rdT s (zx ds) pl f t) es j):=by
 refine hq_ λE Q_=>?_;have N:=L.b2.c0;have D:=L.M.il;have N:=L.M.hs;have hs4:s.size<=4000:=M_;obtain⟨n,hnn⟩:=x_ es.length;obtain⟨last,a⟩:=x_ (wX es);have N:i+n<j:=by rw[<- hnn];exact L.c
 have N:=L.lt;have N:=L.hB;have hle:=uD D;obtain⟨e1,x⟩:=x_ (zo s j);rw[x]at hle;obtain⟨key,y⟩:=x_ (s.extract j e1);have hks:key.size<=4000:=by rw[<- y,a6_];omega
 have hrun:=zy (show Calls prog 176 #[P_ br,.func (.func 177) #[] #[]] W λe w'=>e=.returned (.string key)/\Fr W w' (· = br)/\yw w' br sv rv s e1 (!pl) by
  have h:=wk L.M.R hs4 D
  rw[show zt 97 122 s j=e1 from x,y]at h
  exact h)
 have hrk:H_ (kJ s true (wX es) j=if bt s e1=58/\kV last key=true then some (key,e1+1) else none):=zy (by unfold kJ;rw[i_ rfl,x,y,a]);have hL1:H_ (∀w1,Fr W w1 (· = br)->yw w1 br sv rv s e1 (!pl)->MI w0 w P ss ds sv rv xs s nt nx pl br i t p (.iface vT vx) es e1 w1):=zy (λw1 hf h=>L.call h hf hle.2 M_);have A:H_ (vC (rdT s (zx ds) pl f t) s es j=none->∀w1 z,Fr W w1 (· = br)->yw w1 br sv rv s z (!pl)->z<=s.size->E (.returned (.iface nt nx)) w1):=zy (λhst w1 z hf h H=>by
  rw[Q_.o]
  refine⟨_,rfl,?_⟩
  rw[hst]
  exact⟨⟨_,_,rfl⟩,L.fr.trans hf u_,.base,z,h,H⟩)
 replace L:=zy L;replace hnn:=zy hnn;replace a:=zy a;by_cases hri:kV last key=true;case neg=>
  have hst:=zy (show vC (rdT s (zx ds) pl f t) s es j=none by unfold vC;rw[hrk.o,n_ (λh=>hri h.2)]);cases last with
  |none=>exact absurd rfl hri
  |some lk=>
   have I:(Op.bytesLess key.toList lk.toList||key.toList==lk.toList)=true:=by
    rw[fE];cases hb:Op.bytesLess lk.toList key.toList with
    |false=>rfl
    |true=>exact absurd hb hri
   obtain⟨lv,ys,r1,r2,l,_⟩:=L.o.row;rw[a.o,hnn.o]at l;obtain⟨m,hm,r⟩:=l;rw[hnn.o]at r2;have b:n=m+1:=hm;subst b;obtain⟨C,u,rfl⟩:=zw r2;obtain⟨g,F,B⟩:=zg r2 x6_;cases B;have K:IntKind.i64.wrap (((m+1:Nat):Int)-1)=(m:Int):=y0_
   have J:(0:Int)<((m+1:Nat):Int):=M_;have hfac:H_ (∀w1,Fr W w1 (· = br)->w1.cell? ⟨w.heap.size+2,0,none⟩=some (S_ g (m+1) u)/\w1.cell? ⟨g,m*2,none⟩=some (.string lk)):=zy (λw1 hf=>⟨by rw[(hf.bl r1 M_).cell 0];rfl,zr (zj r2 hf (λg' hg e=>o1_ (r2.lt g' hg))) rfl r⟩);go_in;go_wp2_with (go_at_call 176;apply hrun.o.mono;rintro e w1 ⟨rfl,hf1,h1⟩;obtain⟨k0,k1⟩:=hfac.o w1 hf1;have e0:=(hL1.o w1 hf1 h1).M.e;replace hf1:=zy hf1;replace h1:=zy h1);try go_ret
   exact A.o hst w1 e1 hf1 h1 hle.2
 case pos=>
  cases last with
  |none=>
   obtain⟨lv,ys,r1,r2,hm,_⟩:=L.o.row;rw[a.o,hnn.o]at hm;rw[hnn.o]at r2;have b:n=0:=hm;subst b;obtain⟨C,u,rfl⟩:=zw r2;have hfac:H_ (∀w1,Fr W w1 (· = br)->w1.cell? ⟨w.heap.size+2,0,none⟩=some (.slice C 0 u)):=zy (λw1 hf=>by rw[(hf.bl r1 M_).cell 0];rfl);by_cases h58:bt s e1=58;case neg=>
    have hst:=zy (show vC (rdT s (zx ds) pl f t) s es j=none by unfold vC;rw[hrk.o,n_ (λh=>h58 h.1)]);replace h58:=zy h58;go_in;go_wp2_with (first
     |(go_at_call 176;apply hrun.o.mono;rintro e w1 ⟨rfl,hf1,h1⟩;have k0:=hfac.o w1 hf1;have e0:=(hL1.o w1 hf1 h1).M.e;have b20:=(hL1.o w1 hf1 h1).b2.c0;have L1:=zy (hL1.o w1 hf1 h1);replace hf1:=zy hf1;replace h1:=zy h1)
     |(go_at_call 119;apply(xv 58 h1 hs4 hle.2 rfl D_ h58).mono;rintro e w2 ⟨rfl,hf2,h2⟩;have G:=(L1.o.call h2 hf2 hle.2 L1.o.c).M.e;replace hf2:=zy hf2;replace h2:=zy h2))
    try go_ret
    exact A.o hst w2 e1 (hf1.o.trans hf2 u_) h2 hle.2
   case pos=>
    exact cwJx1_
  |some lk=>
   have I:(Op.bytesLess key.toList lk.toList||key.toList==lk.toList)=false:=by
    rw[fE];rw[show Op.bytesLess lk.toList key.toList=true from hri];rfl
   obtain⟨lv,ys,r1,r2,l,_⟩:=L.o.row;rw[a.o,hnn.o]at l;obtain⟨m,hm,r⟩:=l;rw[hnn.o]at r2;have b:n=m+1:=hm;subst b;obtain⟨C,u,rfl⟩:=zw r2;obtain⟨g,F,B⟩:=zg r2 x6_;cases B;have K:IntKind.i64.wrap (((m+1:Nat):Int)-1)=(m:Int):=y0_
   have J:(0:Int)<((m+1:Nat):Int):=M_;have hfac:H_ (∀w1,Fr W w1 (· = br)->w1.cell? ⟨w.heap.size+2,0,none⟩=some (S_ g (m+1) u)/\w1.cell? ⟨g,m*2,none⟩=some (.string lk)):=zy (λw1 hf=>⟨by rw[(hf.bl r1 M_).cell 0];rfl,zr (zj r2 hf (λg' hg e=>o1_ (r2.lt g' hg))) rfl r⟩);by_cases h58:bt s e1=58;case neg=>
    have hst:=zy (show vC (rdT s (zx ds) pl f t) s es j=none by unfold vC;rw[hrk.o,n_ (λh=>h58 h.1)]);replace h58:=zy h58;go_in;go_wp2_with (first
     |(go_at_call 176;apply hrun.o.mono;rintro e w1 ⟨rfl,hf1,h1⟩;obtain⟨k0,k1⟩:=hfac.o w1 hf1;have e0:=(hL1.o w1 hf1 h1).M.e;have b20:=(hL1.o w1 hf1 h1).b2.c0;have L1:=zy (hL1.o w1 hf1 h1);replace hf1:=zy hf1;replace h1:=zy h1)
     |(go_at_call 119;apply(xv 58 h1 hs4 hle.2 rfl D_ h58).mono;rintro e w2 ⟨rfl,hf2,h2⟩;have G:=(L1.o.call h2 hf2 hle.2 L1.o.c).M.e;replace hf2:=zy hf2;replace h2:=zy h2))
    try go_ret
    exact A.o hst w2 e1 (hf1.o.trans hf2 u_) h2 hle.2
   case pos=>
    have cc1:=Nat;exact cwJx1_
def Wq{w0 w:Aw}{P:Az}{ss:BA}{ds:Ar}{sv rv:Ax}{xs:Ay}{s:BA}{nt:Av}{nx:Ax}{pl:Aq}{br i:Nat}{t:PT}{p:Int}(M:NC w0 P ss ds sv rv xs s nt nx pl br i w)(d:TyV w P t (.iface vT vx)){W':Aw}(h:yw W' br sv rv s (i+1) (!pl))(hf:Fr (((w.alloc (.cells #[P_ br] 199)).alloc (.cells #[Z_ p,.iface vT vx] 223)).alloc (.cells #[L_] 147)) W' (· = br))(hi:i+1<=s.size):MI w0 w P ss ds sv rv xs s nt nx pl br i t p (.iface vT vx) [] (i+1) W':=by
 have k:=M.lt;have A:Fr w (((w.alloc (.cells #[P_ br] 199)).alloc (.cells #[Z_ p,.iface vT vx] 223)).alloc (.cells #[L_] 147)) N_:=(((A_ w _).alloc _).alloc _).alloc _;have hz:(((w.alloc (.cells #[P_ br] 199)).alloc (.cells #[Z_ p,.iface vT vx] 223)).alloc (.cells #[L_] 147)).heap.size=w.heap.size+3:=x6_
 have l:(w.alloc (.cells #[P_ br] 199)).heap.size=w.heap.size+1:=x6_
 have m:((w.alloc (.cells #[P_ br] 199)).alloc (.cells #[Z_ p,.iface vT vx] 223)).heap.size=w.heap.size+2:=x6_
 have c:=((B_ w #[P_ br] 199).alloc (.cells #[Z_ p,.iface vT vx] 223)).alloc (.cells #[L_] 147);have a:=(B_ (w.alloc (.cells #[P_ br] 199)) #[Z_ p,.iface vT vx] 223).alloc (.cells #[L_] 147);have b:=B_ ((w.alloc (.cells #[P_ br] 199)).alloc (.cells #[Z_ p,.iface vT vx] 223)) #[L_] 147;rw[l]at a;rw[m]at b;have l:=hf.size;exact⟨(M.new A).call h hf hi,(A.mono v_).trans hf u_,k,M_,hf.bl c M_,hf.bl a M_,(d.fr A u_).fr hf (λg hg e=>M.brP (e▸hg)),by simp,_,_,hf.bl b M_,World.ownsRow_nil _ _ _ _,rfl,qe.nil _ _ _ _⟩
def im{q0:Nat}{w0 w:Aw}{P:Az}{ss:BA}{ds:Ar}{sv rv:Ax}{xs:Ay}{s:BA}{nt:Av}{nx:Ax}{pl:Aq}{br i:Nat}{t:PT}{p:Int}{f:Nat}(M:NC w0 P ss ds sv rv xs s nt nx pl br i w)(u:TyV w P t (.iface vT vx))(m:yH w0)(r:∀j,i<j->j<=s.size->jC w0 P ss ds sv rv xs s nt nx pl br f t j):Calls prog 124 #[P_ br,.agg #[Z_ p,.iface vT vx]] w (yx (zx ds) (.wrap 123 q0 t) w sv rv s nt nx pl br (xH (rdT s (zx ds) pl f t) s 123 i)):=by
 refine hq_ λl Q_=>?_;have z:s.size<=4000:=y7_
 have A:Fr w (((w.alloc (.cells #[P_ br] 199)).alloc (.cells #[Z_ p,.iface vT vx] 223)).alloc (.cells #[L_] 147)) N_:=(((A_ w _).alloc _).alloc _).alloc _;have x:=vD s (zx ds) pl f t;have l:ea (St:=List (BA×DT)) sv rv s nt nx pl br 175 #[P_ w.heap.size,.pointer (some ⟨w.heap.size+2,0,none⟩),.pointer (some ⟨w.heap.size+1,0,none⟩)] (vC (rdT s (zx ds) pl f t) s) (λn j W=>MI w0 w P ss ds sv rv xs s nt nx pl br i t p (.iface vT vx) n j W) (Zb w sv rv s nt nx pl br):=
  { F:=λW=>by kernel_rfl
    R:=λh=>⟨h.M.R,h.M.il,h.M.e⟩
    K:=λh h1 g k y=>h.call h1 g k (o1_ h.c)
    B:=λh=>⟨h.fr,.base,_,h.M.R,h.M.il⟩
    C:=λ{n j W} h=>(Jx h m (λj' h1 g=>r j' (o1_ h.c) g) (λj d j' e=>(x j d j' e).1)).mono (by
     rintro e W' ⟨v,he,hm⟩
     refine⟨v,he,?_⟩
     cases y:vC (rdT s (zx ds) pl f t) s n j with
     |none=>rw[y]at hm;exact hm
     |some q=>obtain⟨a,b⟩:=q;rw[y]at hm;exact hm) }
 have hC:=zy (fS l (w:=(((w.alloc (.cells #[P_ br] 199)).alloc (.cells #[Z_ p,.iface vT vx] 223)).alloc (.cells #[L_] 147))) (σ:=([]:List (BA×DT))) (i:=i) (co:=123) (cf:=125) 123 125 (A.bl M.R id) M.il (λW' h hf hi=>Wq M u h hf hi) (λW' h hf=>⟨⟨(A.mono v_).trans hf u_,.base,i,h,M.il⟩,((M.new A).call h hf M.il).e⟩) z rfl rfl D_ D_);have hres:=zy (Ww (rdT s (zx ds) pl f t) s i);cases hp:jt (vC (rdT s (zx ds) pl f t) s) s 123 125 [] i with
 |none=>
  rw[hp]at hres;replace hp:=zy hp;go_in;go_wp2_with (go_at_call 172;apply hC.o.mono;rintro e w2 ⟨v2,rfl,hm⟩;rw[hp.o]at hm;obtain⟨⟨l,l,rfl⟩,hB⟩:=hm;replace hB:=zy hB);try go_ret
  rw[Q_.o,hres.o];obtain⟨h1,g,k⟩:=hB.o;exact⟨.nilIface,_,rfl,h1,rfl,g,k⟩
 |some q=>
  have cc1:=Nat;exact cwJj1_
def yx.pre{env:Au}{t:PT}{w w1 w':Aw}{sv rv:Ax}{s:BA}{nt:Av}{nx:Ax}{pl:Aq}{br:Nat}{a:Dh}{e:Ak}(A:Fr w w1 N_)(h:yx env t w1 sv rv s nt nx pl br a e w'):yx env t w sv rv s nt nx pl br a e w':=by
 obtain⟨v,b,he,hf,hm⟩:=h;refine⟨v,b,he,(A.mono v_).trans hf u_,?_⟩;cases a with
 |none=>exact⟨hm.1,hm.2.1.ls A.size,hm.2.2⟩
 |some q=>obtain⟨d,j⟩:=q;exact⟨hm.1,hm.2.1.mono (λg _ hg=>al_ A.size hg),hm.2.2⟩
def PV(w0:Aw)(P:Az)(ss:BA)(ds:Ar)(sv rv:Ax)(xs:Ay)(s:BA)(nt:Av)(nx:Ax)(pl:Aq)(br:Nat):Prop:=
 ∀(w:World) (i:Nat) (t:PT),NC w0 P ss ds sv rv xs s nt nx pl br i w->
  Calls prog 121 #[P_ br,Z_ (-2147483648),Z_ 2147483647] w (yx (zx ds) t w sv rv s nt nx pl br ((vp s 105 i).map (λq=>(.mk 105 q.1 noB [] [],q.2))))/\
  Calls prog 121 #[P_ br,Z_ (-9223372036854775808),Z_ 9223372036854775807] w (yx (zx ds) t w sv rv s nt nx pl br ((vp s 108 i).map (λq=>(.mk 108 q.1 noB [] [],q.2))))
section
variable {w0:Aw} {P:Az} {ss:BA} {ds:Ar} {sv rv:Ax} {xs:Ay} {s:BA} {nt:Av} {nx:Ax} {pl:Aq} {br i:Nat} {f p:Nat}
def Pg:jC w0 P ss ds sv rv xs s nt nx pl br (f+1) (.leaf 110 p) i:=by
 intro w v M n;obtain rfl:v=.iface 215 (.agg #[I_ p]):=by
  cases n with
  |base _ _ h=>rfl
  |name _ _ h=>exact absurd h D_
 refine hq_ λx m=>?_;have A:Fr w (w.alloc (.cells #[I_ p] 215)) N_:=(A_ w _).alloc _;have d:=M.new A;have q:s.size<=4000:=y7_
 have k:=M.il;have l:=zy (A.mono (T:=λg=>g=br) v_);replace d:=zy d;by_cases b:bt s i=78
 .have r:i+1<=s.size:=zp (s:=s) (i:=i) M_;have hr:=zy (show rdT s (zx ds) pl (f+1) (.leaf 110 p) i=some (.mk 110 0 noB [] [],i+1) by rw[rdT];unfold xz;rw[i_ rfl,i_ b]);replace b:=zy b;go_in;go_wp2_with (go_at_call 119;apply(yy 78 d.o.R q k rfl D_ b).mono;rintro e u ⟨rfl,c,a⟩;replace c:=zy c;replace a:=zy a);try go_ret
  rw[m.o,hr.o];exact nok (V_ .nothing D_) (l.o.trans c u_) a r
 .have hr:=zy (show rdT s (zx ds) pl (f+1) (.leaf 110 p) i=none by rw[rdT];unfold xz;rw[i_ rfl,n_ b]);replace b:=zy b;go_in;go_wp2_with (go_at_call 119;apply(xv 78 d.o.R q k rfl D_ b).mono;rintro e u ⟨rfl,c,a⟩;have b:=(d.o.call a c k).e;replace c:=zy c;replace a:=zy a);go_quiet (fail);go_wp2;try go_ret
  rw[m.o,hr.o];exact cZ ((l.o.trans c u_).si (zq.drewN _ _)) (a.o.si (zq.drewN _ _)) k
def Pk:jC w0 P ss ds sv rv xs s nt nx pl br (f+1) (.leaf 116 p) i:=by
 intro w v M b;obtain rfl:v=.iface 217 (.agg #[I_ p]):=by
  cases b with
  |base _ _ h=>rfl
  |name _ _ h=>exact absurd h D_
 have hr:rdT s (zx ds) pl (f+1) (.leaf 116 p) i=lg s i:=by
  rw[rdT];unfold xz lg;rw[n_ D_,i_ rfl]
 rw[hr];refine hq_ λg c=>?_;have A:Fr w (w.alloc (.cells #[I_ p] 217)) N_:=(A_ w _).alloc _;have b:=M.new A;have g:=zy (Yx (t:=.leaf 116 p) b);replace A:=zy A;go_in;go_wp2_with (go_at_call 120;apply g.o.mono;intro e b k;obtain⟨l,d,rfl,a⟩:=k;replace a:=zy a);try go_ret
 rw[c.o];exact yx.pre A ⟨l,d,rfl,a⟩
def Pp(a:PV w0 P ss ds sv rv xs s nt nx pl br):jC w0 P ss ds sv rv xs s nt nx pl br (f+1) (.leaf 105 p) i:=by
 intro w v M c;obtain rfl:v=.iface 218 (.agg #[I_ p]):=by
  cases c with
  |base _ _ h=>rfl
  |name _ _ h=>exact absurd h D_
 have hr:rdT s (zx ds) pl (f+1) (.leaf 105 p) i=(vp s 105 i).map (λq=>(.mk 105 q.1 noB [] [],q.2)):=by
  rw[rdT];unfold xz;rw[n_ D_,n_ D_,i_ D_];cases vp s 105 i<;>rfl
 rw[hr];refine hq_ λk d=>?_;have A:Fr w (w.alloc (.cells #[I_ p] 218)) N_:=(A_ w _).alloc _;have c:=M.new A;have k:=zy ((a _ _ (.leaf 105 p) c).1);replace A:=zy A;go_in;go_wp2_with (go_at_call 121;apply k.o.mono;intro e c a;obtain⟨l,g,rfl,b⟩:=a;replace b:=zy b);try go_ret
 rw[d.o];exact yx.pre A ⟨l,g,rfl,b⟩
def Pf(a:PV w0 P ss ds sv rv xs s nt nx pl br):jC w0 P ss ds sv rv xs s nt nx pl br (f+1) (.leaf 108 p) i:=by
 intro w v M c;obtain rfl:v=.iface 219 (.agg #[I_ p]):=by
  cases c with
  |base _ _ h=>rfl
  |name _ _ h=>exact absurd h D_
 have hr:rdT s (zx ds) pl (f+1) (.leaf 108 p) i=(vp s 108 i).map (λq=>(.mk 108 q.1 noB [] [],q.2)):=by
  rw[rdT];unfold xz;rw[n_ D_,n_ D_,i_ D_];cases vp s 108 i<;>rfl
 rw[hr];refine hq_ λk d=>?_;have A:Fr w (w.alloc (.cells #[I_ p] 219)) N_:=(A_ w _).alloc _;have c:=M.new A;have k:=zy ((a _ _ (.leaf 108 p) c).2);replace A:=zy A;go_in;go_wp2_with (go_at_call 121;apply k.o.mono;intro e c a;obtain⟨l,g,rfl,b⟩:=a;replace b:=zy b);try go_ret
 rw[d.o];exact yx.pre A ⟨l,g,rfl,b⟩
def Pw:jC w0 P ss ds sv rv xs s nt nx pl br (f+1) (.leaf 115 p) i:=by
 intro w v M b;obtain rfl:v=.iface 220 (.agg #[I_ p]):=by
  cases b with
  |base _ _ h=>rfl
  |name _ _ h=>exact absurd h D_
 have hr:rdT s (zx ds) pl (f+1) (.leaf 115 p) i=sU s i:=by
  rw[rdT];unfold xz sU;rw[n_ D_,n_ D_,n_ D_,i_ rfl]
 rw[hr];refine hq_ λg c=>?_;have A:Fr w (w.alloc (.cells #[I_ p] 220)) N_:=(A_ w _).alloc _;have b:=M.new A;have g:=zy (aE (t:=.leaf 115 p) b);replace A:=zy A;go_in;go_wp2_with (go_at_call 122;apply g.o.mono;intro e b k;obtain⟨l,d,rfl,a⟩:=k;replace a:=zy a);try go_ret
 rw[c.o];exact yx.pre A ⟨l,d,rfl,a⟩
def cq17_{p:Prop}(h:p:=by
 (first|(have:=cc1;intro w v q M hn d hR)|(intro w v M d));obtain⟨a,g,rfl⟩:∃a,TyV w P t a/\v=.iface 222 (.agg #[I_ p,a]):=by
  cases d with
  |wrap _ _ h=>exact⟨_,h,rfl⟩
 obtain⟨vT,vx,rfl⟩:=g.iface;(first|(have:=cc1;refine hq_ λn k=>?_)|(rw[rdT]));(first|(have:=cc1;unfold cK at hR;simp only at hR)|(refine hq_ λn k=>?_));clear d;have A:Fr w (w.alloc (.cells #[I_ p,.iface vT vx] 222)) N_:=(A_ w _).alloc _;have c:=M.new A;(first|(have:=cc1;have l:=zy (Vm (p:=p) (pt:=(p:Int)) c hn (g.fr A u_) hI hR))|(have l:=zy (Jj (q0:=p) (p:=(p:Int)) c (g.fr A u_) hI hR)));replace A:=zy A;clear c M;go_in;go_wp2_with ((first|go_at_call 123|go_at_call 133);apply l.o.mono;intro e u m;(first|(have:=cc1;obtain⟨a,rfl,b⟩:=m)|(obtain⟨a,r,rfl,b⟩:=m));replace b:=zy b);try go_ret
 rw[k.o];(first|(have:=cc1;exact yk.pre A.o ⟨a,rfl,b.o⟩)|(exact yx.pre A.o ⟨a,r,rfl,b.o⟩))):p:=h
def UJ{t:PT}(hI:yM w0)(hR:∀j,i<j->j<=s.size->jC w0 P ss ds sv rv xs s nt nx pl br f t j):jC w0 P ss ds sv rv xs s nt nx pl br (f+1) (.wrap 91 p t) i:=by
 exact cq17_
def cq16_{p:Prop}(h:p:=by
 (first|(have:=cc1;intro w v q M hn d hR)|(intro w v M d));obtain⟨a,g,rfl⟩:∃a,TyV w P t a/\v=.iface 223 (.agg #[I_ p,a]):=by
  cases d with
  |wrap _ _ h=>exact⟨_,h,rfl⟩
 obtain⟨vT,vx,rfl⟩:=g.iface;(first|(have:=cc1;refine hq_ λn k=>?_)|(rw[rdT]));(first|(have:=cc1;unfold cK at hR;simp only at hR)|(refine hq_ λn k=>?_));clear d;have A:Fr w (w.alloc (.cells #[I_ p,.iface vT vx] 223)) N_:=(A_ w _).alloc _;have c:=M.new A;(first|(have:=cc1;have l:=zy (Qo (p:=p) (pt:=(p:Int)) c hn (g.fr A u_) hI hR))|(have l:=zy (im (q0:=p) (p:=(p:Int)) c (g.fr A u_) hI hR)));replace A:=zy A;clear c M;go_in;go_wp2_with ((first|go_at_call 124|go_at_call 134);apply l.o.mono;intro e u m;(first|(have:=cc1;obtain⟨a,rfl,b⟩:=m)|(obtain⟨a,r,rfl,b⟩:=m));replace b:=zy b);try go_ret
 rw[k.o];(first|(have:=cc1;exact yk.pre A.o ⟨a,rfl,b.o⟩)|(exact yx.pre A.o ⟨a,r,rfl,b.o⟩))):p:=h
def Pq{t:PT}(hI:yH w0)(hR:∀j,i<j->j<=s.size->jC w0 P ss ds sv rv xs s nt nx pl br f t j):jC w0 P ss ds sv rv xs s nt nx pl br (f+1) (.wrap 123 p t) i:=by
 exact cq16_
def UQ{l:Af}(x:l≠[])(D:yM w0)(c:∀t∈l,jC w0 P ss ds sv rv xs s nt nx true br f t i):jC w0 P ss ds sv rv xs s nt nx true br (f+1) (.alts p l) i:=by
 intro w v M m;cases l with
 |nil=>exact absurd rfl x
 |cons t r=>
 obtain⟨X,a,ho,_,hX,rfl⟩:∃X a,w.ownsRow 0 46 1 a (t::r).length ((List.range (t::r).length).map X)/\(∀g,a.ownBlock=some g->P g)/\(∀i u,(t::r)[i]?=some u->TyV w P u (X i))/\v=.iface 226 (.agg #[I_ p,a]):=by
  cases m with
  |alts _ X ho hP h=>exact⟨X,_,ho,hP,h,rfl⟩
 obtain⟨z,B,rfl⟩:=zw ho;have hr:rdT s (zx ds) true (f+1) (.alts p (t::r)) i=aH 0 (rdT s (zx ds) true f t i):=by
  rw[rdT];unfold yQ;rw[i_ rfl];simp only;cases rdT s (zx ds) true f t i<;>rfl
 rw[hr];refine hq_ λk y=>?_;have k:=c t x6_;have q:=hX 0 t rfl;have A:Fr w (w.alloc (.cells #[I_ p,.slice z (t::r).length B] 226)) N_:=(A_ w _).alloc _;have c:=M.new A;have d:=zy (Yz (tt:=.alts p (t::r)) (p:=(p:Int)) rfl c (zj ho A u_) (q.fr A u_) D k);replace A:=zy A;generalize (t::r).length=n at d A⊢;go_in;go_wp2_with (go_at_call 125;apply d.o.mono;intro e c E;obtain⟨a,C,rfl,b⟩:=E;replace b:=zy b);try go_ret
 rw[y.o];exact yx.pre A ⟨a,C,rfl,b⟩
end
def PW(tt:PT)(w0:Aw)(P:Az)(ss:BA)(ds:Ar)(sv rv:Ax)(xs:Ay)(s:BA)(nt:Av)(nx:Ax)(pl:Aq)(br f:Nat)(b:PB)(i:Nat):Prop:=
 ∀(w:World) (v:Value),NC w0 P ss ds sv rv xs s nt nx pl br i w->yV w P ss b v->
  Calls prog 78 #[P_ br,v] w (yx (zx ds) tt w sv rv s nt nx pl br (yv (rdT s (zx ds) pl f) s b i))
section
variable {tt:PT} {w0:Aw} {P:Az} {ss:BA} {ds:Ar} {sv rv:Ax} {xs:Ay} {s:BA} {nt:Av} {nx:Ax} {pl:Aq} {br i:Nat} {f p:Nat}
def JA(B:∀k g,fs[k]?=some g->yg (zx ds) tt 0 k=g.ty)(m:∀g∈fs,zl g.letter=true)(y:fs.length<=300)(z:eN (zx ds))(l:∀g∈fs,okT (zx ds) g.ty)(c:∀g∈fs,∀j,i<j->j<=s.size->jC w0 P ss ds sv rv xs s nt nx pl br f g.ty j):PW tt w0 P ss ds sv rv xs s nt nx pl br f (.recd fs) i:=by
 intro w v M d;obtain⟨p,a,zs,ho,hP,h,rfl⟩:∃(p:Nat) (a:Value) (zs:List Value),w.ownsRow 0 194 4 a fs.length zs/\(∀g,a.ownBlock=some g->P g)/\xG w P ss fs zs/\v=.iface 231 (.agg #[I_ p,a]):=by
  cases d with
  |recd p ho hP h=>exact⟨p,_,_,ho,hP,h,rfl⟩
 obtain⟨r,u,rfl⟩:=zw ho;refine hq_ λa n=>?_;have A:Fr w (w.alloc (.cells #[I_ p,.slice r fs.length u] 231)) N_:=(A_ w _).alloc _;have a:=M.new A;have d:=zy (aI (p:=(p:Int)) B a ((⟨ho,hP,h⟩:xh w P ss fs _ _).fr A u_) m y z l c);replace A:=zy A;go_in;go_wp2_with (go_at_call 126;apply d.o.mono;intro e a x;obtain⟨C,q,rfl,b⟩:=x;replace b:=zy b);try go_ret
 rw[n.o];exact yx.pre A ⟨C,q,rfl,b⟩
def JO{l:As}{o:Ac}(E:∀n,fU (zx ds) tt n=(l.map Prod.fst).getD n 0)(m:∀q∈l,zl q.1=true)(D:l.length<=300):PW tt w0 P ss ds sv rv xs s nt nx pl br f (.enum l o) i:=by
 intro w v M r;obtain⟨p,a,u,ho,hP,hu,rfl⟩:∃(p:Nat) (a u:Value),w.ownsRow 0 191 2 a l.length (zE l)/\(∀g,a.ownBlock=some g->P g)/\qb w P o u/\v=.iface 236 (.agg #[I_ p,a,u]):=by
  cases r with
  |enum p ho hP h=>exact⟨p,_,_,ho,hP,h,rfl⟩
 obtain⟨z,B,rfl⟩:=zw ho;obtain⟨dd,rfl⟩:∃d,u=.pointer d:=by
  unfold qb at hu;split at hu
  .exact⟨_,hu⟩
  .obtain⟨g',_,e,_⟩:=hu;exact⟨_,e⟩
 have hr:yv (rdT s (zx ds) pl f) s (.enum l o) i=iN s l i:=by
  unfold yv iN;simp only;by_cases a:i<s.size
  .rw[i_ a];cases (l.map Prod.fst).findIdx? (λc=>c==bt s i)<;>rfl
  .rw[n_ a,wh M_,fh (λh=>by
    obtain⟨q,a,e⟩:=a7_.1 h
    obtain⟨k,hk,_⟩:=kS (m q a)
    omega)]
 rw[hr];refine hq_ λa x=>?_;have A:Fr w (w.alloc (.cells #[I_ p,.slice z l.length B,.pointer dd] 236)) N_:=(A_ w _).alloc _;have a:=M.new A;have r:=zy (aN (t:=tt) (p:=(p:Int)) (u:=.pointer dd) a E (zj ho A u_) hP D m);replace A:=zy A;go_in;go_wp2_with (go_at_call 127;apply r.o.mono;intro e a C;obtain⟨F,y,rfl,b⟩:=C;replace b:=zy b);try go_ret
 rw[x.o];exact yx.pre A ⟨F,y,rfl,b⟩
def YO{n:Nat}:PW tt w0 P ss ds sv rv xs s nt nx pl br f (.bytes n) i:=by
 intro w v M b;obtain⟨p,rfl⟩:∃p:Nat,v=.iface 238 (.agg #[I_ p,I_ n]):=by
  cases b with
  |bytes p n=>exact⟨p,rfl⟩
 have hr:yv (rdT s (zx ds) pl f) s (.bytes n) i=ru s n i:=by
  unfold yv ru;rfl
 rw[hr];refine hq_ λg c=>?_;have A:Fr w (w.alloc (.cells #[I_ p,I_ n] 238)) N_:=(A_ w _).alloc _;have b:=M.new A;have g:=zy (Yw (t:=tt) (p:=(p:Int)) (n:=n) b);replace A:=zy A;go_in;go_wp2_with (go_at_call 128;apply g.o.mono;intro e b h;obtain⟨k,d,rfl,a⟩:=h;replace a:=zy a);try go_ret
 rw[c.o];exact yx.pre A ⟨k,d,rfl,a⟩
def JI{c:Nat}(hc:zY c=true){b:PB}(hb:zx ds c=some b)(S:PW (.leaf c p) w0 P ss ds sv rv xs s nt nx pl br f b i):jC w0 P ss ds sv rv xs s nt nx pl br (f+1) (.leaf c p) i:=by
 intro w v M F;have X:65<=c/\c<=70:=z7_
 obtain rfl:v=.iface 229 (.agg #[I_ p,U_ c]):=by
  cases F with
  |base _ _ h=>
   simp only[zi,ay_,beq_iff_eq]at h;omega
  |name _ _ h=>rfl
 have hr:rdT s (zx ds) pl (f+1) (.leaf c p) i=yv (rdT s (zx ds) pl f) s b i:=by
  rw[rdT];unfold xz;rw[n_ M_,n_ M_,n_ M_,n_ M_,hb]
 rw[hr];obtain⟨Q,E⟩:=e_ (yv (rdT s (zx ds) pl f) s b i);rw[<- E];refine hq_ λX O=>?_;have A:Fr w (w.alloc (.cells #[I_ p,U_ c] 229)) N_:=(A_ w _).alloc _;have a:=M.new A;have d:=B_ w #[I_ p,U_ c] 229;have X:=M.lt;have G:=zy (And.intro a (And.intro d A));clear hr F M a d A;go_in;go_wp2;obtain⟨a,d,A⟩:=G.o;have u:=a.si (zq.drew _);have u0:=a.R.c0;have H:=a.R.c1;have u2:=d.c1;have C:=jp (rv:=rv) c u.D;refine tR_ (λW=>z_ W br 0 sv/\z_ W br 1 rv/\z_ W w.heap.size 1 (U_ c)) ?_;refine tY_ 0 ?_;refine tY_ 1 ?_;refine tY_ 2 ?_;refine tY_ 3 ?_;refine tY_ 4 ?_;refine tY_ 5 ?_;refine tY_ 6 ?_;refine zJ 7 rfl K_ ⟨u0,H,u2⟩ (λK g=>?_);go_simp;apply C.mono;rintro e U ⟨T,rfl,k,z⟩;refine g _ _ ?_;clear g K;rw[hb]at z;have m:=u.new k;have x:=S U T m z;have y:=k.bl (((A_ _ N_).si (zq.drew (w.alloc (.cells #[I_ p,U_ c] 229)))).bl d id) id;have J:=m.R.c0;have L:=m.R.c1;have N:=y.c1;rw[<- E]at x;refine zJ 8 rfl K_ ⟨J,L,N⟩ (λK g=>?_);go_simp;apply x.mono;rintro e V ⟨I,B,rfl,n,l⟩;refine g _ _ ?_;clear g K;obtain⟨g,g⟩:∃j,yw V br sv rv s j (!pl):=by
  cases Q with
  |none=>exact⟨_,l.2.2.choose_spec.1⟩
  |some q=>exact⟨_,l.2.2.1⟩
 have E:=g.c0;have F:=g.c1;have Q:=(n.bl y M_).c1;replace l:=zy l;replace n:=zy n;replace k:=zy k;replace A:=zy A;clear C x a u m d y z G u0 H u2 J L N g;refine tY_ 9 ?_;refine tY_ 10 ?_;refine tY_ 11 ?_;refine tY_ 12 ?_;refine yq K_ ⟨E,F,Q⟩ ?_ _;go_wp2;refine bodyPost_ret (v:=.tuple #[I,B]) (by simp[results,results78,go_sem]) rfl ?_;rw[O.o];exact yx.pre (A.o.trans (((A_ _ N_).si (zq.drew _)).trans k u_) u_) ⟨I,B,rfl,n,l⟩
end
def vj(ds:Ar):Prop:=∀c b,zx ds c=some b->plB b/\okB (zx ds) b
def vj.sm{ds:Ar}(h:vj ds):eN (zx ds):=λc _ _ e=>(h c _ e).1.2.1
def brL(pl:Aq)(l:Af):Prop:=pl=true\/l.length<=300
mutual
def brT(pl:Aq):PT->Prop
 | .leaf _ _=>True
 | .wrap _ _ t=>brT pl t
 | .alts _ l=>brL pl l/\tg pl l
def tg(pl:Aq):List PT->Prop
 | []=>True
 |t::r=>brT pl t/\tg pl r
end
def brE(pl:Aq)(ds:Ar):Prop:=∀c fs,zx ds c=some (.recd fs)->∀g∈fs,brT pl g.ty
mutual
def bE:∀t:PT,brT true t
 | .leaf _ _=>by unfold brT;trivial
 | .wrap _ _ t=>by unfold brT;exact bE t
 | .alts _ l=>by unfold brT;exact⟨.inl rfl,nC l⟩
def nC:∀l:List PT,tg true l
 | []=>by unfold tg;trivial
 |t::r=>by unfold tg;exact⟨bE t,nC r⟩
end
def Vk{pl:Aq}:∀{l:List PT},tg pl l->∀t∈l,brT pl t
 | [],_,t,h=>by cases h
 |a::r,h,t,b=>by
  unfold tg at h;rcases aq_.1 b with rfl|b
  .exact h.1
  .exact Vk h.2 t b
def Mq(w0:Aw)(P:Az)(ss:BA)(ds:Ar)(sv rv:Ax)(xs:Ay)(s:BA)(nt:Av)(nx:Ax)(pl:Aq)(br:Nat):Prop:=
 ∀(f p:Nat) (l:List PT) (i:Nat),l≠[]->brL pl l->i<=s.size->(∀t∈l,∀j,(pl=true->j=i)->(pl=false->i<j)->j<=s.size->jC w0 P ss ds sv rv xs s nt nx pl br f t j)->jC w0 P ss ds sv rv xs s nt nx pl br (f+1) (.alts p l) i
def Ve{w0:Aw}{P:Az}{ss:BA}{ds:Ar}{sv rv:Ax}{xs:Ay}{s:BA}{nt:Av}{nx:Ax}{br:Nat}(a:yM w0):Mq w0 P ss ds sv rv xs s nt nx true br:=
 λ_ _ _ i c _ hi b=>UQ c a (λt a=>b t a i (λ_=>rfl) (λh=>by cases h) hi)
def Vv{w0:Aw}{P:Az}{ss:BA}{ds:Ar}{sv rv:Ax}{xs:Ay}{s:BA}{nt:Av}{nx:Ax}{pl:Aq}{br:Nat}(q:vj ds)(hB:brE pl ds)(y:yM w0)(z:yH w0)(d:PV w0 P ss ds sv rv xs s nt nx pl br)(A:Mq w0 P ss ds sv rv xs s nt nx pl br):∀(f:Nat) (t:PT) (i:Nat),okT (zx ds) t->brT pl t->i<=s.size->2*(s.size-i)+(if t.isAlts=true then 1 else 0)<f->jC w0 P ss ds sv rv xs s nt nx pl br f t i:=by
 intro f;induction f with
 |zero=>intro t i _ _ _ h;omega
 |succ f ih=>
  intro t i a b hi hm;have next:∀u,okT (zx ds) u->brT pl u->∀j,i<j->j<=s.size->jC w0 P ss ds sv rv xs s nt nx pl br f u j:=λu hu hb j h1 e=>ih u j hu hb e (by split<;>omega);cases t with
  |leaf c p=>
   unfold okT at a;rcases a with hb|⟨hn,pb,he⟩
   .simp only[zi,ay_,beq_iff_eq]at hb;rcases hb with(((rfl|rfl)|rfl)|rfl)|rfl
    .exact Pg
    .exact Pk
    .exact Pp d
    .exact Pf d
    .exact Pw
   .obtain⟨d,m⟩:=q c pb he;refine JI hn he ?_;cases pb with
    |recd fs=>exact JA (λk g hg=>by simp only[yg,he,as_,ax_,hg];rfl) d.2.1 d.1 q.sm m (λg hg=>next g.ty (m g hg) (hB c fs he g hg))
    |enum l o=>exact JO (λn=>by simp only[fU,he]) d.2.1 d.1
    |bytes n=>exact YO
  |wrap c p t=>
   unfold okT at a;unfold brT at b;rcases a.1 with rfl|rfl
   .exact UJ y (next t a.2 b)
   .exact Pq z (next t a.2 b)
  |alts p l=>
   unfold okT at a;unfold brT at b;have m:∀u∈l,okT (zx ds) u/\u.isAlts=false:=by
    have:=a.2;clear a hm b;induction l with
    |nil=>intro u hu;simp at hu
    |cons x r ihr=>
     unfold ZO at this;intro u hu;rcases aq_.1 hu with rfl|hu
     .exact⟨this.2.1,this.1⟩
     .exact ihr this.2.2 u hu
   refine A f p l i a.1 b.1 hi (λu hu j h1 e a=>?_);refine ih u j (m u hu).1 (Vk b.2 u hu) a ?_;have a:i<=j:=by
    cases pl with
    |true=>have:=h1 rfl;omega
    |false=>have:=e rfl;omega
   rw[(m u hu).2];simp only[PT.isAlts,if_true]at hm;simp only[a1_,if_false];omega
end Go.Proofs.YtokgeopihcopeaaGreatDoor
