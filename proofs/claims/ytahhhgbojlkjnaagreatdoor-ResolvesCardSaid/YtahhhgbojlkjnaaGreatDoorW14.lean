import Derived.Test.YtahhhgbojlkjnaaGreatDoorW13
set_option maxHeartbeats 16000000
set_option maxRecDepth 100000
set_option linter.defProp false
set_option linter.unusedSimpArgs false
open Go.Proofs.Tryz
namespace Go.Proofs.YtahhhgbojlkjnaaGreatDoor
open Go.RowKit
variable {i lo hi:Nat}{L:Ai}{P:Au}{et:As}{ex:Ax}{t:PT}{f:PF}
def Fr.three(w:Aw)(b:Nat)(v0 a c:Ax):Fr w (((w.setCell ⟨b,0,none⟩ v0).setCell ⟨b,1,none⟩ a).setCell ⟨b,2,none⟩ c) (λg=>g=b):=
 (((A_ w (λg=>g=b)).setCell ⟨b,0,none⟩ v0 (λ_=>rfl)).setCell ⟨b,1,none⟩ a (λ_=>rfl)).setCell ⟨b,2,none⟩ c (λ_=>rfl)
def Blk.three{w:Aw}{b t:Nat}{u0 a u2:Ax}(h:Blk w b [u0,a,u2] t)(v0 a c:Ax):Blk (((w.setCell ⟨b,0,none⟩ v0).setCell ⟨b,1,none⟩ a).setCell ⟨b,2,none⟩ c) b [v0,a,c] t:=
 ((h.set 0 v0).set 1 a).set 2 c
def yM.iface{w:Aw}{s:BA}{b:PB}{v:Ax}(h:yM w P s b v):∃T x,v=.iface T x:=by
 cases h<;>exact⟨_,_,rfl⟩
def PAt.two{w:Aw}{bp:Nat}{s:BA}(h:PAt w bp s i):PAt (w.setCell ⟨bp,1,none⟩ (Z_ ((i:Int)+2))) bp s (i+2):=C_ h 1 _
def YZ(w:Aw)(bp:Nat)(s:BA)(i:Nat)(et:As)(ex:Ax)(e:Ah)(w':Aw):Prop:=
 ∃(a b:Int) (c ev:Value),e=.returned (.tuple #[.agg #[Z_ a,.int .u8 b,c],ev])/\IfV c/\Fr w w' (· = bp)/\
 match xu s (i+2) with
 | .ok (pb,j)=>if bt s j=59 then ev=.nilIface/\PAt w' bp s (j+1)/\j<s.size/\a=(i:Int)/\b=(bt s i:Int)/\yM w' (λg=>w.heap.size<=g) s pb c else yq w' w.heap.size ev (j:Int) (.iface et ex)/\∃j,j<=s.size/\PAt w' bp s j
 | .error k=>yq w' w.heap.size ev (k:Int) (.iface et ex)/\∃j,j<=s.size/\PAt w' bp s j
def lg{w:Aw}{bp:Nat}{s:BA}(h:PAt w bp s i)(hG:pF w et ex)(G:bp≠0)(hs:s.size<=300)(hi:i+2<=s.size)(a2:∀pb j,xu s (i+2)=.ok (pb,j)->j<=s.size):Calls prog 72 #[P_ bp] w (YZ w bp s i et ex):=by
 obtain⟨b5,Y⟩:=y_ (YZ w bp s i et ex);rw[<- Y.o];have b6:=h.lt;have h0:=zy (show PAt (w.alloc (.cells #[O_,.int .u8 0,.nilIface] 169)) bp s i from F_ h _);have F0:=zy (show Fr w (w.alloc (.cells #[O_,.int .u8 0,.nilIface] 169)) (λx=>x=bp) from(A_ w _).alloc _);have B0:=zy (B_ w #[O_,.int .u8 0,.nilIface] 169);have a6:=zy (by simp:(w.alloc (.cells #[O_,.int .u8 0,.nilIface] 169)).heap.size=w.heap.size+1);have a0:=zy hG;have a5:i<=s.size:=M_;clear h hG;obtain⟨x,hx⟩:=x_ (bt s i);replace hx:=zy hx;cases hp:xu s (i+2) with
 |error k=>
  replace hp:=zy hp;clear a2;go_in;go_wp2_with (first
   |(go_at_call 112;apply(yr h0).mono;rintro e w' ⟨rfl,N⟩;rw[N];clear N)
   |(go_at_call 111;apply(yl h0 hs a5).mono;rintro e w1 ⟨rfl,C⟩;rw[hx.o];have h1:=h0.o.si C;have z:=(A_ (w.alloc (.cells #[O_,.int .u8 0,.nilIface] 169)) (λg=>g=bp)).si C;have P1:=F_ h1 (.cells #[I_ i,U_ x,.nilIface] 169);have c1:=PAt.c1 P1;have f1:=PAt.th P1 1;have a3:=z.size;rw[a6.o]at a3;have u:=z.alloc (.cells #[I_ i,U_ x,.nilIface] 169);have m:Fr (w1.alloc (.cells #[I_ i,U_ x,.nilIface] 169)) ((w1.alloc (.cells #[I_ i,U_ x,.nilIface] 169)).setCell ⟨bp,1,none⟩ (Z_ ((i:Int)+2))) (λg=>g=bp):=(A_ _ (λg=>g=bp)).setCell ⟨bp,1,none⟩ _ (λ_=>rfl);have B:=m.bl (u.bl B0 M_) M_;have E2:=m.bl (B_ w1 #[I_ i,U_ x,.nilIface] 169) M_;have P2:=PAt.two P1;have l:=(F0.o.trans u u_).trans m u_;have A:=a0.o.fr l (Ne.symm G);have O:=zy (x8_:((w1.alloc (.cells #[I_ i,U_ x,.nilIface] 169)).setCell ⟨bp,1,none⟩ (Z_ ((i:Int)+2))).heap.size=w1.heap.size+1);revert B E2 P2 l A;refine k_ λB E2 P2 l A=>?_;clear h1 z u m C;replace P1:=zy P1)
   |(go_at_call 113;apply(dN P2 A G hs hi).mono;rintro e H ⟨v,ev,hI,rfl,b,hm⟩;rw[hp.o]at hm;obtain⟨⟨g,b7,rfl,a1⟩,j3,a8,E⟩:=hm;have n:=b.bl B M_;obtain⟨r0,r1,r2⟩:=n.d3;obtain⟨g0,g1,g2⟩:=n.t3;replace n:=zy n;replace b:=zy b;replace a1:=zy a1;replace E:=zy E;clear hI))
  have S2:=Blk.three n (O_) (.int .u8 0) .nilIface;obtain⟨q0,q1,q2⟩:=S2.d3;refine bodyPost_ret (v:=.tuple #[.agg #[O_,.int .u8 0,.nilIface],.iface 175 (P_ g)]) z5_ rfl ?_;rw[Y.o];have a:=Fr.three H w.heap.size (O_) (.int .u8 0) .nilIface;have hz:=O.o;refine⟨0,0,.nilIface,_,rfl,.inl rfl,(l.o.trans b u_).trans a (λy hy e=>M_),?_⟩;rw[hp.o];exact⟨⟨g,M_,rfl,a.bl a1 M_⟩,j3,a8,a.bl E M_⟩
 |ok r=>
  obtain⟨pb,j⟩:=r;have hj:j<=s.size:=a2 pb j hp;clear a2;replace hp:=zy hp;go_in;go_wp2_with (first
   |(go_at_call 112;apply(yr h0).mono;rintro e w' ⟨rfl,N⟩;rw[N];clear N)
   |(go_at_call 111;apply(yl h0 hs a5).mono;rintro e w1 ⟨rfl,C⟩;rw[hx.o];have h1:=h0.o.si C;have z:=(A_ (w.alloc (.cells #[O_,.int .u8 0,.nilIface] 169)) (λg=>g=bp)).si C;have P1:=F_ h1 (.cells #[I_ i,U_ x,.nilIface] 169);have c1:=PAt.c1 P1;have f1:=PAt.th P1 1;have a3:=z.size;rw[a6.o]at a3;have u:=z.alloc (.cells #[I_ i,U_ x,.nilIface] 169);have m:Fr (w1.alloc (.cells #[I_ i,U_ x,.nilIface] 169)) ((w1.alloc (.cells #[I_ i,U_ x,.nilIface] 169)).setCell ⟨bp,1,none⟩ (Z_ ((i:Int)+2))) (λg=>g=bp):=(A_ _ (λg=>g=bp)).setCell ⟨bp,1,none⟩ _ (λ_=>rfl);have B:=m.bl (u.bl B0 M_) M_;have E2:=m.bl (B_ w1 #[I_ i,U_ x,.nilIface] 169) M_;have P2:=PAt.two P1;have l:=(F0.o.trans u u_).trans m u_;have A:=a0.o.fr l (Ne.symm G);have O:=zy (x8_:((w1.alloc (.cells #[I_ i,U_ x,.nilIface] 169)).setCell ⟨bp,1,none⟩ (Z_ ((i:Int)+2))).heap.size=w1.heap.size+1);revert B E2 P2 l A;refine k_ λB E2 P2 l A=>?_;clear h1 z u m C;replace P1:=zy P1)
   |(go_at_call 113;apply(dN P2 A G hs hi).mono;rintro e H ⟨v,ev,hI,rfl,b,hm⟩;rw[hp.o]at hm;obtain⟨rfl,E,hv⟩:=hm;obtain⟨p,q,rfl⟩:=hv.iface;have b4:=b.size;rw[O.o]at b4;have n:=b.bl B M_;have R:=b.bl E2 M_;have k2:=R.c2;have kg:=R.th 2;have M:Fr H (H.setCell ⟨w1.heap.size,2,none⟩ (.iface p q)) (λg=>g=w1.heap.size):=(A_ H (λg=>g=w1.heap.size)).setCell ⟨w1.heap.size,2,none⟩ _ (λ_=>rfl);have I:=R.set 2 (.iface p q);have J:=M.bl n M_;have T:=M.bl E M_;have U:=(hv.mono (Q:=λg=>w1.heap.size<g) (λg _ hg=>by have:=O.o;omega)).fr M (λg hg e=>M_);have D:=(l.o.trans b u_).trans M (λy hy e=>M_);have G4:=zy (a0.o.fr D (Ne.symm G));replace I:=zy I;replace J:=zy J;replace T:=zy (show PAt _ bp s j from T);replace U:=zy U;replace D:=zy D;clear hI b E hv n R M))
  obtain⟨u0,V,u2⟩:=I.o.f3;simp only[an_,ao_,aa_,ab_]at u0 V u2;obtain⟨d,a4⟩:=e_ (H.setCell ⟨w1.heap.size,2,none⟩ (.iface p q));rw[<- a4]at u0 V u2⊢;rw[<- a4]at I J T U D G4;clear a4 k2 kg;have hC:=zy (yO (c:=59) 59 (T.o.si (zw.drew d)) (G4.o.fr ((A_ d N_).si (zw.drew d)) id) G hs hj rfl D_);have b8:=J.o.lt;refine tr_ 4 (λW=>z_ W w1.heap.size 0 (I_ i)/\z_ W w1.heap.size 1 (U_ x)/\z_ W w1.heap.size 2 (.iface p q)) ?_;refine tz_ 0 ?_;refine tz_ 1 ?_;refine yz 2 rfl K_ (λ_=>⟨u0,V,u2⟩) (λK hK=>?_);go_simp;apply hC.o.mono;rintro e w8 ⟨v8,rfl,a7,hE⟩;refine hK _ _ ?_;clear hK K;have F:Fr d w8 (λg=>g=bp):=((A_ d _).si (zw.drew d)).trans a7 u_;have S:=F.bl I M_;have Z:=F.bl J M_;obtain⟨x0,x1,x2⟩:=S.f3;obtain⟨r0,r1,r2⟩:=Z.f3;obtain⟨g0,g1,g2⟩:=Z.t3;simp only[an_,ao_,aa_,ab_]at x0 x1 x2 r0 r1 r2;have a:=Fr.three w8 w.heap.size (I_ i) (U_ x) (.iface p q);have X:=a.bl S M_;obtain⟨z0,z1,z2⟩:=X.f3;simp only[an_,ao_,aa_,ab_]at z0 z1 z2;revert hE F S a X;refine k_ λhE F S a X=>?_;refine t1_ 3 ⟨x0,x1,x2⟩ ?_;refine t1_ 4 ⟨z0,z1,z2⟩ ?_;refine td_ ?_ _;have S2:=Blk.three Z (I_ i) (U_ x) (.iface p q);obtain⟨q0,q1,q2⟩:=S2.d3;clear x0 x1 x2 u0 V u2 z0 z1 z2 r0 r1 r2 g0 g1 g2;go_wp2;refine bodyPost_ret (v:=.tuple #[.agg #[I_ i,U_ x,.iface p q],v8]) z5_ rfl ?_;rw[Y.o];refine⟨(i:Int),(x:Int),.iface p q,v8,rfl,.inr ⟨_,_,rfl⟩,(D.o.trans F u_).trans a (λy hy e=>M_),?_⟩;rw[hp.o];have hz:=O.o;show(if bt s j=59 then _ else _);rcases hE.o with⟨hb,rfl,h8,a9⟩|⟨hb,hF,h8⟩
  .rw[i_ hb];exact⟨rfl,a.o.bl h8 M_,a9,rfl,by rw[hx.o],((U.o.fr F (λg hg e=>M_)).fr a (λg hg e=>M_)).mono (λg _ hg=>M_)⟩
  .rw[n_ hb];exact⟨(hF.fr a (λg hg e=>by have:d.drew.heap.size=d.heap.size:=rfl;omega)).ls (by have:d.drew.heap.size=d.heap.size:=rfl;omega),j,hj,a.o.bl h8 M_⟩
def ea(s:BA):∀(n i:Nat) (l:List PF) (j:Nat),xj s n i=.ok (l,j)->j<=s.size:=by
 intro n;induction n with
 |zero=>intro i l j h;cases h
 |succ n ih=>
  intro i l j h;unfold xj at h;split at h
  .cases h
  .rename_i f k b;split at h
   .rename_i a;simp only[ag_,ac_]at h;have:=zr (s:=s) (i:=k) M_;omega
   .split at h
    .split at h
     .cases h
     .rename_i fs c hr;simp only[ag_,ac_]at h;have:=ih _ _ _ hr;omega
    .cases h
def bk{s:BA}{b:PB}{j:Nat}(h:xu s i=.ok (b,j)):j<=s.size:=by
 unfold xu at h;split at h
 .split at h
  .cases h
  .rename_i ds k hr;simp only[ag_,ac_]at h;obtain⟨_,rfl⟩:=h;unfold yh at hr;split at hr
   .split at hr
    .rename_i a;simp only[ag_,ac_]at hr;have:=zr (s:=s) (i:=i+1+1) M_;omega
    .exact ea s _ _ _ _ hr
   .cases hr
 .split at h
  .split at h
   .cases h
   .rename_i l o k hr;simp only[ag_,ac_]at h;obtain⟨_,rfl⟩:=h;unfold xZ at hr;split at hr
    .split at hr
     .cases hr
     .rename_i d q c;split at hr
      .split at hr
       .split at hr
        .simp only[ag_,ac_]at hr;have:=zr (s:=s) (i:=q+2) M_;omega
        .cases hr
       .cases hr
      .split at hr
       .simp only[ag_,ac_]at hr;have:=zr (s:=s) (i:=q) M_;omega
       .cases hr
    .cases hr
  .split at h
   .split at h
    .simp only[ag_,ac_]at h;have:=zr (s:=s) (i:=i+1) M_;omega
    .cases h
   .cases h
def wb(w:Aw)(P:Au)(s:BA)(ds:Ar)(xs:Az):Prop:=
 ∀i d,ds[i]?=some d->∃c,xs[3*i]?=some (I_ d.place)/\xs[3*i+1]?=some (U_ d.letter)/\xs[3*i+2]?=some c/\yM w P s d.body c
def wb.mono{w:Aw}{Q:Au}{s:BA}{ds:Ar}{xs:Az}(h:wb w P s ds xs)(k:∀g,g<w.heap.size->P g->Q g):wb w Q s ds xs:=λi f e=>by
 obtain⟨c,h1,a,b,d⟩:=h i f e;exact⟨c,h1,a,b,d.mono k⟩
def wb.fr{w w':Aw}{S:Au}{s:BA}{ds:Ar}{xs:Az}(h:wb w P s ds xs)(l:Fr w w' S)(k:∀g,P g->¬S g):wb w' P s ds xs:=λi f e=>by
 obtain⟨c,h1,a,b,d⟩:=h i f e;exact⟨c,h1,a,b,d.fr l k⟩
def wb.snoc{w:Aw}{s:BA}{ds:Ar}{xs:Az}{d:PD}{c:Ax}(h:wb w P s ds xs)(hl:xs.length=ds.length*3)(hc:yM w P s d.body c):wb w P s (ds++[d]) (xs++[I_ d.place,U_ d.letter,c]):=λi f' e=>by
 by_cases hi:i<ds.length
 .rw[ay_ hi]at e;obtain⟨a,h1,b,g,k⟩:=h i f' e;exact⟨a,by rw[ay_ M_];exact h1,by rw[ay_ M_];exact b,by rw[ay_ M_];exact g,k⟩
 .have a:i=ds.length:=by
   have:=(am_.1 e).1;simp at this;omega
  subst a;rw[ax_ l_,Nat.sub_self]at e;simp only[aa_,ae_]at e;subst e;refine⟨c,?_,?_,?_,hc⟩
  .rw[ax_ M_,show 3*ds.length-xs.length=0 by omega];rfl
  .rw[ax_ M_,show 3*ds.length+1-xs.length=1 by omega];rfl
  .rw[ax_ M_,show 3*ds.length+2-xs.length=2 by omega];rfl
def BT(w:Aw)(P:Au)(s:BA)(ds:Ar)(t:PT)(sv rv:Ax):Prop:=
 ∃xs,w.ownsRow 0 169 3 sv ds.length xs/\(∀g,sv.ownBlock=some g->P g)/\wb w P s ds xs/\TyV w P t rv
def rV(w:Aw)(bp:Nat)(s:BA)(et:As)(ex:Ax)(e:Ah)(w':Aw):Prop:=
 ∃(sv rv ev:Value),e=.returned (.tuple #[.agg #[sv,rv],ev])/\(∃a n c,sv=.slice a n c)/\IfV rv/\Fr w w' (· = bp)/\
 match zQ s with
 | .ok (ds,t)=>ev=.nilIface/\BT w' (λg=>w.heap.size<=g) s ds t sv rv
 | .error k=>yq w' w.heap.size ev (k:Int) (.iface et ex)
def ml{s:BA}{ds:Ar}{j:Nat}(h:yd s 6 0=jT ds (yd s (6-ds.length) j))(hl:ds.length<=6)(hn:¬(ds.length<6/\atD s j=true)):zQ s=match pT s j with | .error k=>.error k | .ok (t,k)=>if k<s.size then .error k else .ok (ds,t):=by
 unfold zQ;rw[h];by_cases a:ds.length<6
 .have ha:atD s j=false:=by
   cases hb:atD s j with
   |false=>rfl
   |true=>exact absurd ⟨a,hb⟩ hn
  rw[show 6-ds.length=(5-ds.length)+1 by omega,wV];unfold atD at ha;by_cases hc:zZ (bt s j)=true/\j+1<s.size
  .have a:bt s (j+1)≠61:=λe=>by rw[hc.1,decide_eq_true hc.2,decide_eq_true e]at ha;cases ha
   rw[i_ hc,n_ a,nO (by simpa[zZ] using hc.1)];simp only;rw[i_ hc.2]
  .rw[n_ hc];simp only;cases pT s j with
   |error k=>rfl
   |ok r=>rfl
 .rw[show 6-ds.length=0 by omega,yd,jT,bd_];simp only;cases pT s j with
  |error k=>rfl
  |ok r=>rfl
structure SMm(w:Aw)(bp:Nat)(s:BA)(j:Nat)(sv:Ax)(ds:Ar)(xs:Az)(W:Aw):Prop where
 A:AM w bp s j (w.heap.size+1) [sv,.nilIface] 65 169 3 sv ds.length xs W
 D:wb W (λg=>w.heap.size+1+1<=g/\sv.ownBlock≠some g) s ds xs
 R:Blk W w.heap.size [L_,.nilIface] 65
section
variable {w W W':Aw} {bp:Nat} {s:BA} {j j':Nat} {sv:Ax} {ds:Ar} {xs:Az}
def SMm.call(M:SMm w bp s j sv ds xs W)(h:PAt W' bp s j')(a:Fr W W' (· = bp)):SMm w bp s j' sv ds xs W':=by
 have h1:=M.A.lt;exact⟨M.A.call h a,M.D.fr a (λg hg e=>M_),a.bl M.R M_⟩
def SMm.alloc(M:SMm w bp s j sv ds xs W)(o:Cj):SMm w bp s j sv ds xs (W.alloc o):=M.call (F_ M.A.here o) ((A_ W _).alloc o)
def SMm.si(M:SMm w bp s j sv ds xs W)(a:zw W W'):SMm w bp s j sv ds xs W':=M.call (M.A.here.si a) ((A_ W _).si a)
def SMm.item(M:SMm w bp s j sv ds xs W){o:Cj}{w5:Aw}{h c:Ax}{d:PD}(hg:(W.alloc o).grownBy w5 sv.ownBlock)(ho:w5.ownsRow (w.heap.size+1+1) 169 3 h (ds.length+1) (xs++[I_ d.place,U_ d.letter,c]))(hl:h.ownBlock=sv.ownBlock\/h.ownBlock=some (W.alloc o).heap.size)(n:yM W (λg=>w.heap.size+1+1<=g/\sv.ownBlock≠some g) s d.body c):SMm w bp s j h (ds++[d]) (xs++[I_ d.place,U_ d.letter,c]) (w5.setCell ⟨w.heap.size+1,0,none⟩ h):=by
 obtain⟨h1,k,m⟩:=M.A.item ((A_ W _).alloc o) hg ho hl 0;have off:∀g,(w.heap.size+1+1<=g/\sv.ownBlock≠some g)/\g<W.heap.size->¬(sv.ownBlock=some g\/g=w.heap.size+1):=λg hg e=>by
  rcases e with e|e
  .exact hg.1.2 e
  .have:=hg.1.1;omega
 have l:∀g,(w.heap.size+1+1<=g/\sv.ownBlock≠some g)/\g<W.heap.size->w.heap.size+1+1<=g/\h.ownBlock≠some g:=λg hg=>⟨hg.1.1,λe=>by
  rcases(m g e).2 with q|q
  .exact hg.1.2 q
  .have:=hg.2;omega⟩
 refine⟨?_,wb.snoc (((M.D.mono (Q:=λg=>(w.heap.size+1+1<=g/\sv.ownBlock≠some g)/\g<W.heap.size) (λ_ a b=>⟨b,a⟩)).fr k off).mono (λg _ hg=>l g hg)) M.A.row.1 (((n.mono (Q:=λg=>(w.heap.size+1+1<=g/\sv.ownBlock≠some g)/\g<W.heap.size) (λ_ a b=>⟨b,a⟩)).fr k off).mono (λg _ hg=>l g hg)),k.bl M.R (λe=>?_)⟩
 .rw[ah_,ap_];exact h1
 .rcases e with e|e
  .have:=M.A.row.lt _ e;omega
  .omega
end
def Kb:Tryz.prog.underlying 61=some (.slice 169):=K_
def FF:(Tryz.prog.info? 169).map (λi=>(i.zero,i.size,i.bytes))=some (some (.agg #[O_,.int .u8 0,.nilIface]),3,32):=K_
def QB(w:Aw)(bp:Nat)(s:BA)(m:Nat)(W:Aw):Prop:=
 ∃j sv ds xs,SMm w bp s j sv ds xs W/\j<=s.size/\ds.length<=6/\7-ds.length<=m/\yd s 6 0=jT ds (yd s (6-ds.length) j)
def Fr.pa(w:Aw)(b:Nat)(v0 a:Ax):Fr w ((w.setCell ⟨b,0,none⟩ v0).setCell ⟨b,1,none⟩ a) (λg=>g=b):=
 ((A_ w (λg=>g=b)).setCell ⟨b,0,none⟩ v0 (λ_=>rfl)).setCell ⟨b,1,none⟩ a (λ_=>rfl)
def Blk.pa{w:Aw}{b t:Nat}{u0 a:Ax}(h:Blk w b [u0,a] t)(v0 a:Ax):Blk ((w.setCell ⟨b,0,none⟩ v0).setCell ⟨b,1,none⟩ a) b [v0,a] t:=(h.set 0 v0).set 1 a
def ju{w W:Aw}{bp:Nat}{s:BA}{k:Nat}{a:Ax}(hk:zQ s=.error k)(c:yq W lo a (k:Int) (.iface et ex))(d:Fr w W (· = bp))(h:w.heap.size<lo):rV w bp s et ex (.returned (.tuple #[.agg #[L_,.nilIface],a])) ((W.setCell ⟨w.heap.size,0,none⟩ (L_)).setCell ⟨w.heap.size,1,none⟩ .nilIface):=by
 have b:=Fr.pa W w.heap.size (L_) .nilIface;refine⟨_,_,a,rfl,⟨_,_,_,rfl⟩,.inl rfl,d.trans b (λx hx e=>M_),?_⟩;rw[hk];exact(c.fr b (λg hg e=>M_)).ls M_
def cwiI1_{p:Prop}(h:p:=by
 (first|(have:=cc1;rw[n_ h59]at hpd;have herr:=zy (show zQ s=.error j2 by unfold zQ;rw[hpd]))|(have herr:=zy (show zQ s=.error k by unfold zQ;rw[hpd,hp])));replace hp:=zy hp;(try have:=cc1;replace h59:=zy h59);go_wp2_with (first
  |(go_at_call 71;apply(jU M.o.A.here hs hj).mono;rintro e w1 ⟨rfl,hw1⟩;rw[hat.o];have M1:=M.o.si hw1;have hC1:=zy (lg M1.A.here (hG.o.fr M1.A.fr (Ne.symm hne)) hne hs hj2 (λpb q e=>bk e));have hbB1:=M1.A.hB;replace M1:=zy M1)
  |(go_at_call 72;apply hC1.o.mono;rintro e w2 ⟨a,b,c,ev,rfl,hIc,hf2,hm⟩;rw[hp.o]at hm;(try have:=cc1;simp only[]at hm;rw[n_ h59.o]at hm);obtain⟨⟨g,hg1,rfl,hg2⟩,_⟩:=hm;rcases hIc with rfl|⟨cT,cx,rfl⟩;have R3:=(hf2.bl M1.o.R M_).alloc (.cells #[Z_ a,.int .u8 b,.nilIface] 169);have r0:=R3.c0;have r1:=R3.c1;have g0:=R3.th 0;have g1:=R3.th 1;replace R3:=zy R3;replace hf2:=zy hf2;replace hg2:=zy hg2;rotate_left;have R3:=(hf2.bl M1.o.R M_).alloc (.cells #[Z_ a,.int .u8 b,.iface cT cx] 169);have r0:=R3.c0;have r1:=R3.c1;have g0:=R3.th 0;have g1:=R3.th 1;revert hf2 hg2 R3;refine h_ λhf2 hg2 R3=>?_))
 all_goals
  have S2:=Blk.pa R3.o (L_) .nilIface;have q0:=S2.c0;have q1:=S2.c1;refine bodyPost_ret (v:=.tuple #[.agg #[L_,.nilIface],.iface 175 (P_ g)]) xj_ rfl ?_;rw[Q_.o];exact ju herr.o (lo:=w1.heap.size) ⟨g,hg1,rfl,hg2.o.alloc _⟩ ((M1.o.A.fr.trans hf2.o u_).alloc _) M_):p:=h
def iI{w:Aw}{bp:Nat}{s:BA}(h:PAt w bp s 0)(hG:pF w et ex)(hne:bp≠0)(hs:s.size<=300):Calls prog 53 #[P_ bp] w (rV w bp s et ex):=by
 obtain⟨d7,Q_⟩:=y_ (rV w bp s et ex);rw[<- Q_.o];have b5:=h.lt;have Z:QB w bp s 7 ((w.alloc (.cells #[L_,.nilIface] 65)).alloc (.cells #[L_,.nilIface] 65)):=by
  refine⟨0,L_,[],[],⟨⟨F_ (F_ h _) _,((A_ w _).alloc _).alloc _,b5,M_,by simp,?_,World.ownsRow_nil _ _ _ _⟩,λi d e=>by simp at e,(B_ w #[L_,.nilIface] 65).alloc _⟩,aj_ _,by simp,by simp,(re _).symm⟩;have:=B_ (w.alloc (.cells #[L_,.nilIface] 65)) #[L_,.nilIface] 65;simpa using this
 replace Z:=zy Z;replace hG:=zy hG;clear h;go_in;go_wp2_with fail;go_loopg [] 7 (λm W=>QB w bp s m W);case atStart=>exact Z.o
 case round=>
  clear Z;obtain⟨j,sv,ds,xs,M,hj,a8,hm,hpd⟩:=hrel;obtain⟨K,N,rfl⟩:=zh M.A.row;have Y:=M.A.fr.size;have d9:=M.A.hB;have s0:=M.A.b.c0;replace M:=zy M;by_cases h6:ds.length<6
  .have a9:(ds.length:Int)<6:=M_;cases hat:atD s j with
   |true=>
    have hd:zZ (bt s j)=true/\j+1<s.size/\bt s (j+1)=61:=by
     unfold atD at hat;simpa[and_assoc] using hat
    have hj2:j+2<=s.size:=M_;rw[show 6-ds.length=(5-ds.length)+1 by omega,wV,i_ ⟨hd.1,hd.2.1⟩,i_ hd.2.2]at hpd;replace hat:=zy hat;obtain⟨x,hx⟩:=x_ (bt s j);rw[hx]at hpd;replace hx:=zy hx;clear hd;cases hp:xu s (j+2) with
    |error k=>
     exact cwiI1_
    |ok J=>
     obtain⟨pb,j2⟩:=J;rw[hp]at hpd;simp only at hpd;by_cases h59:bt s j2=59
     .rw[i_ h59]at hpd;replace hpd:=zy hpd;replace hp:=zy hp;replace h59:=zy h59;obtain⟨ti,b6,b7,b8,b9⟩:=info_parts FF;go_wp2_with (first
       |(go_at_call 71;refine(jU M.o.A.here hs hj).mono ?_;rintro e w1 ⟨rfl,hw1⟩;rw[hat.o];have M1:=M.o.si hw1;have hC1:=zy (lg M1.A.here (hG.o.fr M1.A.fr (Ne.symm hne)) hne hs hj2 (λpb q e=>bk e));have hbB1:=M1.A.hB;replace M1:=zy M1)
       |(go_at_call 72;refine hC1.o.mono ?_;rintro e w2 ⟨a,b,c,ev,rfl,hIc,hf2,hm⟩;rw[hp.o]at hm;simp only[]at hm;rw[i_ h59.o,hx.o]at hm;obtain⟨rfl,h2,d0,rfl,rfl,u⟩:=hm;obtain⟨cT,cx,rfl⟩:=u.iface;have U:=(M1.o.call h2 hf2).alloc (.cells #[I_ j,U_ x,.iface cT cx] 169);have d2:=zy ((u.mono (Q:=λg=>w.heap.size+1+1<=g/\(Value.slice K ds.length N).ownBlock≠some g) (λg _ hg=>⟨M_,λe=>by have:=M1.o.A.row.lt g e;omega⟩)).fr ((A_ w2 N_).alloc (.cells #[I_ j,U_ x,.iface cT cx] 169)) u_);have N2:=B_ w2 #[I_ j,U_ x,.iface cT cx] 169;have t0:=U.A.b.c0;obtain⟨n0,n1,n2⟩:=N2.d3;have e2:=(M1.o.call h2 hf2).A.hB;replace U:=zy U;clear h2 u N2 hIc hf2)
       |(at_builtin;go_must (refine wpList_append_own_at _ rfl _ _ 61 rfl (w.heap.size+1+1) 169 ti _ 3 32 Kb b6 b7 b8 b9 rfl D_ (.slice K ds.length N) ds.length xs rfl ?hown _ 1 1 [I_ j,U_ x,.iface cT cx] rfl rfl (zL _ #[I_ j,U_ x,.iface cT cx] _ _ ?nn) ?one ?b1 ?b2 ?b3 ?_)
         case hown=>exact World.ownsRow.alloc U.o.A.row _
         case nn=>simp
         case one=>simp[Value.oneCell']
         case b1=>unfold maxLen;omega
         case b2=>omega
         case b3=>simp;omega
         intro v5 w5 a4 a2 d1 a7
         have r:=U.o.item (d:=⟨x,j,pb⟩) a2 a4 a7 d2.o
         have B5:=U.o.A.ie ((A_ _ _).alloc _) a2
         have e5:=B5.c0
         have f5:=B5.th 0
         obtain⟨g5,d8,rfl⟩:=zu a4 M_
         clear a2 a7 d1 a4 B5
         replace r:=zy r))
      go_roundg (7-(ds.length+1));case measure=>omega
      case rel=>exact⟨j2+1,_,ds++[⟨x,j,pb⟩],_,r.o,d0,by rw[ah_,ap_];omega,by rw[ah_,ap_];omega,by rw[ah_,ap_,show 6-(ds.length+1)=5-ds.length by omega];exact hpd.o⟩
     .have cc1:=Nat;exact cwiI1_
   |false=>
    have T:=zy (ml hpd a8 (by rw[hat];exact λe=>absurd e.2 D_));replace hat:=zy hat;clear hpd;obtain⟨R_,b4⟩:=x_ (pT s j);have a1:=(xR (s:=s) hj);cases hp:pT s j with
    |error k=>
     have herr:=zy (show zQ s=.error k by rw[T.o,hp]);replace hp:=zy hp;go_wp2_with (first
      |(go_at_call 71;refine(jU M.o.A.here hs hj).mono ?_;rintro e w1 ⟨rfl,hw1⟩;rw[hat.o];have M1:=M.o.si hw1;have hC1:=zy (wY hs _ j l_ hj _ bp et ex M1.A.here (hG.o.fr M1.A.fr (Ne.symm hne)) hne);replace M1:=zy M1)
      |(go_at_call 73;refine hC1.o.mono ?_;rintro e z ⟨v,ev,_,rfl,n,hm⟩;rw[hp.o]at hm;obtain⟨⟨g,hg1,rfl,hg2⟩,_⟩:=hm;have R3:=n.bl M1.o.R M_;have r0:=R3.c0;have r1:=R3.c1;have g0:=R3.th 0;have g1:=R3.th 1;replace R3:=zy R3;replace n:=zy n;replace hg2:=zy hg2))
     have S2:=Blk.pa R3.o (L_) .nilIface;have q0:=S2.c0;have q1:=S2.c1;refine bodyPost_ret (v:=.tuple #[.agg #[L_,.nilIface],.iface 175 (P_ g)]) xj_ rfl ?_;rw[Q_.o];exact ju herr.o (lo:=wr.heap.size) ⟨g,by have:=((A_ wr N_).si hw1).size;omega,rfl,hg2.o⟩ (M1.o.A.fr.trans n.o u_) M_
    |ok J=>
     obtain⟨t,k⟩:=J;have hk:=a1.1 t k hp;by_cases X:k<s.size
     .have herr:=zy (show zQ s=.error k by rw[T.o,hp];simp only;rw[i_ X]);have a3:(k:Int)<(s.size:Int):=M_;replace hp:=zy hp;go_wp2_with (first
       |(go_at_call 71;refine(jU M.o.A.here hs hj).mono ?_;rintro e w1 ⟨rfl,hw1⟩;rw[hat.o];have M1:=M.o.si hw1;have hC1:=zy (wY hs _ j l_ hj _ bp et ex M1.A.here (hG.o.fr M1.A.fr (Ne.symm hne)) hne);have hbB1:=M1.A.hB;replace M1:=zy M1)
       |(go_at_call 73;refine hC1.o.mono ?_;rintro e z ⟨v,ev,_,rfl,n,hm⟩;rw[hp.o]at hm;obtain⟨rfl,E,u⟩:=hm;obtain⟨B,C,rfl⟩:=u.iface;have p:=M1.o.call E n;have c0:=p.A.here.c0;have c1:=p.A.here.c1;replace p:=zy p;clear n E u))
      go_quiet (fail);have l:=p.o.si (zw.drewN z nq);generalize G:z.drewN nq=W4 at l⊢
      clear G;have a0:=zy (vz l.A.here (hG.o.fr l.A.fr (Ne.symm hne)));replace l:=zy l;go_wp2_with (go_at_call 74;refine a0.o.mono ?_;rintro e w5 ⟨v5,rfl,⟨g,hg1,rfl,hg2⟩,H⟩;have R3:=H.bl l.o.R id;have r0:=R3.c0;have r1:=R3.c1;have g0:=R3.th 0;have g1:=R3.th 1;replace R3:=zy R3;replace H:=zy H;replace hg2:=zy hg2);have S2:=Blk.pa R3.o (L_) .nilIface;have q0:=S2.c0;have q1:=S2.c1;refine bodyPost_ret (v:=.tuple #[.agg #[L_,.nilIface],.iface 175 (P_ g)]) xj_ rfl ?_;rw[Q_.o];have Y:=l.o.A.hB;exact ju herr.o (lo:=W4.heap.size) ⟨g,hg1,rfl,hg2.o⟩ (l.o.A.fr.trans H.o v_) M_
     .have a5:=zy (show zQ s=.ok (ds,t) by rw[T.o,hp];simp only;rw[n_ X]);have a3:¬((k:Int)<(s.size:Int)):=M_;replace hp:=zy hp;go_wp2_with (first
       |(go_at_call 71;refine(jU M.o.A.here hs hj).mono ?_;rintro e w1 ⟨rfl,hw1⟩;rw[hat.o];have M1:=M.o.si hw1;have hC1:=zy (wY hs _ j l_ hj _ bp et ex M1.A.here (hG.o.fr M1.A.fr (Ne.symm hne)) hne);have hbB1:=M1.A.hB;replace M1:=zy M1)
       |(go_at_call 73;refine hC1.o.mono ?_;rintro e z ⟨v,ev,_,rfl,n,hm⟩;rw[hp.o]at hm;obtain⟨rfl,E,u⟩:=hm;obtain⟨B,C,rfl⟩:=u.iface;have p:=M1.o.call E n;have c0:=p.A.here.c0;have c1:=p.A.here.c1;have V:=zy (u.mono (Q:=λg=>w.heap.size+1+1<=g) (λg _ hg=>M_));replace p:=zy p;clear n E u))
      go_quiet (fail);have l:=p.o.si (zw.drewN z nq);have S:=V.o.fr ((A_ z N_).si (zw.drewN z nq)) u_;generalize G:z.drewN nq=W4 at l S⊢;clear G;have r:=l.A.put 1 (.iface B C);have I:Fr W4 (W4.setCell ⟨w.heap.size+1,1,none⟩ (.iface B C)) (λg=>g=w.heap.size+1):=(A_ W4 (λg=>g=w.heap.size+1)).setCell ⟨w.heap.size+1,1,none⟩ _ (λ_=>rfl);have R3:=I.bl l.R M_;have k1:=l.A.b.cell 1;have kg:=l.A.b.th 1;have e0:=r.b.cell 0;have e1:=r.b.cell 1;have r0:=R3.cell 0;have r1:=R3.cell 1;have g0:=R3.th 0;have g1:=R3.th 1;simp only[an_,ao_,aa_,ab_]at k1 e0 e1 r0 r1;have O:=l.D.fr I (λg hg e=>M_);have V5:=zy (S.fr I (λg hg e=>M_));replace r:=zy r;replace l:=zy l;replace O:=zy O;replace R3:=zy R3;clear I S;go_wp2_with fail;have S2:=Blk.pa R3.o (.slice K ds.length N) (.iface B C);have q0:=S2.c0;have q1:=S2.c1;refine bodyPost_ret (v:=.tuple #[.agg #[.slice K ds.length N,.iface B C],.nilIface]) xj_ rfl ?_;rw[Q_.o];have F:=Fr.pa (W4.setCell ⟨w.heap.size+1,1,none⟩ (.iface B C)) w.heap.size (.slice K ds.length N) (.iface B C);refine⟨_,_,_,rfl,⟨_,_,_,rfl⟩,.inr ⟨_,_,rfl⟩,r.o.fr.trans F (λy hy e=>M_),?_⟩;rw[a5.o];refine⟨rfl,xs,yP (zk r.o.row F (λg hg e=>by have:=r.o.row.lt g hg;omega)),λg hg=>by have:=r.o.row.lt g hg;omega,(O.o.fr F (λg hg e=>M_)).mono (λg _ hg=>by have:=hg.1;omega),(V5.o.fr F (λg hg e=>M_)).mono (λg _ hg=>M_)⟩
  .have a9:¬((ds.length:Int)<6):=M_;have T:=zy (ml hpd a8 (λe=>h6 e.1));have hC1:=zy (wY hs _ j l_ hj _ bp et ex M.o.A.here (hG.o.fr M.o.A.fr (Ne.symm hne)) hne);have M1:=M;clear hpd;obtain⟨R_,b4⟩:=x_ (pT s j);have a1:=(xR (s:=s) hj);cases hp:pT s j with
   |error k=>
    have herr:=zy (show zQ s=.error k by rw[T.o,hp]);replace hp:=zy hp;go_wp2_with (first
     |(go_at_call 73;refine hC1.o.mono ?_;rintro e z ⟨v,ev,_,rfl,n,hm⟩;rw[hp.o]at hm;obtain⟨⟨g,hg1,rfl,hg2⟩,_⟩:=hm;have R3:=n.bl M1.o.R M_;have r0:=R3.c0;have r1:=R3.c1;have g0:=R3.th 0;have g1:=R3.th 1;replace R3:=zy R3;replace n:=zy n;replace hg2:=zy hg2))
    have S2:=Blk.pa R3.o (L_) .nilIface;have q0:=S2.c0;have q1:=S2.c1;refine bodyPost_ret (v:=.tuple #[.agg #[L_,.nilIface],.iface 175 (P_ g)]) xj_ rfl ?_;rw[Q_.o];exact ju herr.o (lo:=wr.heap.size) ⟨g,M_,rfl,hg2.o⟩ (M1.o.A.fr.trans n.o u_) M_
   |ok J=>
    obtain⟨t,k⟩:=J;have hk:=a1.1 t k hp;by_cases X:k<s.size
    .have herr:=zy (show zQ s=.error k by rw[T.o,hp];simp only;rw[i_ X]);have a3:(k:Int)<(s.size:Int):=M_;replace hp:=zy hp;go_wp2_with (first
      |(go_at_call 73;refine hC1.o.mono ?_;rintro e z ⟨v,ev,_,rfl,n,hm⟩;rw[hp.o]at hm;obtain⟨rfl,E,u⟩:=hm;obtain⟨B,C,rfl⟩:=u.iface;have p:=M1.o.call E n;have c0:=p.A.here.c0;have c1:=p.A.here.c1;replace p:=zy p;clear n E u))
     go_quiet (fail);have l:=p.o.si (zw.drewN z nq);generalize G:z.drewN nq=W4 at l⊢
     clear G;have a0:=zy (vz l.A.here (hG.o.fr l.A.fr (Ne.symm hne)));replace l:=zy l;go_wp2_with (go_at_call 74;refine a0.o.mono ?_;rintro e w5 ⟨v5,rfl,⟨g,hg1,rfl,hg2⟩,H⟩;have R3:=H.bl l.o.R id;have r0:=R3.c0;have r1:=R3.c1;have g0:=R3.th 0;have g1:=R3.th 1;replace R3:=zy R3;replace H:=zy H;replace hg2:=zy hg2);have S2:=Blk.pa R3.o (L_) .nilIface;have q0:=S2.c0;have q1:=S2.c1;refine bodyPost_ret (v:=.tuple #[.agg #[L_,.nilIface],.iface 175 (P_ g)]) xj_ rfl ?_;rw[Q_.o];have Y:=l.o.A.hB;exact ju herr.o (lo:=W4.heap.size) ⟨g,hg1,rfl,hg2.o⟩ (l.o.A.fr.trans H.o v_) M_
    .have a5:=zy (show zQ s=.ok (ds,t) by rw[T.o,hp];simp only;rw[n_ X]);have a3:¬((k:Int)<(s.size:Int)):=M_;replace hp:=zy hp;go_wp2_with (first
      |(go_at_call 73;refine hC1.o.mono ?_;rintro e z ⟨v,ev,_,rfl,n,hm⟩;rw[hp.o]at hm;obtain⟨rfl,E,u⟩:=hm;obtain⟨B,C,rfl⟩:=u.iface;have p:=M1.o.call E n;have c0:=p.A.here.c0;have c1:=p.A.here.c1;have V:=zy (u.mono (Q:=λg=>w.heap.size+1+1<=g) (λg _ hg=>M_));replace p:=zy p;clear n E u))
     go_quiet (fail);have l:=p.o.si (zw.drewN z nq);have S:=V.o.fr ((A_ z N_).si (zw.drewN z nq)) u_;generalize G:z.drewN nq=W4 at l S⊢;clear G;have r:=l.A.put 1 (.iface B C);have I:Fr W4 (W4.setCell ⟨w.heap.size+1,1,none⟩ (.iface B C)) (λg=>g=w.heap.size+1):=(A_ W4 (λg=>g=w.heap.size+1)).setCell ⟨w.heap.size+1,1,none⟩ _ (λ_=>rfl);have R3:=I.bl l.R M_;have k1:=l.A.b.cell 1;have kg:=l.A.b.th 1;have e0:=r.b.cell 0;have e1:=r.b.cell 1;have r0:=R3.cell 0;have r1:=R3.cell 1;have g0:=R3.th 0;have g1:=R3.th 1;simp only[an_,ao_,aa_,ab_]at k1 e0 e1 r0 r1;have O:=l.D.fr I (λg hg e=>M_);have V5:=zy (S.fr I (λg hg e=>M_));replace r:=zy r;replace l:=zy l;replace O:=zy O;replace R3:=zy R3;clear I S;go_wp2_with fail;have S2:=Blk.pa R3.o (.slice K ds.length N) (.iface B C);have q0:=S2.c0;have q1:=S2.c1;refine bodyPost_ret (v:=.tuple #[.agg #[.slice K ds.length N,.iface B C],.nilIface]) xj_ rfl ?_;rw[Q_.o];have F:=Fr.pa (W4.setCell ⟨w.heap.size+1,1,none⟩ (.iface B C)) w.heap.size (.slice K ds.length N) (.iface B C);refine⟨_,_,_,rfl,⟨_,_,_,rfl⟩,.inr ⟨_,_,rfl⟩,r.o.fr.trans F (λy hy e=>M_),?_⟩;rw[a5.o];refine⟨rfl,xs,yP (zk r.o.row F (λg hg e=>by have:=r.o.row.lt g hg;omega)),λg hg=>by have:=r.o.row.lt g hg;omega,(O.o.fr F (λg hg e=>M_)).mono (λg _ hg=>by have:=hg.1;omega),(V5.o.fr F (λg hg e=>M_)).mono (λg _ hg=>M_)⟩
def vK(m:Int)(L:Ai):Int:=L.foldl (λ(m:Int) (p:Nat)=>zC (p:Int) m) m
def yB(m:Int)(L M:Ai):vK m (L++M)=vK (vK m L) M:=by simp[vK]
def kS(m:Int)(p:Nat)(L:Ai):vK m (p::L)=vK (zC (p:Int) m) L:=rfl
def sD(a b:Nat)(m:Int):zC (a:Int) (zC (b:Int) m)=zC (b:Int) (zC (a:Int) m):=by
 unfold zC;by_cases h1:m<0\/(b:Int)<m<;>by_cases c:m<0\/(a:Int)<m
 .rw[i_ h1,i_ c];split<;>split<;>omega
 .rw[i_ h1,n_ c];split<;>(try split)<;>omega
 .rw[n_ h1,i_ c];split<;>omega
 .rw[n_ h1,n_ c,n_ h1]
def pj(p:Nat)(L:Ai):∀m,vK (zC (p:Int) m) L=zC (p:Int) (vK m L):=by
 induction L with
 |nil=>intro m;rfl
 |cons a r ih=>intro m;rw[kS,kS,sD,ih]
def JC(L:Ai):∀n:Nat,∃x:Nat,vK (n:Int) L=(x:Int)/\(x=n\/x∈L)/\x<=n/\∀y∈L,x<=y:=by
 induction L with
 |nil=>intro n;exact⟨n,rfl,.inl rfl,l_,λy h=>by simp at h⟩
 |cons a r ih=>
  intro n;by_cases h:a<n
  .obtain⟨x,h1,b,c,d⟩:=ih a;refine⟨x,?_,.inr ?_,M_,λy hy=>?_⟩
   .rw[kS,show zC (a:Int) (n:Int)=(a:Int) by unfold zC;rw[i_ (.inr M_)]];exact h1
   .rcases b with b|b
    .rw[b];simp
    .simp[b]
   .rcases aq_.1 hy with rfl|hy
    .exact c
    .exact d y hy
  .obtain⟨x,h1,b,c,d⟩:=ih n;refine⟨x,?_,?_,c,λy hy=>?_⟩
   .rw[kS,show zC (a:Int) (n:Int)=(n:Int) by unfold zC;rw[n_ M_]];exact h1
   .rcases b with b|b
    .exact .inl b
    .exact .inr (by simp[b])
   .rcases aq_.1 hy with rfl|hy
    .omega
    .exact d y hy
def fe(L:Ai):(L=[]/\vK (-1) L = -1)\/∃x∈L,vK (-1) L=(x:Int)/\∀y∈L,x<=y:=by
 cases L with
 |nil=>exact .inl ⟨rfl,rfl⟩
 |cons a r=>
  right;obtain⟨x,h1,b,c,d⟩:=JC r a;refine⟨x,?_,?_,λy hy=>?_⟩
  .rcases b with b|b
   .rw[b];simp
   .simp[b]
  .rw[kS,show zC (a:Int) (-1)=(a:Int) by unfold zC;rw[i_ (.inl M_)]];exact h1
  .rcases aq_.1 hy with rfl|hy
   .exact c
   .exact d y hy
def tf{M:Ai}(h:∀x,x∈L↔x∈M):vK (-1) L=vK (-1) M:=by
 rcases fe L with⟨rfl,e⟩|⟨x,hx,e,hl⟩
 .rcases fe M with⟨rfl,a⟩|⟨y,hy,_,_⟩
  .rfl
  .exact absurd ((h y).2 hy) x8_
 .rcases fe M with⟨rfl,a⟩|⟨y,hy,a,hm⟩
  .exact absurd ((h x).1 hx) x8_
  .have h1:=hl y ((h y).2 hy);have b:=hm x ((h x).1 hx);rw[e,a];omega
def Asc(lo hi:Nat):List Nat->Prop
 | []=>lo<=hi
 |x::r=>lo<=x/\Asc (x+1) hi r
def Asc.le(h:Asc lo hi L):lo<=hi:=by
 induction L generalizing lo with
 |nil=>exact h
 |cons x r ih=>have:=ih h.2;have:=h.1;omega
def Asc.up{a:Nat}(h:Asc lo hi L)(hl:a<=lo):Asc a hi L:=by
 cases L with
 |nil=>exact ai_ hl h
 |cons x r=>exact⟨ai_ hl h.1,h.2⟩
def Asc.wide{a:Nat}(h:Asc lo hi L)(hl:hi<=a):Asc lo a L:=by
 induction L generalizing lo with
 |nil=>exact ai_ h hl
 |cons x r ih=>exact⟨h.1,ih h.2⟩
def Asc.append{a:Nat}{M:Ai}(h:Asc lo a L)(k:Asc a hi M):Asc lo hi (L++M):=by
 induction L generalizing lo with
 |nil=>exact k.up h
 |cons x r ih=>exact⟨h.1,ih h.2⟩
def Asc.ge(h:Asc lo hi L):∀y∈L,lo<=y:=by
 induction L generalizing lo with
 |nil=>intro y hy;simp at hy
 |cons x r ih=>
  intro y hy;rcases aq_.1 hy with rfl|hy
  .exact h.1
  .have:=ih h.2 y hy;have:=h.1;omega
def Asc.ite{p:Nat}{c:Prop}[Decidable c](h:lo<=p)(h2:p+1<=hi):Asc lo hi (if c then [p] else []):=by
 split
 .exact⟨h,h2⟩
 .show lo<=hi;omega
def Asc.filter{l:Av}(p:Nat×Nat->Bool)(h:Asc lo hi (l.map Prod.snd)):Asc lo hi ((l.filter p).map Prod.snd):=by
 induction l generalizing lo with
 |nil=>exact h
 |cons x r ih=>
  rw[List.filter_cons];split
  .exact⟨h.1,ih h.2⟩
  .exact(ih h.2).up (by have:=h.1;omega)
def mJ:List Nat->Int
 | []=>-1
 |x::_=>(x:Int)
def lW(h:Asc lo hi L):vK (-1) L=mJ L:=by
 cases L with
 |nil=>rfl
 |cons x r=>
  rcases fe (x::r) with⟨e,_⟩|⟨y,hy,e,hl⟩
  .cases e
  .rw[e];have h1:=hl x x8_;rcases aq_.1 hy with rfl|hy
   .rfl
   .have:=h.2.ge y hy;exact absurd h1 M_
def vq(env:Ay)(us:Av):List Nat:=(us.filter (λu=>(env u.1).isNone)).map Prod.snd
def rq(seen:Ai):List PF->List Nat
 | []=>[]
 |f::r=>(if f.letter∈seen then [f.place] else [])++rq (seen++[f.letter]) r
def qh(seen:Ai):List (Nat×Nat)->List Nat
 | []=>[]
 |q::r=>(if q.1∈seen then [q.2] else [])++qh (seen++[q.1]) r
def pH(l:Av):Option (Nat×Nat)->List Nat
 |none=>[]
 |some (c,p)=>if c∈l.map Prod.fst then [] else [p]
def PB.dup:PB->List Nat
 | .recd fs=>rq [] fs
 | .enum l o=>qh [] l++pH l o
 | .bytes _=>[]
def bO(seen:Ai):List PD->List Nat
 | []=>[]
 |d::r=>d.body.dup++(if d.letter∈seen then [d.place] else [])++bO (seen++[d.letter]) r
def cX(c:Prop)[Decidable c](p:Nat)(m:Int):vK m (if c then [p] else [])=if c then zC (p:Int) m else m:=by
 split<;>rfl
def VG(fs:Am):∀a m,wrF a fs m=vK m (rq a fs):=by
 induction fs with
 |nil=>intro a m;rfl
 |cons f r ih=>intro a m;rw[wrF,rq,ih,yB,cX]
def VK(l:Av):∀a m,wrS a l m=vK m (qh a l):=by
 induction l with
 |nil=>intro a m;rfl
 |cons f r ih=>intro a m;rw[wrS,qh,ih,yB,cX]
def PB.wr_minf(b:PB)(m:Int):b.wr m=vK m b.dup:=by
 cases b with
 |recd fs=>exact VG fs [] m
 |bytes n=>rfl
 |enum l o=>
  show wrE l o m=vK m (qh [] l++pH l o);rw[yB,<- VK]
  match o with
  |none=>rfl
  |some (c,p)=>
   simp only[wrE,pH];split<;>rfl
def Vi(ds:Ar):∀a m,qp a ds m=vK m (bO a ds):=by
 induction ds with
 |nil=>intro a m;rfl
 |cons d r ih=>intro a m;rw[qp,bO,ih,yB,yB,cX,PB.wr_minf]
def VJ(env:Ay)(us:Av):∀m,wrU env us m=vK m (vq env us):=by
 induction us with
 |nil=>intro m;rfl
 |cons u r ih=>
  intro m;have h:=ih (if (env u.1).isNone=true then zC (u.2:Int) m else m);show wrU env r (if (env u.1).isNone=true then zC (u.2:Int) m else m)=_;rw[h];unfold vq;rw[List.filter_cons];split<;>rfl
def kQ(env:Ay)(seen:Ai):List PF->List Nat
 | []=>[]
 |f::r=>(if f.letter∈seen then [f.place] else [])++(vq env (zK f.ty)++kQ env (seen++[f.letter]) r)
def qs(env:Ay):PB->List Nat
 | .recd fs=>kQ env [] fs
 | .enum l o=>qh [] l++pH l o
 | .bytes _=>[]
def kK(env:Ay)(seen:Ai):List PD->List Nat
 | []=>[]
 |d::r=>(if d.letter∈seen then [d.place] else [])++(qs env d.body++kK env (seen++[d.letter]) r)
def vf(ds:Ar)(t:PT):List Nat:=kK (zx ds) [] ds++vq (zx ds) (zK t)
def qA(env:Ay)(a b:Av):vq env (a++b)=vq env a++vq env b:=by simp[vq]
def ak(env:Ay)(fs:Am)(x:Nat):∀a,x∈kQ env a fs↔x∈rq a fs\/x∈vq env (zG (fs.map PF.ty)):=by
 induction fs with
 |nil=>intro a;simp[kQ,rq,zG,vq]
 |cons f r ih=>
  intro a;rw[kQ,rq,aw_,zG,qA];simp only[bn_,ih];constructor
  .rintro(h|h|h|h)<;>simp[h]
  .rintro((h|h)|h|h)<;>simp[h]
def Vh(env:Ay)(b:PB)(x:Nat):x∈qs env b↔x∈b.dup\/x∈vq env b.us:=by
 cases b with
 |recd fs=>exact ak env fs x []
 |enum l o=>simp[qs,PB.dup,PB.us,vq]
 |bytes n=>simp[qs,PB.dup,PB.us,vq]
def ac(env:Ay)(ds:Ar)(x:Nat):∀a,x∈kK env a ds↔x∈bO a ds\/x∈vq env (ja ds):=by
 induction ds with
 |nil=>intro a;simp[kK,bO,ja,vq]
 |cons d r ih=>
  intro a;rw[kK,bO,ja,qA];simp only[bn_,ih,Vh];constructor
  .rintro(h|(h|h)|h|h)<;>simp[h]
  .rintro(((h|h)|h)|h|h)<;>simp[h]
def oO(ds:Ar)(t:PT):wrU (zx ds) (ja ds++zK t) (qp [] ds (-1))=vK (-1) (vf ds t):=by
 rw[VJ,Vi,<- yB];refine tf (λx=>?_);simp only[vf,qA,bn_,ac,or_assoc]
mutual
def yC:PT->List Nat
 | .leaf _ _=>[]
 | .wrap _ _ t=>yC t
 | .alts _ ts=>ji [] ts
def ji(seen:Ai):List PT->List Nat
 | []=>[]
 |t::r=>(if t.kind=40\/t.kind∈seen then [t.place] else [])++(yC t++ji (seen++[t.kind]) r)
end
def sQ(a:Ai)(t:PT)(m:Int):qH a t m=if t.kind=40\/t.kind∈a then zC (t.place:Int) m else m:=by
 unfold qH zC;by_cases h:t.kind=40\/t.kind∈a
 .rw[i_ h];by_cases a:m<0\/(t.place:Int)<m
  .rw[i_ ⟨h,a⟩,i_ a]
  .rw[n_ (λq=>a q.2),n_ a]
 .rw[n_ (λq=>h q.1),n_ h]
mutual
def bZ:∀(t:PT) (m:Int),mix t m=vK m (yC t)
 | .leaf c p,m=>by simp[mix,yC,vK]
 | .wrap c p t,m=>by rw[mix,yC];exact bZ t m
 | .alts p ts,m=>by rw[mix,yC];exact tg ts [] m
def tg:∀(ts:List PT) (a:List Nat) (m:Int),qZ a ts m=vK m (ji a ts)
 | [],a,m=>by simp[qZ,ji,vK]
 |t::r,a,m=>by
  rw[qZ,ji,yB,yB,tg r,sQ,bZ t m,cX];split
  .rw[pj,pj,pj]
  .rfl
end
def PB.fs:PB->List PF
 | .recd fs=>fs
 | _=>[]
def zp(ds:Ar):List PF:=ds.flatMap (λd=>d.body.fs)
def xH(ds:Ar)(t:PT):List Nat:=(zp ds).flatMap (λf=>yC f.ty)++yC t
def XJ(fs:Am):∀m,kN fs m=vK m (fs.flatMap (λf=>yC f.ty)):=by
 induction fs with
 |nil=>intro m;rfl
 |cons f r ih=>
  intro m;rw[bo_,yB,<- bZ];exact ih (mix f.ty m)
def Ve(ds:Ar):∀m,qt ds m=vK m ((zp ds).flatMap (λf=>yC f.ty)):=by
 induction ds with
 |nil=>intro m;rfl
 |cons d r ih=>
  intro m;have h:=ih (d.body.mx m);show qt r (d.body.mx m)=_;rw[h];unfold zp;rw[bo_,bj_,yB]
  congr 1
  cases d.body with
  |recd fs=>exact XJ fs m
  |enum l o=>rfl
  |bytes n=>rfl
def iW(ds:Ar)(t:PT):mix t (qt ds (-1))=vK (-1) (xH ds t):=by
 rw[bZ,Ve,xH,yB]
def cwGh1_{p:Prop}(h:p:=by
 rw[jM]at h;unfold qy at h;split at h
 ·(try have:=cc1;rename_i hb);simp only[ag_,ac_]at h;obtain⟨rfl,rfl⟩:=h;(first|(have:=cc1;unfold vo)|(rename_i hb));(first|(have:=cc1;exact .inl hb)|(simp[zK,hb,yC,Asc,PT.place]))
 .split at h
  ·(try have:=cc1;rename_i hb;have hl:=zr (s:=s) (i:=i) M_);cases hp:vJ s f (i+1) with
   |error k=>rw[hp]at h;simp at h
   |ok r=>
    obtain⟨t',j'⟩:=r;rw[hp]at h;simp only at h;split at h
    .simp only[ag_,ac_]at h;obtain⟨rfl,rfl⟩:=h;(first|(have:=cc1;unfold vo)|(obtain⟨h1,h2,_⟩:=ihT _ _ _ hp));(first|(have:=cc1;exact ihT _ _ _ M_ hp)|(exact⟨by rw[zK];exact(h1.up M_).wide M_,by rw[yC];exact(h2.up M_).wide M_,rfl⟩))
    .simp at h
  .split at h
   ·(try have:=cc1;rename_i hb;have hl:=zr (s:=s) (i:=i) M_);cases hp:xk s f (i+1) with
    |error k=>rw[hp]at h;simp at h
    |ok r=>
     obtain⟨t',j'⟩:=r;rw[hp]at h;simp only at h;split at h
     .simp only[ag_,ac_]at h;obtain⟨rfl,rfl⟩:=h;(first|(have:=cc1;have h1:=ihA _ _ _ M_ hp)|(obtain⟨h1,h2⟩:=ihA _ _ _ hp));(first|(have:=cc1;have h2:=(hbA (i+1) M_).1 _ _ hp;unfold vo;exact⟨M_,h1.2⟩)|(exact⟨by rw[zK];exact(h1.up M_).wide M_,by rw[yC];exact(h2 []).wide M_,rfl⟩))
     .simp at h
   .split at h
    ·(try have:=cc1;rename_i hb);simp only[ag_,ac_]at h;obtain⟨rfl,rfl⟩:=h;(first|(have:=cc1;unfold vo)|(rename_i hb _ _ _));(first|(have:=cc1;exact .inr hb)|(simp[zK,hb,yC,Asc,PT.place]))
    .simp at h):p:=h
def Gh(s:BA)(f:Nat):(∀i t j,vJ s f i=.ok (t,j)->Asc i j ((zK t).map Prod.snd)/\Asc (i+1) j (yC t)/\t.place=i)/\
 (∀i ts j,xk s f i=.ok (ts,j)->Asc i j ((zG ts).map Prod.snd)/\∀a,Asc i j (ji a ts)):=by
 induction f with
 |zero=>exact⟨λi t j h=>by simp[vJ]at h,λi t j h=>by simp[xk]at h⟩
 |succ f ih=>
  obtain⟨ihT,ihA⟩:=ih;refine⟨λi t j h=>?_,λi t j h=>?_⟩
  .exact cwGh1_
  .rw[jk]at h;unfold fC at h;cases hp:vJ s f i with
   |error k=>rw[hp]at h;simp at h
   |ok r=>
    obtain⟨t',j'⟩:=r;rw[hp]at h;obtain⟨h1,h2,d⟩:=ihT _ _ _ hp;have c:∀a:List Nat,Asc i j' ((if t'.kind=40\/t'.kind∈a then [t'.place] else [])++yC t'):=λa=>by
     rw[d];exact Asc.append (Asc.ite (ad_ i) (ad_ (i+1))) h2
    simp only at h;split at h
    .cases b:xk s f (j'+1) with
     |error k=>rw[b]at h;simp at h
     |ok r=>
      obtain⟨ts,k⟩:=r;rw[b]at h;simp only[ag_,ac_]at h;obtain⟨rfl,rfl⟩:=h;obtain⟨d,e⟩:=ihA _ _ _ b;refine⟨?_,λa=>?_⟩
      .rw[zG,bh_];exact h1.append (d.up M_)
      .rw[ji,<- bw_];exact(c a).append ((e _).up M_)
    .simp only[ag_,ac_]at h;obtain⟨rfl,rfl⟩:=h;refine⟨?_,λa=>?_⟩
     .rw[zG,zG,bd_];exact h1
     .rw[ji,ji,bd_];exact c a
def oe{s:BA}{j:Nat}(h:pT s i=.ok (t,j)):Asc i j ((zK t).map Prod.snd)/\Asc (i+1) j (yC t):=⟨((Gh s _).1 i t j h).1,((Gh s _).1 i t j h).2.1⟩
def dfB(s:BA)(env:Ay)(f:PF):List Nat:=
 match f.dflt with|none=>[]|some (a,b)=>if (yD env true f.ty (s.extract a b)).isSome=true then [] else [a]
def oJ{s:BA}{j:Nat}(h:zS s i=.ok (f,j)):f.place=i/\f.letter=bt s i/\zt (bt s i)=true/\
 Asc (i+1) j ((zK f.ty).map Prod.snd)/\Asc (i+1) j (yC f.ty)/\∀env,Asc (i+1) (j+1) (dfB s env f):=by
 unfold zS at h;split at h
 .rename_i b;split at h
  .split at h
   .cases h
   .rename_i t k hp;obtain⟨h1,a⟩:=oe hp;split at h
    .split at h
     .cases h
     .rename_i e hd;have hb:=fm hd;simp only[ag_,ac_]at h;obtain⟨rfl,rfl⟩:=h;have hk:=h1.le;refine⟨rfl,rfl,b,(h1.up M_).wide M_,(a.up M_).wide M_,λenv=>?_⟩;simp only[dfB];split
      .show i+1<=e+1;omega
      .exact⟨M_,by show k+1+1<=e+1;omega⟩
    .simp only[ag_,ac_]at h;obtain⟨rfl,rfl⟩:=h;have hk:=h1.le;exact⟨rfl,rfl,b,h1.up M_,a.up M_,λenv=>by show i+1<=k+1;omega⟩
  .cases h
 .cases h
def iY(s:BA)(lo hi:Nat)(l:Am):Prop:=
 (∀env seen,Asc lo hi (kQ env seen l))/\Asc lo hi (l.flatMap (λf=>yC f.ty))/\(∀env,Asc lo hi (l.flatMap (dfB s env)))/\∀f∈l,zt f.letter=true
def iY.one{s:BA}{j:Nat}(h:zS s i=.ok (f,j)):iY s i (j+1) [f]:=by
 obtain⟨h1,h0,d,a,b,c⟩:=oJ h;refine⟨λenv e=>?_,?_,λenv=>?_,λg hg=>?_⟩
 .rw[kQ,kQ,bd_,h1];exact(Asc.ite (ad_ i) (ad_ (i+1))).append ((Asc.filter _ a).wide M_)
 .rw[bo_,b4_,bd_];exact(b.up M_).wide M_
 .rw[bo_,b4_,bd_];exact(c env).up M_
 .rw[ba_]at hg;subst hg;rw[h0];exact d
def iY.cons{s:BA}{m j:Nat}{l:Am}(h:iY s i m [f])(k:iY s m j l):iY s i j (f::l):=by
 refine⟨λenv a=>?_,?_,λenv=>?_,λg hg=>?_⟩
 .have h1:=h.1 env a;rw[kQ,kQ,bd_]at h1;rw[kQ,<- bw_];exact h1.append (k.1 env _)
 .have h1:=h.2.1;rw[bo_,b4_,bd_]at h1;rw[bo_];exact h1.append k.2.1
 .have h1:=h.2.2.1 env;rw[bo_,b4_,bd_]at h1;rw[bo_];exact h1.append (k.2.2.1 env)
 .rcases aq_.1 hg with rfl|hg
  .exact h.2.2.2 g x8_
  .exact k.2.2.2 g hg
def cq22_{p:Prop}(h:p:=by
 intro n;induction n with
 |zero=>intro i l j h;cases h
 |succ n ih=>
  intro i l j h;unfold xj at h;split at h
  .cases h
  .rename_i f k a;(first|(have:=cc1;have h1:=Xq a)|(have h1:=iY.one a));split at h
   .simp only[ag_,ac_]at h;obtain⟨rfl,rfl⟩:=h;(try have:=cc1;rw[bo_,b4_,bd_]);exact h1
   .split at h
    .split at h
     .cases h
     .rename_i fs b hr;simp only[ag_,ac_]at h;obtain⟨rfl,rfl⟩:=h;(first|(have:=cc1;rw[bo_];exact h1.append (ih _ _ _ hr))|(exact h1.cons (ih _ _ _ hr)))
    .cases h):p:=h
def sj(s:BA):∀(n i:Nat) (l:List PF) (j:Nat),xj s n i=.ok (l,j)->iY s i j l:=by
 exact cq22_
def ei{s:BA}{l:Am}{j:Nat}(h:yh s i=.ok (l,j)):iY s i j l:=by
 unfold yh at h;split at h
 .split at h
  .simp only[ag_,ac_]at h;obtain⟨rfl,rfl⟩:=h;exact⟨λenv a=>by show i<=i+2;omega,by show i<=i+2;omega,λenv=>by show i<=i+2;omega,λg hg=>by simp at hg⟩
  .have h1:=sj s _ _ _ _ h;exact⟨λenv a=>(h1.1 env a).up M_,h1.2.1.up M_,λenv=>(h1.2.2.1 env).up M_,h1.2.2.2⟩
 .cases h
def oo(s:BA):∀(n i:Nat) (l:List (Nat×Nat)) (j:Nat),qC s n i=.ok (l,j)->(∀b,Asc i j (qh b l))/\(∀q∈l,zt q.1=true)/\l.length+i<=j:=by
 intro n;induction n with
 |zero=>intro i l j h;cases h
 |succ n ih=>
  intro i l j h;unfold qC at h;split at h
  .rename_i c;split at h
   .split at h
    .cases h
    .rename_i g k hr;simp only[ag_,ac_]at h;obtain⟨rfl,rfl⟩:=h;obtain⟨h1,d,e⟩:=ih _ _ _ hr;refine⟨λb=>?_,λq a=>?_,by simp;omega⟩
     .rw[qh];exact(Asc.ite (ad_ i) M_).append (h1 _)
     .rcases aq_.1 a with rfl|a
      .exact c
      .exact d q a
   .simp only[ag_,ac_]at h;obtain⟨rfl,rfl⟩:=h;refine⟨λb=>?_,λq a=>?_,by simp;omega⟩
    .rw[qh,qh,bd_];exact Asc.ite (ad_ i) l_
    .rw[ba_]at a;subst a;exact c
  .cases h
def ui{s:BA}{l:Av}{o:Ac}{j:Nat}(h:xZ s i=.ok ((l,o),j)):Asc i j (qh [] l++pH l o)/\(∀q∈l,zt q.1=true)/\(∀c p,o=some (c,p)->zt c=true)/\l.length+i<=j:=by
 unfold xZ at h;split at h
 .split at h
  .cases h
  .rename_i g k hr;obtain⟨h1,a,d⟩:=oo s _ _ _ _ hr;split at h
   .split at h
    .rename_i b;split at h
     .simp only[ag_,ac_]at h;obtain⟨⟨rfl,rfl⟩,rfl⟩:=h;refine⟨((h1 []).up M_).append ?_,a,λc p e=>?_,M_⟩
      .simp only[pH];split
       .show k<=k+3;omega
       .exact⟨M_,by show k+1+1<=k+3;omega⟩
      .simp only[ae_,ac_]at e;rw[<- e.1];exact b
     .cases h
    .cases h
   .split at h
    .simp only[ag_,ac_]at h;obtain⟨⟨rfl,rfl⟩,rfl⟩:=h;exact⟨((h1 []).up M_).append (by show k<=k+1;omega),a,λc p e=>(nomatch e),M_⟩
    .cases h
 .cases h
def smB:PB->Prop
 | .recd fs=>∀f∈fs,zt f.letter=true
 | .enum l o=>(∀q∈l,zt q.1=true)/\∀c p,o=some (c,p)->zt c=true
 | .bytes _=>True
def cq30_{p:Prop}(h:p:=by
 unfold xu at h;split at h
 .split at h
  .cases h
  .rename_i ds k hr;simp only[ag_,ac_]at h;obtain⟨rfl,rfl⟩:=h;(first|(have:=cc1;exact(oY hr).up M_)|(obtain⟨h1,a,b,c⟩:=ei hr;exact⟨λenv=>(h1 env []).up M_,a.up M_,λenv=>(b env).up M_,c⟩))
 .split at h
  .split at h
   .cases h
   .rename_i l o k hr;simp only[ag_,ac_]at h;obtain⟨rfl,rfl⟩:=h;(first|(have:=cc1;have:=(ui hr).1.le)|(obtain⟨h1,a,b,_⟩:=ui hr));(first|(have:=cc1;show i<=k)|(have:=h1.le));(first|(have:=cc1;omega)|(exact⟨λenv=>h1.up M_,by show i<=k;omega,λenv=>by show i<=k;omega,a,b⟩))
  .split at h
   .split at h
    .simp only[ag_,ac_]at h;obtain⟨rfl,rfl⟩:=h;(first|(have:=cc1;show i<=i+2;omega)|(exact⟨λenv=>by show i<=i+2;omega,by show i<=i+2;omega,λenv=>by show i<=i+2;omega,trivial⟩))
    .cases h
   .cases h):p:=h
def Xf{s:BA}{b:PB}{j:Nat}(h:xu s i=.ok (b,j)):(∀env,Asc i j (qs env b))/\Asc i j (b.fs.flatMap (λf=>yC f.ty))/\(∀env,Asc i j (b.fs.flatMap (dfB s env)))/\smB b:=by
 exact cq30_
def jA(d:PD)(r:Ar):zp (d::r)=d.body.fs++zp r:=by simp[zp]
def oK(s:BA):∀(n i:Nat) (ds:List PD) (j:Nat),yd s n i=.ok (ds,j)->
 (∀env a,Asc i j (kK env a ds))/\Asc i j ((zp ds).flatMap (λf=>yC f.ty))/\(∀env,Asc i j ((zp ds).flatMap (dfB s env)))/\(∀d∈ds,zZ d.letter=true/\smB d.body)/\ds.length<=n:=by
 intro n;induction n with
 |zero=>
  intro i ds j h;simp only[yd,ag_,ac_]at h;obtain⟨rfl,rfl⟩:=h;exact⟨λ_ _=>l_,l_,λ_=>l_,λd hd=>by simp at hd,l_⟩
 |succ n ih=>
  intro i ds j h;unfold yd at h;split at h
  .rename_i hn;split at h
   .split at h
    .cases h
    .rename_i b k hb;obtain⟨b1,b2,b3,c⟩:=Xf hb;split at h
     .split at h
      .cases h
      .rename_i o e hr;simp only[ag_,ac_]at h;obtain⟨rfl,rfl⟩:=h;obtain⟨r1,g,l,m,p⟩:=ih _ _ _ hr;refine⟨λenv a=>?_,?_,λenv=>?_,λd hd=>?_,by simp;omega⟩
       .rw[kK];exact(Asc.ite (ad_ i) (show i+1<=i+2 by omega)).append ((b1 env).append ((r1 env _).up M_))
       .rw[jA,bj_];exact(b2.up M_).append (g.up M_)
       .rw[jA,bj_];exact((b3 env).up M_).append ((l env).up M_)
       .rcases aq_.1 hd with rfl|hd
        .exact⟨hn.1,c⟩
        .exact m d hd
     .cases h
   .cases h
  .simp only[ag_,ac_]at h;obtain⟨rfl,rfl⟩:=h;exact⟨λ_ _=>l_,l_,λ_=>l_,λd hd=>by simp at hd,by simp⟩
def jF(s:BA)(ds:Ar):List Nat:=(zp ds).flatMap (dfB s (zx ds))
def jc{s:BA}{ds:Ar}(h:zQ s=.ok (ds,t)):wrU (zx ds) (ja ds++zK t) (qp [] ds (-1))=mJ (vf ds t)/\mix t (qt ds (-1))=mJ (xH ds t)/\vK (-1) (jF s ds)=mJ (jF s ds)/\(∀d∈ds,zZ d.letter=true/\smB d.body)/\ds.length<=6:=by
 exact cq38_
def Vv(s:BA)(env:Ay)(fs:Am):∀m,dK s env fs m=vK m (fs.flatMap (dfB s env)):=by
 induction fs with
 |nil=>intro m;rfl
 |cons f r ih=>
  intro m;rw[bo_,yB];show dK s env r _=_;rw[ih]
  congr 1
  show(match f.dflt with|none=>m|some (a,b)=>if (yD env true f.ty (s.extract a b)).isSome=true then m else zC (a:Int) m)=vK m (match f.dflt with|none=>[]|some (a,b)=>if (yD env true f.ty (s.extract a b)).isSome=true then [] else [a]);cases f.dflt with
  |none=>rfl
  |some q=>
   obtain⟨a,b⟩:=q;show(if (yD env true f.ty (s.extract a b)).isSome=true then m else zC (a:Int) m)=vK m (if (yD env true f.ty (s.extract a b)).isSome=true then [] else [a]);split<;>rfl
def iq(s:BA)(env:Ay)(k:Nat):xm s env k=vK (-1) ((List.range k).flatMap (λq=>(yA env q).flatMap (dfB s env))):=by
 induction k with
 |zero=>rfl
 |succ k ih=>rw[xm,Vv,ih,bt_,bj_,yB];simp
def QW{ds:Ar}:∀{a:List Nat},bO a ds=[]->(∀d∈ds,d.letter∉a)/\(ds.map PD.letter).Nodup:=by
 induction ds with
 |nil=>intro a _;exact⟨λd hd=>by simp at hd,by simp⟩
 |cons d r ih=>
  intro a h;rw[bO]at h;simp only[bu_]at h;obtain⟨⟨_,c⟩,k⟩:=h;obtain⟨b,g⟩:=ih k;have hd:d.letter∉a:=λhm=>by rw[i_ hm]at c;simp at c
  refine⟨λx hx=>?_,?_⟩
  .rcases aq_.1 hx with rfl|hx
   .exact hd
   .exact λhm=>b x hx (by simp[hm])
  .rw[aw_,List.nodup_cons];refine⟨λhm=>?_,g⟩;obtain⟨x,hx,e⟩:=bl_.1 hm;exact b x hx (by rw[e];simp)
def Zx{ds:Ar}:∀{b:Nat},(ds.map PD.letter).Nodup->∀d∈ds,(vp b d.letter ds).map Prod.fst=some d.body:=by
 induction ds with
 |nil=>intro b _ d hd;simp at hd
 |cons x r ih=>
  intro b h d hd;rw[aw_,List.nodup_cons]at h;rcases aq_.1 hd with rfl|hd
  .simp[vp]
  .have a:x.letter≠d.letter:=λe=>h.1 (e▸List.mem_map_of_mem hd);rw[vp,n_ a];exact ih h.2 d hd
def Vy{s:BA}{ds:Ar}(hn:∀d∈ds,zZ d.letter=true)(hd:(ds.map PD.letter).Nodup):xm s (zx ds) 6=vK (-1) (jF s ds):=by
 rw[iq];refine tf (λx=>?_);unfold jF zp;simp only[ch_,List.mem_range];constructor
 .rintro⟨k,hk,f,a,hx⟩;unfold yA at a;split at a
  .rename_i fs he;unfold zx at he;cases hl:vp 0 (65+k) ds with
   |none=>rw[hl]at he;cases he
   |some q=>
    obtain⟨pb,g⟩:=q;obtain⟨d,c,hb⟩:=gK hl;rw[hl]at he;simp only[a4_,ae_]at he;exact⟨f,⟨d,c,by rw[hb,he];exact a⟩,hx⟩
  .simp at a
 .rintro⟨f,⟨d,c,a⟩,hx⟩;have h1:=hn d c;have h:65<=d.letter/\d.letter<=70:=by simpa[zZ] using h1
  have e:=Zx (b:=0) hd d c;refine⟨d.letter-65,M_,f,?_,hx⟩;unfold yA;rw[show 65+(d.letter-65)=d.letter by omega];unfold zx;rw[e];cases hb:d.body with
  |recd fs=>rw[hb]at a;exact a
  |enum l o=>rw[hb]at a;exact absurd a (by simp[PB.fs])
  |bytes n=>rw[hb]at a;exact absurd a (by simp[PB.fs])
def qM{s:BA}{ds:Ar}(hs:s.size<=300)(h:zQ s=.ok (ds,t)):zl s =
 match vf ds t,xH ds t,jF s ds with
 |x::_,_,_=>(3,(x:Int))
 | [],x::_,_=>(4,(x:Int))
 | [],[],x::_=>(5,(x:Int))
 | [],[],[]=>(0,0):=by
 obtain⟨h1,a,b,c,e⟩:=jc h;unfold zl;rw[n_ M_,h];simp only;rw[h1,a];cases a:vf ds t with
 |cons x r=>simp[mJ]
 |nil=>
  have e:bO [] ds=[]:=by
   rw[List.eq_nil_iff_forall_not_mem];intro x hx;have:x∈vf ds t:=by
    unfold vf;rw[bn_,ac];exact .inl (.inl hx)
   rw[a]at this;simp at this
  rw[Vy (λd hd=>(c d hd).1) (QW e).2,b];cases a:xH ds t with
  |cons x r=>simp[mJ]
  |nil=>
   cases a:jF s ds with
   |cons x r=>simp[mJ]
   |nil=>simp[mJ]
end Go.Proofs.YtahhhgbojlkjnaaGreatDoor
