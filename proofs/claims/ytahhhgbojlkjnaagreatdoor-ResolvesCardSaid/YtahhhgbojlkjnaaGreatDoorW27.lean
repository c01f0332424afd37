import Derived.Test.YtahhhgbojlkjnaaGreatDoorW26
set_option maxHeartbeats 16000000
set_option maxRecDepth 100000
set_option linter.defProp false
set_option linter.unusedSimpArgs false
set_option linter.unusedVariables false
open Go.Proofs.Tryz
namespace Go.Proofs.YtahhhgbojlkjnaaGreatDoor
open Go.RowKit
variable {Q P:Au}{s s':BA}{nt sT rT:As}{nx sv sv' sx rx lv0 b:Ax}{w0:Aw}{ds ds':Ar}{xs xs' zs:Az}{f c:Nat}{Y0:Cx}{α β:Type}{p:Int}
def de{w:Aw}{k0:Nat}{ws:Af}{y j:PT}{n:Nat}{u:DT}{X:Cx}{uv v1:Ax}(a4:MS w0 ds ds')(ih:ZD w0 P Q s s' ds ds' sv sv' xs xs' k0 nt nx sT sx rT rx f)(M:MC w0 P Q s s' ds ds' sv sv' xs xs' k0 nt nx w)(ho:w.ownsRow 0 63 1 uv ws.length ((List.range ws.length).map X))(hX:∀i t,ws[i]?=some t->TyV w P t (X i))(hb:TyV w Q y b)(hn:ws[n]?=some j)(b6:n<=4000)(a7:okT (zx ds) j)(a8:okT (zx ds') y)(fy:xM y)(hd:Dat (zx ds) u j)(hv:DaV (zx ds) w (λg=>g<k0) u j v1)(h1:ndT u<=300)(h2:ndT u<=f):Calls prog 91 #[.agg #[sv,.iface sT sx,sv',.iface rT rx],.agg #[uv,b],.iface 135 (.agg #[I_ n,v1])] w (yi (zx ds') y k0 w nt nx (mkP (zx ds) (zx ds') (yN (zx ds') s') f j y u)):=by
 obtain⟨b7,V⟩:=y_ (yi (zx ds') y k0 w nt nx (mkP (zx ds) (zx ds') (yN (zx ds') s') f j y u));rw[<- V.o];have b5:n<ws.length:=(am_.1 hn).1;obtain⟨g,S,rfl⟩:=zu ho M_;obtain⟨H,J,rfl⟩:=zh M.D.row;obtain⟨B,F,rfl⟩:=zh M.E.row;obtain⟨O,bx,rfl⟩:=hb.iface;obtain⟨T,dx,rfl⟩:=hv.iface;obtain⟨tT,tx,a1⟩:=(hX n j hn).iface;have A:=λW (d:Fr w W N_)=>(ih W j y u (X n) _ _ (M.new d) ((hX n j hn).fr d u_) (hb.fr d u_) a7 a8 fy hd (hv.fr d u_) h1 h2).mono (λe w' q=>yi.two d q);rw[a1]at A;have a6:∀W,Fr w W N_->W.cell? ⟨g,n,none⟩=some (.iface tT tx):=λW d=>by
  have:=ze (zk ho d u_) rfl (k:=n) (x:=X n) (by rw[a1_,List.getElem?_range b5];rfl);rw[a1]at this;exact this
 have a0:=λW (d:Fr w W N_)=>(M.new d).G;have hI:=a4.I;have b8:(n:Int)<(ws.length:Int):=M_;have b9:¬((n:Int)<0):=M_;obtain⟨m,hwz⟩:=e_ (((w.alloc (.cells #[.slice H ds.length J,.iface sT sx,.slice B ds'.length F,.iface rT rx] 101)).alloc (.cells #[S_ g ws.length S,.iface O bx] 222)).alloc (.cells #[I_ n,.iface T dx] 135));have N:Fr w m N_:=xt_
 have K:Blk m w.heap.size [.slice H ds.length J,.iface sT sx,.slice B ds'.length F,.iface rT rx] 101:=by
  rw[hwz];exact((B_ w #[.slice H ds.length J,.iface sT sx,.slice B ds'.length F,.iface rT rx] 101).alloc _).alloc _
 have B1:Blk m (w.heap.size+1) [S_ g ws.length S,.iface O bx] 222:=by
  rw[hwz];have h:=(B_ (w.alloc (.cells #[.slice H ds.length J,.iface sT sx,.slice B ds'.length F,.iface rT rx] 101)) #[S_ g ws.length S,.iface O bx] 222).alloc (.cells #[I_ n,.iface T dx] 135);rw[yx]at h;exact h
 have L:Blk m (w.heap.size+1+1) [I_ n,.iface T dx] 135:=by
  rw[hwz];have h:=B_ ((w.alloc (.cells #[.slice H ds.length J,.iface sT sx,.slice B ds'.length F,.iface rT rx] 101)).alloc (.cells #[S_ g ws.length S,.iface O bx] 222)) #[I_ n,.iface T dx] 135;rw[yx,yx]at h;exact h
 obtain⟨CL,a⟩:∃C:World->Prop,C=λW=>W.cell? ⟨w.heap.size,0,none⟩=some (.slice H ds.length J)/\W.cell? ⟨w.heap.size,1,none⟩=some (.iface sT sx)/\W.cell? ⟨w.heap.size,2,none⟩=some (.slice B ds'.length F)/\W.cell? ⟨w.heap.size,3,none⟩=some (.iface rT rx)/\W.cell? ⟨w.heap.size+1,0,none⟩=some (S_ g ws.length S)/\W.cell? ⟨w.heap.size+1,1,none⟩=some (.iface O bx)/\W.cell? ⟨w.heap.size+1+1,0,none⟩=some (I_ n)/\W.cell? ⟨w.heap.size+1+1,1,none⟩=some (.iface T dx)/\W.cell? ⟨g,n,none⟩=some (.iface tT tx):=⟨_,rfl⟩;have Y:=zy (λW (d:Fr m W N_)=>show CL W by
  rw[a]
  exact⟨(d.bl K id).cell 0,(d.bl K id).cell 1,(d.bl K id).cell 2,(d.bl K id).cell 3,(d.bl B1 id).cell 0,(d.bl B1 id).cell 1,(d.bl L id).cell 0,(d.bl L id).cell 1,a6 W (N.trans d u_)⟩)
 replace L:=zy L;replace N:=zy N;replace hwz:=zy hwz;replace a:=zy a;replace a0:=zy a0;replace hI:=zy hI;generalize mkP (zx ds) (zx ds') (yN (zx ds') s') f j y u=o at A V;replace A:=zy A;cases o with
 |none=>
  go_in;go_wp2;rw[<- hwz.o];refine tR_ CL ?_;refine zm 0 ?v0 rfl K_ (λ_ _ _ h=>h) K_ ?yv0 ?_;case yv0=>(intro W h;rw[a.o]at h;obtain⟨c0,c1,c2,c3,c4,c5,c6,c7,c8⟩:=h;go_simp<;>rfl)
  refine zm 1 ?v1 rfl K_ (λ_ _ _ h=>h) K_ ?yv1 ?_;case yv1=>(intro W h;rw[a.o]at h;obtain⟨c0,c1,c2,c3,c4,c5,c6,c7,c8⟩:=h;go_simp<;>rfl)
  refine zm 2 ?v2 rfl K_ (λ_ _ _ h=>h) K_ ?yv2 ?_;case yv2=>(intro W h;rw[a.o]at h;obtain⟨c0,c1,c2,c3,c4,c5,c6,c7,c8⟩:=h;go_simp<;>rfl)
  refine zm 3 ?v3 rfl K_ (λ_ _ _ h=>h) K_ ?yv3 ?_;case yv3=>(intro W h;rw[a.o]at h;obtain⟨c0,c1,c2,c3,c4,c5,c6,c7,c8⟩:=h;go_simp<;>rfl)
  refine zm 4 ?v4 rfl K_ (λ_ _ _ h=>h) K_ ?yv4 ?_;case yv4=>(intro W h;rw[a.o]at h;obtain⟨c0,c1,c2,c3,c4,c5,c6,c7,c8⟩:=h;go_simp<;>rfl)
  refine zm 5 ?v5 rfl K_ (λ_ _ _ h=>h) K_ ?yv5 ?_;case yv5=>(intro W h;rw[a.o]at h;obtain⟨c0,c1,c2,c3,c4,c5,c6,c7,c8⟩:=h;go_simp<;>rfl)
  refine zm 6 ?v6 rfl K_ (λ_ _ _ h=>h) K_ ?yv6 ?_;case yv6=>(intro W h;rw[a.o]at h;obtain⟨c0,c1,c2,c3,c4,c5,c6,c7,c8⟩:=h;go_simp<;>rfl)
  refine zm 7 ?v7 rfl K_ (λ_ _ _ h=>h) K_ ?yv7 ?_;case yv7=>(intro W h;rw[a.o]at h;obtain⟨c0,c1,c2,c3,c4,c5,c6,c7,c8⟩:=h;go_simp<;>rfl)
  refine zm 8 ?v8 rfl K_ (λ_ _ _ h=>h) K_ ?yv8 ?_;case yv8=>(intro W h;rw[a.o]at h;obtain⟨c0,c1,c2,c3,c4,c5,c6,c7,c8⟩:=h;go_simp<;>rfl)
  refine zm 9 ?v9 rfl K_ (λ_ _ _ h=>h) K_ ?yv9 ?_;case yv9=>(intro W h;rw[a.o]at h;obtain⟨c0,c1,c2,c3,c4,c5,c6,c7,c8⟩:=h;go_simp<;>rfl)
  refine zm 10 ?v10 rfl K_ (λ_ _ _ h=>h) K_ ?yv10 ?_;case yv10=>(intro W h;rw[a.o]at h;obtain⟨c0,c1,c2,c3,c4,c5,c6,c7,c8⟩:=h;go_simp<;>rfl)
  refine zd 11 rfl K_ (Y.o _ (A_ m _).drew) (λK1 U=>?_);go_simp;apply(A.o _ N.o.drew).mono;rintro e w1 ⟨z,v1,a9,rfl,r,a3,Z⟩;subst a3;obtain⟨eT,ex,rfl⟩:=Z.iface;have d:=(((A_ m N_).drew.trans z u_).bl L id).cell 0;simp only[aa_]at d;have d:=zy (a0.o _ r);replace z:=zy z;replace r:=zy r;replace Z:=zy Z;refine U _ _ ?_;refine tY_ 12 ?_;refine tY_ 13 ?_;refine tY_ 14 ?_;refine tY_ 15 ?_;refine tY_ 16 ?_;refine zV K_ (Y.o _ ((A_ m N_).drew.trans z u_)) ?_ _;go_wp2_with (go_at_call 131;apply(wM hI d b6).mono;rintro e d a5;have b4:=zy (λv (he:e=.returned v)=>Z.o.wrap a5 (r.o.size) he);obtain⟨d,d,rfl,d,d,a2⟩:=a5;replace a2:=zy a2);try go_ret
  rw[V.o];exact⟨_,_,rfl,r.o.trans a2 u_,rfl,b4.o _ rfl⟩
 |some x=>
  go_in;go_wp2;rw[<- hwz.o];refine tR_ CL ?_;refine zm 0 ?z0 rfl K_ (λ_ _ _ h=>h) K_ ?yz0 ?_;case yz0=>(intro W h;rw[a.o]at h;obtain⟨c0,c1,c2,c3,c4,c5,c6,c7,c8⟩:=h;go_simp<;>rfl)
  refine zm 1 ?z1 rfl K_ (λ_ _ _ h=>h) K_ ?yz1 ?_;case yz1=>(intro W h;rw[a.o]at h;obtain⟨c0,c1,c2,c3,c4,c5,c6,c7,c8⟩:=h;go_simp<;>rfl)
  refine zm 2 ?z2 rfl K_ (λ_ _ _ h=>h) K_ ?yz2 ?_;case yz2=>(intro W h;rw[a.o]at h;obtain⟨c0,c1,c2,c3,c4,c5,c6,c7,c8⟩:=h;go_simp<;>rfl)
  refine zm 3 ?z3 rfl K_ (λ_ _ _ h=>h) K_ ?yz3 ?_;case yz3=>(intro W h;rw[a.o]at h;obtain⟨c0,c1,c2,c3,c4,c5,c6,c7,c8⟩:=h;go_simp<;>rfl)
  refine zm 4 ?z4 rfl K_ (λ_ _ _ h=>h) K_ ?yz4 ?_;case yz4=>(intro W h;rw[a.o]at h;obtain⟨c0,c1,c2,c3,c4,c5,c6,c7,c8⟩:=h;go_simp<;>rfl)
  refine zm 5 ?z5 rfl K_ (λ_ _ _ h=>h) K_ ?yz5 ?_;case yz5=>(intro W h;rw[a.o]at h;obtain⟨c0,c1,c2,c3,c4,c5,c6,c7,c8⟩:=h;go_simp<;>rfl)
  refine zm 6 ?z6 rfl K_ (λ_ _ _ h=>h) K_ ?yz6 ?_;case yz6=>(intro W h;rw[a.o]at h;obtain⟨c0,c1,c2,c3,c4,c5,c6,c7,c8⟩:=h;go_simp<;>rfl)
  refine zm 7 ?z7 rfl K_ (λ_ _ _ h=>h) K_ ?yz7 ?_;case yz7=>(intro W h;rw[a.o]at h;obtain⟨c0,c1,c2,c3,c4,c5,c6,c7,c8⟩:=h;go_simp<;>rfl)
  refine zm 8 ?z8 rfl K_ (λ_ _ _ h=>h) K_ ?yz8 ?_;case yz8=>(intro W h;rw[a.o]at h;obtain⟨c0,c1,c2,c3,c4,c5,c6,c7,c8⟩:=h;go_simp<;>rfl)
  refine zm 9 ?z9 rfl K_ (λ_ _ _ h=>h) K_ ?yz9 ?_;case yz9=>(intro W h;rw[a.o]at h;obtain⟨c0,c1,c2,c3,c4,c5,c6,c7,c8⟩:=h;go_simp<;>rfl)
  refine zm 10 ?z10 rfl K_ (λ_ _ _ h=>h) K_ ?yz10 ?_;case yz10=>(intro W h;rw[a.o]at h;obtain⟨c0,c1,c2,c3,c4,c5,c6,c7,c8⟩:=h;go_simp<;>rfl)
  refine zd 11 rfl K_ (Y.o _ (A_ m _).drew) (λK1 U=>?_);go_simp;apply(A.o _ N.o.drew).mono;rintro e w1 ⟨z,v1,a9,rfl,r,a3,Z⟩;subst a3;obtain⟨eT,ex,rfl⟩:=Z.iface;replace z:=zy z;replace r:=zy r;replace Z:=zy Z;refine U _ _ ?_;refine tY_ 12 ?_;refine tY_ 13 ?_;refine tY_ 14 ?_;refine tY_ 15 ?_;refine tY_ 16 ?_;refine zV K_ (Y.o _ ((A_ m N_).drew.trans z u_)) ?_ _;go_wp2;try go_ret
  rw[V.o];exact⟨_,_,rfl,r,rfl,Z⟩
def fo{g:α->Option β}{a:α}{b:β}(hb:g a=some b):∀{l:List α}{m:List β},yb g l=some m->yb g (l++[a])=some (m++[b])
 | [],m,h=>by simp only[yb,ae_]at h;subst h;simp[yb,hb]
 |x::r,m,h=>by
  unfold yb at h;split at h
  .cases h
  .rename_i c hc;split at h
   .cases h
   .rename_i d hl;simp only[ae_]at h;subst h;rw[bf_];unfold yb;rw[hc,fo hb hl];rfl
def fZ{g:α->Option β}{a:α}(hn:g a=none):∀{l:List α},a∈l->yb g l=none
 | [],h=>by cases h
 |x::r,h=>by
  unfold yb;rcases aq_.1 h with rfl|h
  .rw[hn]
  .rw[fZ hn h];split<;>rfl
def lB{g:α->Option β}{l:List α}{m:List β}(h:yb g l=some m):m.length=l.length:=(gJ h).1
structure ML(er:Ay)(k0:Nat)(cs0:Az)(ct0:As)(cs1:Az)(ct1:As)(t:PT)(w:Aw)(lv:Ax)(l:Ak)(W:Aw):Prop where
 fr:Fr w W N_
 b0:Blk W w.heap.size cs0 ct0
 b1:Blk W (w.heap.size+1) cs1 ct1
 bB:w.heap.size+2<=W.heap.size
 row:jG er W (w.heap.size+2) (λg=>(g<k0\/w.heap.size+2<=g)/\lv.ownBlock≠some g) t lv l
section
variable {er:Ay} {k0:Nat} {cs0 cs1:Az} {ct0 ct1:As} {t:PT} {w W W':Aw} {lv:Ax} {l:Ak}
def ML.call(Q:ML er k0 cs0 ct0 cs1 ct1 t w lv l W)(a:Fr W W' N_):ML er k0 cs0 ct0 cs1 ct1 t w lv l W':=
 ⟨Q.fr.trans a u_,a.bl Q.b0 id,a.bl Q.b1 id,ai_ Q.bB a.size,Q.row.fr a u_ u_⟩
def cq26_{p:Prop}(h:p:=by
 have j:=Q.bB;have m:(W.alloc o).heap.size=W.heap.size+1:=by simp
 (first|(have:=cc1)|(obtain⟨Y0,a,_⟩:=Q.row));have d:Fr W w5 (λg=>lv.ownBlock=some g):=((A_ W _).alloc o).gr hg (λk e _=>e);have i:∀g,lv.ownBlock=some g->w.heap.size+2<=g:=λg e=>(a.lt g e).1;(first|(have:=cc1;refine⟨Q.fr.trans d (λx hx e=>absurd (i x e) M_),d.bl Q.b0 (λe=>by have:=i _ e;omega),d.bl Q.b1 (λe=>by have:=i _ e;omega),ai_ j d.size,_,by rw[ah_,ap_];exact ho,qJ.growJ hY hd hk d ?_⟩)|(refine⟨Q.fr.trans d (λx hx e=>absurd (i x e) M_),d.bl Q.b0 (λe=>by have:=i _ e;omega),d.bl Q.b1 (λe=>by have:=i _ e;omega),ai_ j d.size,jG.growJ hY hd d ?_ ho⟩));rcases hl with e|e
 .exact .inl e
 .exact .inr ⟨_,e,M_⟩):p:=h
def ML.item(Q:ML er k0 cs0 ct0 cs1 ct1 t w lv l W){o:Cj}{w5:Aw}{v5 v:Ax}{d:DT}{Y:Cx}(hY:∀i d,l[i]?=some d->DaV er W (λg=>(g<k0\/w.heap.size+2<=g)/\lv.ownBlock≠some g) d (zN er t 0 i) (Y i))(hd:DaV er W (λg=>(g<k0\/w.heap.size+2<=g)/\lv.ownBlock≠some g) d (zN er t 0 l.length) v)(hg:(W.alloc o).grownBy w5 lv.ownBlock)(ho:w5.ownsRow (w.heap.size+2) 69 1 v5 (l.length+1) (((List.range l.length).flatMap λi=>[Y i])++[v]))(hl:v5.ownBlock=lv.ownBlock\/v5.ownBlock=some (W.alloc o).heap.size):ML er k0 cs0 ct0 cs1 ct1 t w v5 (l++[d]) w5:=by
 exact cq26_
def ML.done(Q:ML er k0 cs0 ct0 cs1 ct1 t w lv l W){T:As}(hc:(c=91/\T=129)\/(c=114/\T=136)):DaV er W (λg=>g<k0\/w.heap.size<=g) (.mk c 0 noB [] l) t (.iface T lv):=
 Q.row.dat (λg _ hg=>M_) (λg e=>by obtain⟨_,a,_⟩:=Q.row;have:=(a.lt g e).1;show g<k0\/w.heap.size<=g;omega) hc
end
def cwlU1_{p:Prop}(h:p:=by
 rw[hrd]at hC;(first|(have:=cc1;have hr:=zy (show yb R fr=none from fZ hrd hmem.o))|(have hr:=zy (show yb R l0=none from fZ hrd hmem.o)));replace hC:=zy hC;(first|(have:=cc2;clear hrow hY hrd)|(clear hrow hY hrd FA));go_wp2_with (first
  |((first|go_at_call 34|go_at_call 137);apply hC.o.mono;rintro e w1 ⟨v1,ev1,rfl,hf1,hv1,a⟩;subst hv1;obtain⟨j,j,rfl⟩:=a.iface;(first|(have:=cc1;have j:=(hf1.bl BE.o id).c1)|(have:=cc2;have j:=zy (hGd.o _ (hQ.o.fr.trans hf1 u_)))|(have j:=zy (hGd.o _ (hQa.o.fr.trans hf1 u_));have n0:=(hf1.bl BE.o id).c0));replace a:=zy a;replace hf1:=zy hf1)
  |((first|go_at_call 129|go_at_call 132|go_at_call 128);(first|(have:=cc1;apply(gW hlet.o).mono)|(have:=cc2;apply(pm hI.o j.o M_).mono)|(apply(kE hI.o j.o hkz).mono));rintro e j n;have m:=zy (λv (he:e=.returned v)=>a.o.wrap n (hf1.o.size) he);obtain⟨a,a,rfl,a,a,k⟩:=n;replace k:=zy k;clear a))
 try go_ret
 rw[Q_.o,hr.o];(first|(have:=cc2;exact⟨_,_,rfl,(hQ.o.fr.trans hf1.o u_).trans k.o u_,rfl,(m.o _ rfl).ls hQ.o.fr.size⟩)|(exact⟨_,_,rfl,(hQa.o.fr.trans hf1.o u_).trans k.o u_,rfl,(m.o _ rfl).ls hQa.o.fr.size⟩))):p:=h
def lU{w:Aw}{k0:Nat}{u u':PT}{p':Nat}{l0:Ak}{a:Ax}(O:MS w0 ds ds')(X:ZD w0 P Q s s' ds ds' sv sv' xs xs' k0 nt nx sT sx rT rx f)(M:MC w0 P Q s s' ds ds' sv sv' xs xs' k0 nt nx w)(ha:TyV w P u a)(hb:TyV w Q u' b)(Z:okT (zx ds) u)(a0:okT (zx ds') u')(fy:xM u')(ho:w.ownsRow 0 69 1 lv0 l0.length ((List.range l0.length).flatMap λi=>[Y0 i]))(hd:∀d∈l0,Dat (zx ds) d u)(N:∀i d,l0[i]?=some d->DaV (zx ds) w (λg=>g<k0) d u (Y0 i))(h1:zM l0<=299)(h2:zM l0<=f):Calls prog 134 #[.agg #[sv,.iface sT sx,sv',.iface rT rx],.agg #[a,b],lv0] w (yi (zx ds') (.wrap 91 p' u') k0 w nt nx ((yb (mkP (zx ds) (zx ds') (yN (zx ds') s') f u u') l0).map λl=>.mk 91 0 noB [] l)):=by
 obtain⟨j,Q_⟩:=y_ (yi (zx ds') (.wrap 91 p' u') k0 w nt nx ((yb (mkP (zx ds) (zx ds') (yN (zx ds') s') f u u') l0).map λl=>.mk 91 0 noB [] l));rw[<- Q_.o];obtain⟨y,z,rfl⟩:=zh M.D.row;obtain⟨n,r,rfl⟩:=zh M.E.row;obtain⟨j,j,rfl⟩:=zh ho;obtain⟨B,C,rfl⟩:=ha.iface;obtain⟨F,bx,rfl⟩:=hb.iface;have K:=zy (λW (j:Fr w W N_) i d v (hi:l0[i]?=some d) (a8:Y0 i=v)=>X W u u' d _ _ v (M.new j) (ha.fr j u_) (hb.fr j u_) Z a0 fy (hd d (al_ hi)) (a8▸(N i d hi).fr j u_) yz_ yz_);have hGd:=zy (λW (j:Fr w W N_)=>(M.new j).G);have hI:=zy O.I;have hk0:=zy M.k;have j:l0.length<=300:=by have:=xY l0;omega
 generalize hR:mkP (zx ds) (zx ds') (yN (zx ds') s') f u u'=R at K Q_;obtain⟨wz,H⟩:=e_ ((w.alloc (.cells #[.slice y ds.length z,.iface sT sx,.slice n ds'.length r,.iface rT rx] 101)).alloc (.cells #[.iface B C,.iface F bx] 228));have A:ML (zx ds') k0 [.slice y ds.length z,.iface sT sx,.slice n ds'.length r,.iface rT rx] 101 [.iface B C,.iface F bx] 228 (.wrap 91 p' u') w (L_) [] wz:=by
  rw[H];refine⟨((A_ w N_).alloc _).alloc _,(B_ w #[.slice y ds.length z,.iface sT sx,.slice n ds'.length r,.iface rT rx] 101).alloc _,?_,by rw[yx,yx];omega,jG.nil _ _ _ _ _⟩;have h:=B_ (w.alloc (.cells #[.slice y ds.length z,.iface sT sx,.slice n ds'.length r,.iface rT rx] 101)) #[.iface B C,.iface F bx] 228;rw[yx]at h;exact h
 have L:∀i d,(hi:l0[i]?=some d)->∃T x,Y0 i=.iface T x:=λi d hi=>(N i d hi).iface;replace A:=zy A;replace H:=zy H;replace ho:=zy ho;replace L:=zy L;have hsub:∀i,zN (zx ds') (.wrap 91 p' u') 0 i=u':=λi=>rfl;generalize zx ds'=er at K Q_ A hsub;replace hsub:=zy hsub;go_in;go_wp2;rw[<- H.o];go_loopg [8,15] (l0.length+1) (λm j v W=>∃(q:Nat) (l:List DT),v=I_ q/\q<=l0.length/\l0.length+1-q<=m/\H_ (yb R (l0.take q)=some l)/\H_ (ML er k0 [.slice y ds.length z,.iface sT sx,.slice n ds'.length r,.iface rT rx] 101 [.iface B C,.iface F bx] 228 (.wrap 91 p' u') w j l W));case atStart=>exact⟨0,[],rfl,aj_ _,M_,zy rfl,zy A⟩
 case round=>
  obtain⟨q,l,rfl,j,hm,hmp,hQ⟩:=hrel;have hll:l.length=q:=by have:=lB hmp;rw[b8_]at this;omega
  obtain⟨Y,hrow,hY⟩:=hQ.o.row;rw[hll]at hrow;obtain⟨la,lc,rfl⟩:=zh hrow;by_cases hlt:q<l0.length
  .have a5:(q:Int)<(l0.length:Int):=M_;have hdq:l0[q]?=some l0[q]:=ak_ hlt;generalize l0[q]=d at hdq;obtain⟨g,j,j⟩:=zu ho M_;cases j;obtain⟨T,x,hx⟩:=L.o q d hdq;have j:wr.cell? ⟨g,q,none⟩=some (.iface T x):=by
    rw[<- hx];exact gp (zk ho hQ.o.fr u_) hlt
   obtain⟨j,j,j,j⟩:=hQ.o.b0.d4;have j:=hQ.o.b1.c0;have j:=hQ.o.b1.c1;have hC:=K.o wr hQ.o.fr q d _ hdq hx;have j:=hQ.o.bB;have hmem:=zy (al_ hdq);replace hdq:=zy hdq;cases hrd:R d with
   |none=>
    have cc2:=Nat;exact cwlU1_
   |some x1=>
    rw[hrd]at hC;have a6:=zy (show yb R (l0.take (q+1))=some (l++[x1]) by rw[a8_,hdq.o];exact fo hrd hmp);replace hC:=zy hC;replace hY:=zy hY;replace hrow:=zy hrow;obtain⟨ti,a1,a2,a3,a4⟩:=info_parts kO;go_wp2_with (first
     |(go_at_call 34;apply hC.o.mono;rintro e w1 ⟨v1,ev1,rfl,hf1,hv1,J⟩;subst hv1;obtain⟨S,dx,rfl⟩:=J.iface;have j:=hQ.o.call hf1;have n:=j.bB;have y:=zy (zk hrow hf1 u_);have n:=zy (J.mono (Q:=λg=>(g<k0\/w.heap.size+2<=g)/\(Value.slice la q lc).ownBlock≠some g) (λg _ hg=>⟨M_,λe=>by have:=hrow.o.lt g e;have:=hk0.o;omega⟩));have r:=zy (λi d (e:l[i]?=some d)=>(hY.o i d e).fr hf1 u_);replace j:=zy j)
     |(at_builtin;go_must (refine wpList_append_own_at _ rfl _ _ 129 rfl (w.heap.size+2) 69 ti _ 1 16 nJ a1 a2 a3 a4 rfl D_ (.slice la q lc) q ((List.range q).flatMap λi=>[Y i]) rfl ?hown _ 1 1 [.iface S dx] rfl rfl (zL _ #[.iface S dx] _ _ ?nn) ?one ?b1 ?b2 ?b3 ?_)
       case hown=>exact World.ownsRow.alloc y _
       case nn=>simp
       case one=>simp[Value.oneCell']
       case b1=>unfold maxLen;omega
       case b2=>omega
       case b3=>simp;omega
       intro y y ho5 U a7 V
       have J:=j.o.item (d:=x1) r (by rw[hsub.o];exact n) U zc_ V
       obtain⟨j,j,rfl⟩:=zu ho5 M_
       replace J:=zy J))
    go_roundg (l0.length+1-(q+1));case measure=>omega
    case rel=>exact⟨q+1,l++[x1],by simp,hlt,l_,a6,J⟩
  .have a5:¬((q:Int)<(l0.length:Int)):=M_;have hr:=zy (show yb R l0=some l by have:=hmp.o;rwa[a6_ M_]at this);go_wp2;try go_ret
   rw[Q_.o,hr.o];exact⟨_,_,rfl,hQ.o.fr,rfl,hQ.o.done (.inl ⟨rfl,rfl⟩)⟩
structure MLm(er:Ay)(k0:Nat)(cs0:Az)(ct0:As)(cs1:Az)(ct1:As)(t:PT)(w:Aw)(lv:Ax)(l:Ae)(W:Aw):Prop where
 fr:Fr w W N_
 b0:Blk W w.heap.size cs0 ct0
 b1:Blk W (w.heap.size+1) cs1 ct1
 bB:w.heap.size+2<=W.heap.size
 row:∃ys,W.ownsRow (w.heap.size+2) 133 2 lv l.length ys/\qJ er W (λg=>(g<k0\/w.heap.size+2<=g)/\lv.ownBlock≠some g) t l ys
section
variable {er:Ay} {k0:Nat} {cs0 cs1:Az} {ct0 ct1:As} {t:PT} {w W W':Aw} {lv:Ax} {l:Ae}
def MLm.call(Q:MLm er k0 cs0 ct0 cs1 ct1 t w lv l W)(d:Fr W W' N_):MLm er k0 cs0 ct0 cs1 ct1 t w lv l W':=
 ⟨Q.fr.trans d u_,d.bl Q.b0 id,d.bl Q.b1 id,ai_ Q.bB d.size,by obtain⟨ys,a,b⟩:=Q.row;exact⟨ys,zk a d u_,b.fr d u_⟩⟩
def MLm.item(Q:MLm er k0 cs0 ct0 cs1 ct1 t w lv l W){o:Cj}{w5:Aw}{v5 v:Ax}{d:DT}{key:BA}{ys:Az}(a:W.ownsRow (w.heap.size+2) 133 2 lv l.length ys)(hY:qJ er W (λg=>(g<k0\/w.heap.size+2<=g)/\lv.ownBlock≠some g) t l ys)(hk:key.size<=4000)(hd:DaV er W (λg=>(g<k0\/w.heap.size+2<=g)/\lv.ownBlock≠some g) d (zN er t 0 l.length) v)(hg:(W.alloc o).grownBy w5 lv.ownBlock)(ho:w5.ownsRow (w.heap.size+2) 133 2 v5 (l.length+1) (ys++[.string key,v]))(hl:v5.ownBlock=lv.ownBlock\/v5.ownBlock=some (W.alloc o).heap.size):MLm er k0 cs0 ct0 cs1 ct1 t w v5 (l++[(key,d)]) w5:=by
 have cc1:=Nat
 exact cq26_
def MLm.done(Q:MLm er k0 cs0 ct0 cs1 ct1 t w lv l W):DaV er W (λg=>g<k0\/w.heap.size<=g) (.mk 123 0 noB (l.map Prod.fst) (l.map Prod.snd)) t (.iface 131 lv):=by
 obtain⟨ys,a,b⟩:=Q.row;exact b.dat a (λg _ hg=>M_) (λg e=>by have:=(a.lt g e).1;show g<k0\/w.heap.size<=g;omega)
end
def cwda1_{p:Prop}(h:p:=by
 rw[hrd]at hC
 first
  |have:=cc1
   have B:=zy (show yb R (fr.take (q+1))=some (l++[x1]) by rw[a8_,hdq.o];exact fo hrd hmp.o)
  |have B:=zy (show yb R (l0.take (q+1))=some ((l++[(key,x1)]).map Prod.snd)/\(l++[(key,x1)]).map Prod.fst=ks.take (q+1) by
    rw[a8_,hdq.o,a8_,hkq.o,bh_,bh_,hmp.o.2]
    exact⟨fo hrd hmp.o.1,rfl⟩)
 replace hC:=zy hC;(first|(have:=cc1;have n:=zy (λi d (e:l[i]?=some d)=>(hY i d e).fr FA u_))|(have n:=zy (hY.fr FA u_)));have r:=zy (zk hrow FA u_);(first|(have:=cc1;obtain⟨ti,v,x,y,z⟩:=info_parts kO)|(obtain⟨ti,v,x,y,z⟩:=info_parts bW));clear hrd hY hrow FA;go_wp2_with (first
  |((first|go_at_call 34|go_at_call 137);apply hC.o.mono;rintro e w1 ⟨v1,ev1,rfl,hf1,hv1,m⟩;subst hv1;obtain⟨k,dx,rfl⟩:=m.iface;have a:=hQa.o.call hf1;have C:=a.bB;(first|(have:=cc1)|(have n0:=(hf1.bl BE.o id).c0));have D:=zy (zk r.o hf1 u_);have C:=zy (m.mono (Q:=λg=>(g<k0\/w.heap.size+2<=g)/\(Value.slice la q lc).ownBlock≠some g) (λg _ hg=>⟨by have:=hQa.o.bB;omega,λe=>by have:=r.o.lt g e;have:=hk0.o;omega⟩));(first|(have:=cc1;have r:=zy (λi d (e:l[i]?=some d)=>(n.o i d e).fr hf1 u_))|(have r:=zy (n.o.fr hf1 u_)));replace a:=zy a;clear m hf1)
  |(at_builtin;go_must ((first|(have:=cc1;refine wpList_append_own_at _ rfl _ _ 136 rfl (w.heap.size+2) 69 ti _ 1 16 aA v x y z rfl D_ (.slice la q lc) q ((List.range q).flatMap λi=>[Y i]) rfl ?hown _ 1 1 [.iface k dx] rfl rfl (zL _ #[.iface k dx] _ _ ?nn) ?one ?b1 ?b2 ?b3 ?_)|(refine wpList_append_own_at _ rfl _ _ 131 rfl (w.heap.size+2) 133 ti _ 2 32 cU v x y z rfl D_ (.slice la q lc) q ys rfl ?hown _ 1 1 [.string key,.iface k dx] rfl rfl (zL _ #[.string key,.iface k dx] _ _ ?nn) ?one ?b1 ?b2 ?b3 ?_)))
    case hown=>exact World.ownsRow.alloc D.o _
    case nn=>simp
    case one=>simp[Value.oneCell']
    case b1=>unfold maxLen;omega
    case b2=>omega
    case b3=>simp;omega
    intro k k ho5 u E A
    (first|(have:=cc1;have j:=a.o.item (d:=x1) r.o (by rw[hll,hgty.o];exact C.o) u zc_ A)|(have j:=a.o.item (d:=x1) (by rw[hll];exact D.o) r.o hkz (by rw[hsub.o];exact C.o) u zc_ A))
    obtain⟨a,a,rfl⟩:=zu ho5 M_
    clear u A E ho5
    replace j:=zy j))
 (first|(have:=cc1;go_roundg (fr.length+1-(q+1)))|(go_roundg (l0.length+1-(q+1))));case measure=>omega
 case rel=>(first|(have:=cc1;exact⟨q+1,l++[x1],by simp,hlt,l_,B,j⟩)|(exact⟨q+1,l++[(key,x1)],by simp,hlt,l_,B,j⟩))):p:=h
def da{w:Aw}{k0:Nat}{u u':PT}{p':Nat}{l0:Ak}{ks:Aa}{a:Ax}(O:MS w0 ds ds')(S:ZD w0 P Q s s' ds ds' sv sv' xs xs' k0 nt nx sT sx rT rx f)(M:MC w0 P Q s s' ds ds' sv sv' xs xs' k0 nt nx w)(ha:TyV w P u a)(hb:TyV w Q u' b)(U:okT (zx ds) u)(V:okT (zx ds') u')(fy:xM u')(j:ks.length=l0.length)(L:∀k∈ks,k.size<=4000)(ho:w.ownsRow 0 133 2 lv0 l0.length ((List.range l0.length).flatMap λi=>[.string (ks.getD i noB),Y0 i]))(hd:∀d∈l0,Dat (zx ds) d u)(N:∀i d,l0[i]?=some d->DaV (zx ds) w (λg=>g<k0) d u (Y0 i))(h1:zM l0<=299)(Z:zM l0<=f):Calls prog 135 #[.agg #[sv,.iface sT sx,sv',.iface rT rx],.agg #[a,b],lv0] w (yi (zx ds') (.wrap 123 p' u') k0 w nt nx ((yb (mkP (zx ds) (zx ds') (yN (zx ds') s') f u u') l0).map λl=>.mk 123 0 noB ks l)):=by
 obtain⟨j,Q_⟩:=y_ (yi (zx ds') (.wrap 123 p' u') k0 w nt nx ((yb (mkP (zx ds) (zx ds') (yN (zx ds') s') f u u') l0).map λl=>.mk 123 0 noB ks l));rw[<- Q_.o];obtain⟨y,z,rfl⟩:=zh M.D.row;obtain⟨n,r,rfl⟩:=zh M.E.row;obtain⟨j,j,rfl⟩:=zh ho;obtain⟨B,C,rfl⟩:=ha.iface;obtain⟨F,bx,rfl⟩:=hb.iface;have I:=zy (λW (j:Fr w W N_) i d v (hi:l0[i]?=some d) (a1:Y0 i=v)=>S W u u' d _ _ v (M.new j) (ha.fr j u_) (hb.fr j u_) U V fy (hd d (al_ hi)) (a1▸(N i d hi).fr j u_) yz_ yz_);have hGd:=zy (λW (j:Fr w W N_)=>(M.new j).G);have hI:=zy O.K;have hk0:=zy M.k;have j:l0.length<=300:=by have:=xY l0;omega
 generalize hR:mkP (zx ds) (zx ds') (yN (zx ds') s') f u u'=R at I Q_;obtain⟨wz,H⟩:=e_ ((w.alloc (.cells #[.slice y ds.length z,.iface sT sx,.slice n ds'.length r,.iface rT rx] 101)).alloc (.cells #[.iface B C,.iface F bx] 228));have A:MLm (zx ds') k0 [.slice y ds.length z,.iface sT sx,.slice n ds'.length r,.iface rT rx] 101 [.iface B C,.iface F bx] 228 (.wrap 123 p' u') w (L_) [] wz:=by
  rw[H];refine⟨((A_ w N_).alloc _).alloc _,(B_ w #[.slice y ds.length z,.iface sT sx,.slice n ds'.length r,.iface rT rx] 101).alloc _,?_,by rw[yx,yx];omega,[],World.ownsRow_nil _ _ _ _,qJ.nil _ _ _ _⟩;have h:=B_ (w.alloc (.cells #[.slice y ds.length z,.iface sT sx,.slice n ds'.length r,.iface rT rx] 101)) #[.iface B C,.iface F bx] 228;rw[yx]at h;exact h
 have J:∀i d,(hi:l0[i]?=some d)->∃T x,Y0 i=.iface T x:=λi d hi=>(N i d hi).iface;replace A:=zy A;replace H:=zy H;replace ho:=zy ho;replace J:=zy J;replace L:=zy L;have hsub:∀i,zN (zx ds') (.wrap 123 p' u') 0 i=u':=λi=>rfl;generalize zx ds'=er at I Q_ A hsub;replace hsub:=zy hsub;go_in;go_wp2;rw[<- H.o];go_loopg [8,15] (l0.length+1) (λm j v W=>∃(q:Nat) (l:List (BA×DT)),v=I_ q/\q<=l0.length/\l0.length+1-q<=m/\H_ (yb R (l0.take q)=some (l.map Prod.snd)/\l.map Prod.fst=ks.take q)/\H_ (MLm er k0 [.slice y ds.length z,.iface sT sx,.slice n ds'.length r,.iface rT rx] 101 [.iface B C,.iface F bx] 228 (.wrap 123 p' u') w j l W));case atStart=>exact⟨0,[],rfl,aj_ _,M_,zy ⟨rfl,rfl⟩,zy A⟩
 case round=>
  obtain⟨q,l,rfl,j,hm,hmp,hQ⟩:=hrel;have hll:l.length=q:=by have:=lB hmp.o.1;rw[b8_,bm_]at this;omega
  obtain⟨ys,hrow,hY⟩:=hQ.o.row;rw[hll]at hrow;obtain⟨la,lc,rfl⟩:=zh hrow;by_cases hlt:q<l0.length
  .have a0:(q:Int)<(l0.length:Int):=M_;have hdq:l0[q]?=some l0[q]:=ak_ hlt;generalize l0[q]=d at hdq;obtain⟨g,j,j⟩:=zu ho M_;cases j;obtain⟨T,x,hx⟩:=J.o q d hdq;obtain⟨X,j⟩:=lF (K:=λi=>ks.getD i noB) (zk ho hQ.o.fr u_) hlt;rw[hx]at j;have hkq:ks[q]?=some (ks.getD q noB):=by rw[az_,ak_ M_];rfl
   have hkz:=L.o _ (al_ hkq);generalize ks.getD q noB=key at X hkq hkz;have FA:=(A_ wr N_).alloc (.cells #[.string key,.iface T x] 133);have BE:=zy (B_ wr #[.string key,.iface T x] 133);have hQa:=zy (hQ.o.call FA);obtain⟨j,j,j,j⟩:=hQa.o.b0.d4;have j:=hQa.o.b1.c0;have j:=hQa.o.b1.c1;have hC:=I.o _ (hQ.o.fr.trans FA u_) q d _ hdq hx;have j:=hQ.o.bB;have hmem:=zy (al_ hdq);replace hdq:=zy hdq;replace hkq:=zy hkq;cases hrd:R d with
   |none=>
    exact cwlU1_
   |some x1=>
    exact cwda1_
  .have a0:¬((q:Int)<(l0.length:Int)):=M_;have hr:=zy (show yb R l0=some (l.map Prod.snd)/\l.map Prod.fst=ks by have:=hmp.o;rw[a6_ M_,a6_ M_]at this;exact this);go_wp2;try go_ret
   rw[Q_.o,hr.o.1];refine⟨_,_,rfl,hQ.o.fr,rfl,?_⟩;have:=hQ.o.done;rw[hr.o.2]at this;exact this
def Ym:∀{fw:List PF}{c i:Nat},kA fw c=some i->∃h,fw[i]?=some h
 | [],c,i,h=>by simp[kA]at h
 |f::fw,c,i,h=>by
  unfold kA at h;rw[aw_,List.findIdx?_cons]at h;split at h
  .simp only[ae_]at h;subst h;exact⟨f,rfl⟩
  .cases a:(fw.map PF.letter).findIdx? (λx=>x==c) with
   |none=>rw[a]at h;cases h
   |some q=>
    rw[a]at h;simp only[a4_,ae_]at h;subst h;obtain⟨h,d⟩:=Ym (fw:=fw) a;exact⟨h,by simpa using d⟩
def DvM(k0:Nat)(w:Aw)(er:Ay)(s:BA)(g:PF)(dv:Ax):Prop:=
 match g.dflt with
 |none=>dv=.pointer none
 |some (a,e)=>∃gb x d,dv=P_ gb/\Blk w gb [I_ a,.string (s.extract a e),x] 189/\yD er true g.ty (s.extract a e)=some d/\DaV er w (λb=>b<k0) d g.ty x
def DvM.fr{k0:Nat}{w w':Aw}{er:Ay}{g:PF}{dv:Ax}(h:DvM k0 w er s g dv)(a:Fr w w' N_):DvM k0 w' er s g dv:=by
 unfold DvM at h⊢;split
 .rename_i hd;rw[hd]at h;exact h
 .rename_i hd;rw[hd]at h;obtain⟨e,x,d,h1,i,j,k⟩:=h;exact⟨e,x,d,h1,a.bl i id,j,k.fr a u_⟩
def MC.dvm{w:Aw}{k0:Nat}(M:MC w0 P Q s s' ds ds' sv sv' xs xs' k0 nt nx w){fr:Am}{q:Nat}{rv:Ax}(hz:ZV ds' xs' (.recd fr) (.iface 210 (.agg #[I_ q,rv])))(ho:w.ownsRow 0 185 4 rv fr.length zs)(z:xJ w Q s' fr zs):∀i g dd,fr[i]?=some g->zs[4*i+3]?=some dd->DvM k0 w (zx ds') s' g dd:=λi g dd j o=>by
 obtain⟨blk,h1,C,u⟩:=M.F;obtain⟨k,d,hk,hb,hx⟩:=hz;have v:=h1 k d q fr rv zs hk hb hx ho i g dd j o;have hm:g∈zp ds':=by
  unfold zp;refine ch_.2 ⟨d,al_ hk,?_⟩;rw[hb];exact al_ j
 unfold DvM;split
 .rename_i h;obtain⟨a,b,c,m,D,E,q3,r,y⟩:=z i g j;have n:=y.2.2.2;rw[h]at n;rw[o]at r;cases r;exact n
 .rename_i a e h;obtain⟨x,m,r1,A,B⟩:=u g hm a e h;exact⟨blk a,x,m,v a e h,A,r1,B⟩
def dZ{w:Aw}{k0:Nat}{fw:Am}{g:PF}{y:Ak}{a6:Ax}{pl:Nat}{I:As}{tx:Ax}{F:Ao}(ih:ZD w0 P Q s s' ds ds' sv sv' xs xs' k0 nt nx sT sx rT rx f)(M:MC w0 P Q s s' ds ds' sv sv' xs xs' k0 nt nx w)(K:xQ w P s fw a6 zs)(hl:fw.length<=300)(b7:y.length=fw.length)(ht:TyV w Q g.ty (.iface I tx))(H:DvM k0 w (zx ds') s' g (.pointer F))(a4:∀h∈fw,okT (zx ds) h.ty)(a5:okT (zx ds') g.ty)(fy:xM g.ty)(ho:w.ownsRow 0 69 1 lv0 y.length ((List.range y.length).flatMap λi=>[Y0 i]))(hd:∀(i:Nat) (d:DT) (h:PF),y[i]?=some d->fw[i]?=some h->Dat (zx ds) d h.ty/\DaV (zx ds) w (λg=>g<k0) d h.ty (Y0 i))(h1:zM y<=299)(h2:zM y<=f):Calls prog 137 #[.agg #[sv,.iface sT sx,sv',.iface rT rx],.agg #[Z_ p,a6],.agg #[I_ pl,U_ g.letter,.iface I tx,.pointer F],lv0] w (yi (zx ds') g.ty k0 w nt nx (mkF (mkP (zx ds) (zx ds') (yN (zx ds') s') f) (yN (zx ds') s') fw y g)):=by
 obtain⟨b6,u⟩:=y_ (yi (zx ds') g.ty k0 w nt nx (mkF (mkP (zx ds) (zx ds') (yN (zx ds') s') f) (yN (zx ds') s') fw y g));rw[<- u.o];obtain⟨U,V,rfl⟩:=zh M.D.row;obtain⟨S,T,rfl⟩:=zh M.E.row;obtain⟨b8,b9,rfl⟩:=zh ho;obtain⟨G,X,rfl⟩:=zh K.row;have L:=zy (λW (j:Fr w W N_)=>VT (p:=p) (c:=g.letter) (K.fr j u_) hl);obtain⟨wz,hwz⟩:=e_ (((w.alloc (.cells #[.slice U ds.length V,.iface sT sx,.slice S ds'.length T,.iface rT rx] 101)).alloc (.cells #[Z_ p,.slice G fw.length X] 210)).alloc (.cells #[I_ pl,U_ g.letter,.iface I tx,.pointer F] 185));have n:Fr w wz N_:=xt_
 have J:Blk wz w.heap.size [.slice U ds.length V,.iface sT sx,.slice S ds'.length T,.iface rT rx] 101:=by
  rw[hwz];exact((B_ w #[.slice U ds.length V,.iface sT sx,.slice S ds'.length T,.iface rT rx] 101).alloc _).alloc _
 have B1:Blk wz (w.heap.size+1) [Z_ p,.slice G fw.length X] 210:=by
  rw[hwz];have h:=(B_ (w.alloc (.cells #[.slice U ds.length V,.iface sT sx,.slice S ds'.length T,.iface rT rx] 101)) #[Z_ p,.slice G fw.length X] 210).alloc (.cells #[I_ pl,U_ g.letter,.iface I tx,.pointer F] 185);rw[yx]at h;exact h
 have B:Blk wz (w.heap.size+1+1) [I_ pl,U_ g.letter,.iface I tx,.pointer F] 185:=by
  rw[hwz];have h:=B_ ((w.alloc (.cells #[.slice U ds.length V,.iface sT sx,.slice S ds'.length T,.iface rT rx] 101)).alloc (.cells #[Z_ p,.slice G fw.length X] 210)) #[I_ pl,U_ g.letter,.iface I tx,.pointer F] 185;rw[yx,yx]at h;exact h
 have a0:=zy (λW (j:Fr w W N_)=>(M.new j).err);cases r:kA fw g.letter with
 |some i=>
  obtain⟨h,O⟩:=Ym r;have G:i<fw.length:=(am_.1 O).1;obtain⟨d,Y⟩:∃d,y[i]?=some d:=⟨_,ak_ M_⟩;obtain⟨e1,e2⟩:=hd i d h Y O;have Z:mkF (mkP (zx ds) (zx ds') (yN (zx ds') s') f) (yN (zx ds') s') fw y g=mkP (zx ds) (zx ds') (yN (zx ds') s') f h.ty g.ty d:=by
   unfold mkF;rw[r];simp only[O,Y]
  rw[Z]at u;obtain⟨G,cf,b4⟩:=zu K.row M_;cases b4;obtain⟨gr,cr,b5⟩:=zu ho M_;cases b5;obtain⟨uT,ux,dq,_,_,a2,_,a8,_⟩:=K.cells O;obtain⟨vT,vx,a3⟩:=e2.iface;have hu:=zy (λW (j:Fr w W N_)=>show W.cell? ⟨G,i*4+2,none⟩=some (.iface uT ux) from by
   have e:W.cell? ⟨G,i*4+2,none⟩=w.cell? ⟨G,i*4+2,none⟩:=World.cell?_of_block (a:=⟨G,i*4+2,none⟩) (j.block G (World.block_lt_of_cell? w ⟨G,i*4+2,none⟩ a2) id)
   rw[e,a2])
  have hr:=zy (λW (j:Fr w W N_)=>show W.cell? ⟨gr,i,none⟩=some (.iface vT vx) from by
   rw[<- a3]
   exact gp (zk ho j u_) M_)
  have N:=λW (j:Fr w W N_)=>(ih W h.ty g.ty d _ _ _ (M.new j) (a8.fr j u_) (ht.fr j u_) (a4 h (al_ O)) a5 fy e1 (e2.fr j u_) (by have:=(yE Y).2;omega) (by have:=(yE Y).2;omega)).mono (λe w' q=>And.intro (yi.two j q).1 (yi.two j q).2.tup);rw[a3]at N;replace N:=zy N;obtain⟨CL,m⟩:∃C:World->Prop,C=λW=>W.cell? ⟨w.heap.size,0,none⟩=some (.slice U ds.length V)/\W.cell? ⟨w.heap.size,1,none⟩=some (.iface sT sx)/\W.cell? ⟨w.heap.size,2,none⟩=some (.slice S ds'.length T)/\W.cell? ⟨w.heap.size,3,none⟩=some (.iface rT rx)/\W.cell? ⟨w.heap.size+1,1,none⟩=some (S_ G fw.length X)/\W.cell? ⟨w.heap.size+1+1,2,none⟩=some (.iface I tx)/\W.cell? ⟨G,i*4+2,none⟩=some (.iface uT ux)/\W.cell? ⟨gr,i,none⟩=some (.iface vT vx):=⟨_,rfl⟩;have hC:=zy (λW (j:Fr wz W N_)=>show CL W by
   rw[m]
   exact⟨(j.bl J id).cell 0,(j.bl J id).cell 1,(j.bl J id).cell 2,(j.bl J id).cell 3,(j.bl B1 id).cell 1,(j.bl B id).cell 2,hu.o W (n.trans j u_),hr.o W (n.trans j u_)⟩)
  have G:(i:Int)<(fw.length:Int):=M_;have G:¬((i:Int)<0):=M_;replace r:=zy r;replace n:=zy n;replace hwz:=zy hwz;replace m:=zy m;generalize mkP (zx ds) (zx ds') (yN (zx ds') s') f h.ty g.ty d=o at N u;generalize g.letter=gl at L hwz r⊢;generalize g.ty=gt at N u;go_in;go_wp2_with (go_at_call 159;rw[<- hwz.o];apply(L.o _ n).mono;rintro e w1 ⟨rfl,A⟩;rw[r.o];simp only[pz,b5_,b3_];have z:=zy A);refine tR_ CL ?_;refine zm 0 ?v0 rfl K_ (λ_ _ _ h=>h) K_ ?yv0 ?_;case yv0=>(intro W h;rw[m.o]at h;obtain⟨c0,c1,c2,c3,c4,c5,c6,c7⟩:=h;go_simp<;>rfl)
  refine zm 1 ?v1 rfl K_ (λ_ _ _ h=>h) K_ ?yv1 ?_;case yv1=>(intro W h;rw[m.o]at h;obtain⟨c0,c1,c2,c3,c4,c5,c6,c7⟩:=h;go_simp<;>rfl)
  refine zm 2 ?v2 rfl K_ (λ_ _ _ h=>h) K_ ?yv2 ?_;case yv2=>(intro W h;rw[m.o]at h;obtain⟨c0,c1,c2,c3,c4,c5,c6,c7⟩:=h;go_simp<;>rfl)
  refine zm 3 ?v3 rfl K_ (λ_ _ _ h=>h) K_ ?yv3 ?_;case yv3=>(intro W h;rw[m.o]at h;obtain⟨c0,c1,c2,c3,c4,c5,c6,c7⟩:=h;go_simp<;>rfl)
  refine zm 4 ?v4 rfl K_ (λ_ _ _ h=>h) K_ ?yv4 ?_;case yv4=>(intro W h;rw[m.o]at h;obtain⟨c0,c1,c2,c3,c4,c5,c6,c7⟩:=h;go_simp<;>rfl)
  refine zm 5 ?v5 rfl K_ (λ_ _ _ h=>h) K_ ?yv5 ?_;case yv5=>(intro W h;rw[m.o]at h;obtain⟨c0,c1,c2,c3,c4,c5,c6,c7⟩:=h;go_simp<;>rfl)
  refine zm 6 ?v6 rfl K_ (λ_ _ _ h=>h) K_ ?yv6 ?_;case yv6=>(intro W h;rw[m.o]at h;obtain⟨c0,c1,c2,c3,c4,c5,c6,c7⟩:=h;go_simp<;>rfl)
  refine zm 7 ?v7 rfl K_ (λ_ _ _ h=>h) K_ ?yv7 ?_;case yv7=>(intro W h;rw[m.o]at h;obtain⟨c0,c1,c2,c3,c4,c5,c6,c7⟩:=h;go_simp<;>rfl)
  refine zm 8 ?v8 rfl K_ (λ_ _ _ h=>h) K_ ?yv8 ?_;case yv8=>(intro W h;rw[m.o]at h;obtain⟨c0,c1,c2,c3,c4,c5,c6,c7⟩:=h;go_simp<;>rfl)
  refine zm 9 ?v9 rfl K_ (λ_ _ _ h=>h) K_ ?yv9 ?_;case yv9=>(intro W h;rw[m.o]at h;obtain⟨c0,c1,c2,c3,c4,c5,c6,c7⟩:=h;go_simp<;>rfl)
  refine zm 10 ?v10 rfl K_ (λ_ _ _ h=>h) K_ ?yv10 ?_;case yv10=>(intro W h;rw[m.o]at h;obtain⟨c0,c1,c2,c3,c4,c5,c6,c7⟩:=h;go_simp<;>rfl)
  refine zm 11 ?v11 rfl K_ (λ_ _ _ h=>h) K_ ?yv11 ?_;case yv11=>(intro W h;rw[m.o]at h;obtain⟨c0,c1,c2,c3,c4,c5,c6,c7⟩:=h;go_simp<;>rfl)
  refine zm 12 ?v12 rfl K_ (λ_ _ _ h=>h) K_ ?yv12 ?_;case yv12=>(intro W h;rw[m.o]at h;obtain⟨c0,c1,c2,c3,c4,c5,c6,c7⟩:=h;go_simp<;>rfl)
  refine zd 13 rfl K_ (hC.o _ z.o.drew) (λK1 a7=>?_);go_simp;apply(N.o _ (n.o.trans z.o.drew u_)).mono;rintro e m ⟨a1,v2,a9,rfl,m⟩;replace a1:=zy a1;replace m:=zy m;refine a7 _ _ ?_;refine tY_ 14 ?_;refine tY_ 15 ?_;refine tY_ 16 ?_;refine tY_ 17 ?_;refine zV K_ ?cl ?_ _;case cl=>exact hC.o _ (z.o.drew.trans (a1) u_)
  go_wp2;refine bodyPost_ret (v:=.tuple #[v2,a9]) (by simp[results,results137,go_sem];try rfl) rfl ?_;rw[u.o];exact m
 |none=>
  have Z:mkF (mkP (zx ds) (zx ds') (yN (zx ds') s') f) (yN (zx ds') s') fw y g=yN (zx ds') s' g:=by
   unfold mkF;rw[r]
  rw[Z]at u;replace r:=zy r;replace B:=zy B;cases m:g.dflt with
  |none=>
   rw[show yN (zx ds') s' g=none by unfold yN;rw[m]]at u;unfold DvM at H;rw[m]at H;obtain rfl:F=none:=by simpa using H
   replace n:=zy n;replace hwz:=zy hwz;generalize g.letter=gl at L hwz r B⊢;generalize g.ty=gt at u;go_in;go_wp2_with (go_at_call 159;rw[<- hwz.o];apply(L.o _ n).mono;rintro e w1 ⟨rfl,A⟩;rw[r.o];simp only[pz,Option.getD_none,by_];have m3:=(A.bl B id).c3;have z:=zy (n.o.trans A u_);have y:=a0.o w1 z);go_quiet (fail);go_wp2;try go_ret
   rw[u.o];exact⟨_,_,rfl,z.o.si (zw.drewN _ _),rfl,.base⟩
  |some ae=>
   obtain⟨a,e⟩:=ae;unfold DvM at H;rw[m]at H;obtain⟨y,x,d,O,hb,Y,hx⟩:=H;obtain rfl:F=some ⟨y,0,none⟩:=by simpa using O
   rw[show yN (zx ds') s' g=some d by unfold yN;rw[m];exact Y]at u;obtain⟨y,y,rfl⟩:=hx.iface;have N:=zy (λW (j:Fr w W N_)=>hx.fr j u_);replace hb:=zy hb;replace n:=zy n;replace hwz:=zy hwz;generalize g.letter=gl at L hwz r B⊢;generalize g.ty=gt at u N;go_in;go_wp2_with (go_at_call 159;rw[<- hwz.o];apply(L.o _ n).mono;rintro e w1 ⟨rfl,A⟩;rw[r.o];simp only[pz,Option.getD_none,by_];have m3:=(A.bl B id).c3;have z:=zy (n.o.trans A u_);have j:=(z.o.bl hb id).c2);try go_ret
   rw[u.o];exact⟨_,_,rfl,z,rfl,(N.o _ z).mono (λb _ hb=>.inl hb)⟩
def uJ{w:Aw}{k0:Nat}{fw fr:Am}{pr:Nat}{j:Ak}{y:Az}{a2 a1:Ax}{p2:Int}(ih:ZD w0 P Q s s' ds ds' sv sv' xs xs' k0 nt nx sT sx rT rx f)(M:MC w0 P Q s s' ds ds' sv sv' xs xs' k0 nt nx w)(X:xQ w P s fw a2 zs)(L:xQ w Q s' fr a1 y)(hl:fw.length<=300)(b6:fr.length<=300)(a3:j.length=fw.length)(a5:zx ds' c=some (.recd fr))(a0:∀g∈fr,zt g.letter=true)(a4:∀i g dd,fr[i]?=some g->y[4*i+3]?=some dd->DvM k0 w (zx ds') s' g dd)(a7:∀h∈fw,okT (zx ds) h.ty)(a8:∀g∈fr,okT (zx ds') g.ty)(fy:∀g∈fr,xM g.ty)(ho:w.ownsRow 0 69 1 lv0 j.length ((List.range j.length).flatMap λi=>[Y0 i]))(hd:∀(i:Nat) (d:DT) (h:PF),j[i]?=some d->fw[i]?=some h->Dat (zx ds) d h.ty/\DaV (zx ds) w (λg=>g<k0) d h.ty (Y0 i))(h1:zM j<=299)(h2:zM j<=f):Calls prog 95 #[.agg #[sv,.iface sT sx,sv',.iface rT rx],.agg #[Z_ p,a2,Z_ p2,a1],.iface 136 lv0] w (yi (zx ds') (.leaf c pr) k0 w nt nx ((yb (mkF (mkP (zx ds) (zx ds') (yN (zx ds') s') f) (yN (zx ds') s') fw j) fr).map λl=>.mk 114 0 noB [] l)):=by
 obtain⟨b5,Q_⟩:=y_ (yi (zx ds') (.leaf c pr) k0 w nt nx ((yb (mkF (mkP (zx ds) (zx ds') (yN (zx ds') s') f) (yN (zx ds') s') fw j) fr).map λl=>.mk 114 0 noB [] l));rw[<- Q_.o];have Z:=zy (λW (u:Fr w W N_) i (g:PF) pl T x n (hi:fr[i]?=some g) (r:TyV W Q g.ty (.iface T x)) (hz:y[4*i+3]?=some (.pointer n))=>dZ (p:=p) (pl:=pl) ih (M.new u) (X.fr u u_) hl a3 r ((a4 i g _ hi hz).fr u) a7 (a8 g (al_ hi)) (fy g (al_ hi)) (zk ho u u_) (λi d h a b=>⟨(hd i d h a b).1,(hd i d h a b).2.fr u u_⟩) h1 h2);have hk0:=zy M.k;have a9:=zy (λW (u:Fr w W N_) i (g:PF) (hi:fr[i]?=some g)=>show ∃T x n,TyV W Q g.ty (.iface T x)/\y[4*i]?=some (I_ g.place)/\y[4*i+1]?=some (U_ g.letter)/\y[4*i+2]?=some (.iface T x)/\y[4*i+3]?=some (.pointer n) from by
  obtain⟨a,b,y,d,O,S,q3,q4,rfl,rfl,r,K⟩:=L.V i g hi
  obtain⟨T,x,rfl⟩:=r.iface
  obtain⟨U,rfl⟩:∃U,d=.pointer U:=by
   unfold DfV at K
   split at K
   .exact⟨_,K⟩
   .obtain⟨g',y,_,e,_⟩:=K;exact⟨_,e⟩
  exact⟨T,x,U,r.fr u u_,O,S,q3,q4⟩)
 have a6:=zy L.row;obtain⟨B,C,rfl⟩:=zh M.D.row;obtain⟨z,A,rfl⟩:=zh M.E.row;obtain⟨u,u,rfl⟩:=zh ho;obtain⟨G,H,rfl⟩:=zh X.row;obtain⟨I,J,rfl⟩:=zh L.row;generalize hR:mkF (mkP (zx ds) (zx ds') (yN (zx ds') s') f) (yN (zx ds') s') fw j=R at Z Q_;obtain⟨wz,N⟩:=e_ ((w.alloc (.cells #[.slice B ds.length C,.iface sT sx,.slice z ds'.length A,.iface rT rx] 101)).alloc (.cells #[Z_ p,.slice G fw.length H,Z_ p2,.slice I fr.length J] 234));have F:ML (zx ds') k0 [.slice B ds.length C,.iface sT sx,.slice z ds'.length A,.iface rT rx] 101 [Z_ p,.slice G fw.length H,Z_ p2,.slice I fr.length J] 234 (.leaf c pr) w (L_) [] wz:=by
  rw[N];refine⟨((A_ w N_).alloc _).alloc _,(B_ w #[.slice B ds.length C,.iface sT sx,.slice z ds'.length A,.iface rT rx] 101).alloc _,?_,by rw[yx,yx];omega,jG.nil _ _ _ _ _⟩;have h:=B_ (w.alloc (.cells #[.slice B ds.length C,.iface sT sx,.slice z ds'.length A,.iface rT rx] 101)) #[Z_ p,.slice G fw.length H,Z_ p2,.slice I fr.length J] 234;rw[yx]at h;exact h
 have hsub:∀i g,fr[i]?=some g->zN (zx ds') (.leaf c pr) 0 i=g.ty:=λi g hi=>by
  simp only[zN,a5,az_,a1_,hi,a4_,b5_]
 replace F:=zy F;replace N:=zy N;replace hsub:=zy hsub;replace a0:=zy a0;clear ih M X L a7 a8 fy hd a4 h1 h2 hR ho a5 a3;generalize zx ds'=er at Z Q_ F hsub;go_in;go_wp2;rw[<- N.o];go_loopg [10,27] (fr.length+1) (λm j v W=>∃(q:Nat) (l:List DT),v=I_ q/\q<=fr.length/\fr.length+1-q<=m/\H_ (yb R (fr.take q)=some l)/\H_ (ML er k0 [.slice B ds.length C,.iface sT sx,.slice z ds'.length A,.iface rT rx] 101 [Z_ p,.slice G fw.length H,Z_ p2,.slice I fr.length J] 234 (.leaf c pr) w j l W));case atStart=>exact⟨0,[],rfl,aj_ _,M_,zy rfl,zy F⟩
 case round=>
  clear F;obtain⟨q,l,rfl,j,hm,hmp,hQ⟩:=hrel;have hll:l.length=q:=by have:=lB hmp;rw[b8_]at this;omega
  obtain⟨Y,hrow,hY⟩:=hQ.o.row;rw[hll]at hrow;obtain⟨la,lc,rfl⟩:=zh hrow;by_cases hlt:q<fr.length
  .have b4:(q:Int)<(fr.length:Int):=M_;have hdq:fr[q]?=some fr[q]:=ak_ hlt;generalize fr[q]=g at hdq;obtain⟨gg,j,j⟩:=zu a6 M_;cases j;obtain⟨T,x,n,r,u,O,S,q3⟩:=a9.o wr hQ.o.fr q g hdq;have j:=zk a6 hQ.o.fr u_;have r0:=ze j rfl u;have r1:=ze j rfl O;have y:=ze j rfl S;have z:=ze j rfl q3;rw[a7_]at r0 r1 y z;have hlet:=a0.o g (al_ hdq);have hgty:=hsub.o q g hdq;have FA:=(A_ wr N_).alloc (.cells #[I_ g.place,U_ g.letter,.iface T x,.pointer n] 185);have BE:=zy (B_ wr #[I_ g.place,U_ g.letter,.iface T x,.pointer n] 185);have hQa:=zy (hQ.o.call FA);obtain⟨y,y,y,y⟩:=hQa.o.b0.d4;obtain⟨y,y,y,y⟩:=hQa.o.b1.d4;have hC:=Z.o _ (hQ.o.fr.trans FA u_) q g g.place T x n hdq (r.fr FA u_) q3;have n:=hQ.o.bB;have hmem:=zy (al_ hdq);replace hdq:=zy hdq;replace hgty:=zy hgty;replace hlet:=zy hlet;clear j r u O S q3;cases hrd:R g with
   |none=>
    have cc1:=Nat;exact cwlU1_
   |some x1=>
    have cc1:=Nat;exact cwda1_
  .have b4:¬((q:Int)<(fr.length:Int)):=M_;have hr:=zy (show yb R fr=some l by have:=hmp.o;rwa[a6_ M_]at this);clear hrow hY hmp;go_wp2;try go_ret
   rw[Q_.o,hr.o];exact⟨_,_,rfl,hQ.o.fr,rfl,hQ.o.done (.inr ⟨rfl,rfl⟩)⟩
def uX{w:Aw}{er:Ay}{k0:Nat}{lr:Av}{o:Ac}{pr n l:Nat}{p2:Int}{fa:Ao}{fn fc:Nat}{a:Ao}{rv u:Ax}(r:w.cell? ⟨6,0,none⟩=some (.iface nt nx))(ho:w.ownsRow 0 182 2 rv lr.length (yu lr))(hu:qV w Q o u)(hl:lr.length<=300)(B:er c=some (.enum lr o))(C:∀q∈lr,zt q.1=true):Calls prog 94 #[.agg #[Z_ p,.slice fa fn fc,.pointer a,Z_ p2,rv,u],.iface 149 (.agg #[U_ l,I_ n])] w (yi er (.leaf c pr) k0 w nt nx ((qE lr o l).map λ(q:Nat)=>DT.mk 101 (q:Int) noB [] [])):=by
 obtain⟨T,m⟩:=y_ (yi er (.leaf c pr) k0 w nt nx ((qE lr o l).map λ(q:Nat)=>DT.mk 101 (q:Int) noB [] []));rw[<- m.o];obtain⟨E,F,rfl⟩:=zh ho;obtain⟨G,rfl⟩:=hu.ptr;have v:=zy (λW (i:Fr w W N_)=>Zs (p:=p2) (c:=l) (zk ho i u_) (hu.fr i u_) hl);obtain⟨I,hwz⟩:=e_ ((w.alloc (.cells #[Z_ p,.slice fa fn fc,.pointer a,Z_ p2,.slice E lr.length F,.pointer G] 231)).alloc (.cells #[U_ l,I_ n] 149));have g:Fr w I N_:=yc_
 have A:Blk I w.heap.size [Z_ p,.slice fa fn fc,.pointer a,Z_ p2,.slice E lr.length F,.pointer G] 231:=by
  rw[hwz];exact(B_ w #[Z_ p,.slice fa fn fc,.pointer a,Z_ p2,.slice E lr.length F,.pointer G] 231).alloc _
 have H:=zy (λW (i:Fr w W N_)=>show W.cell? ⟨6,0,none⟩=some (.iface nt nx) from(World.cell?_of_block (a:=⟨6,0,none⟩) (i.block _ (World.block_lt_of_cell? w ⟨6,0,none⟩ r) id)).trans r);replace A:=zy A;replace g:=zy g;replace hwz:=zy hwz;cases d:qE lr o l with
 |none=>
  rw[d]at m v;go_in;go_wp2_with (go_at_call 136;rw[<- hwz.o];apply(v.o _ g).mono;rintro e w1 ⟨rfl,j⟩;simp only[pz,Option.getD_none,by_];have k:=zy (g.o.trans j u_);have V:=H.o w1 k);go_quiet (fail);go_wp2;try go_ret
  rw[m.o];exact⟨_,_,rfl,k.o.si (zw.drewN _ _),rfl,.base⟩
 |some q=>
  rw[d]at m v;obtain⟨⟨D,pq⟩,z⟩:∃e,lr[q]?=some e:=by
   have key:∀x,(lr.map Prod.fst).findIdx? (λy=>y==x)=some q->∃e,lr[q]?=some e:=λx h=>by
    have:=(List.findIdx?_eq_some_iff_findIdx_eq.1 h).1;rw[bm_]at this;exact⟨_,ak_ this⟩
   unfold qE at d;split at d
   .rename_i h;cases d;exact key _ h
   .split at d
    .cases d
    .exact key _ d
  have X:q<lr.length:=(am_.1 z).1;have Z:(q:Int)<(lr.length:Int):=M_;have Y:¬((q:Int)<0):=M_;obtain⟨gg,U,L⟩:=zu ho M_;cases L;have hc:=zy (λW (i:Fr w W N_)=>ze (zk ho i u_) rfl (xW z).2);have M:=C _ (al_ z);have N:=zy (show fI er (.leaf c pr) q=D by
   simp only[fI,B,az_,a1_,z,a4_,b5_])
  go_in;go_wp2_with (go_at_call 136;rw[<- hwz.o];apply(v.o _ g).mono;rintro e w1 ⟨rfl,j⟩;simp only[pz,b5_,b3_];have k:=zy (g.o.trans j u_);have m4:=(j.bl A id).c4;have m5:=hc.o w1 k);try go_ret
  rw[m.o];refine⟨_,_,rfl,k,rfl,.flat (.sym q D M_) (λS O e=>?_)⟩;simp only[Value.iface.injEq,Value.agg.injEq,true_and]at e;have J:=congrArg (λx:Array Value=>x[0]?) e;have K:=congrArg (λx:Array Value=>x[1]?) e;simp only[List.getElem?_toArray,aa_,ab_,ae_,Value.int.injEq,true_and]at J K;obtain rfl:q=S:=M_;obtain rfl:D=O:=M_;refine⟨N,?_⟩;simp only[zt,a0_,decide_eq_true_eq]at M;omega
end Go.Proofs.YtahhhgbojlkjnaaGreatDoor
