import Derived.Test.YthmjjpkjgjklmaaGreatDoorW42
import Derived.Test.YthmjjpkjgjklmaaGreatDoorW43
import Derived.Test.YthmjjpkjgjklmaaGreatDoorW22
import Derived.Test.YthmjjpkjgjklmaaGreatDoorW26
import Derived.Test.YthmjjpkjgjklmaaGreatDoorA00
set_option maxHeartbeats 16000000
set_option maxRecDepth 100000
set_option linter.unusedSimpArgs false
open Go.Proofs.Tryz
namespace Go.Proofs.YthmjjpkjgjklmaaGreatDoor
open Go.RowKit
variable {f n c:Nat}{v5 v lv0 b:Value}{d:DT}{Y0:Nat->Value}{α β:Type}{g:α->Option β}{zs:List Value}{p:Int}
def DfM (k0:Nat) (Q:Nat->Prop) (W:World) (s:BA) (ds:List PD) (xs:List Value):Prop:=
 ∃ blk,zgw (zrb blk) W ds xs/\zu0 Q ds blk/\∀ f∈zd_ ds,∀ a e,f.dflt=some (a,e)->∃ x d,xn_ (za_ ds) true f.ty (s.extract a e)=some d/\Blk W (blk a) [.int .i64 (a:Int),.string (s.extract a e),x] 224/\DaV (za_ ds) W (λ g=>g<k0) d f.ty x
theorem DfM.fr {k0:Nat}{Q:Nat->Prop}{w w':World}{s:BA}{ds:List PD}{sv:Value}{xs:List Value}(h:DfM k0 Q w s ds xs) (D:DRow w Q s ds sv xs) (hf:Fr w w' (λ _=>False)):DfM k0 Q w' s ds xs:=by
 obtain⟨blk,h1,h2,h3⟩:=h;refine⟨blk,h1.to D (λ fv n zs hP ho=>zb_ ho hf u_),h2,λ f hm a e he=>?_⟩;obtain⟨x,d,r1,r2,r3⟩:=h3 f hm a e he;exact⟨x,d,r1,hf.blk r2 id,r3.fr hf u_⟩
theorem Dfs.dfm {lo:Nat}{Q:Nat->Prop}{w:World}{s:BA}{ds:List PD}{xs:List Value}(h:Dfs lo Q w s ds xs):DfM w.heap.size Q w s ds xs:=by
 obtain⟨blk,h1,h2,h3⟩:=h;refine⟨blk,h1,h2,λ f hm a e he=>?_⟩;obtain⟨x,d,r1,r2,r3⟩:=h3 f hm a e he;exact⟨x,d,r1,r2,r3.mono (λ g hg _=>hg)⟩
structure MC (w0:World) (P Q:Nat->Prop) (s s':BA) (ds ds':List PD) (sv sv':Value) (xs xs':List Value) (k0:Nat) (nt:TypeId) (nx:Value) (W:World):Prop where
 D:DRow W P s ds sv xs
 E:DRow W Q s' ds' sv' xs'
 F:DfM k0 Q W s' ds' xs'
 G:y1_ w0 W
 X:ErrV 6 w0 nt nx
 z:w0.heap.size<=W.heap.size
 k:k0<=W.heap.size
structure MS (w0:World) (ds ds':List PD):Prop where
 I:yi_ w0
 K:yd_ w0
 g:v0_ ds
 g':v0_ ds'
 f:fewE (za_ ds)
 f':fewE (za_ ds')
def y2_ (er:Nat->Option PB) (y:PT) (k0:Nat) (w:World) (nt:TypeId) (nx:Value) (o:Option DT) (e:Ending) (w':World):Prop:=
 ∃ v ev,e=.returned (.tuple #[v,ev])/\Fr w w' (λ _=>False)/\
 match o with
 | some d=>ev=.nilIface/\DaV er w' (λ g=>g<k0\/w.heap.size<=g) d y v
 | none=>v=.nilIface/\ErrD w' w.heap.size nt nx ev
section
variable {w0 w w1 W W':World} {P Q:Nat->Prop} {s s':BA} {ds ds':List PD} {sv sv':Value} {xs xs':List Value} {k0:Nat} {nt:TypeId} {nx:Value} {er:Nat->Option PB} {y:PT} {o:Option DT} {e:Ending}
theorem MC.new (M:MC w0 P Q s s' ds ds' sv sv' xs xs' k0 nt nx W) (hf:Fr W W' (λ _=>False)):MC w0 P Q s s' ds ds' sv sv' xs xs' k0 nt nx W':=
 ⟨M.D.fr hf u_,M.E.fr hf u_,M.F.fr M.E hf,M.G.fr hf M.z (λ _ f=>f.elim),M.X,ah_ M.z hf.size,ah_ M.k hf.size⟩
theorem MC.err (M:MC w0 P Q s s' ds ds' sv sv' xs xs' k0 nt nx W):W.cell? ⟨6,0,none⟩=some (.iface nt nx):=M.G.err M.X
theorem y2_.pre (hf:Fr w w1 (λ _=>False)) (h:y2_ er y k0 w1 nt nx o e W):y2_ er y k0 w nt nx o e W:=by
 obtain⟨v,ev,he,hf2,hm⟩:=h;have hz:=hf.size;refine⟨v,ev,he,hf.trans hf2 u_,?_⟩
 cases o with
 | none=>exact⟨hm.1,hm.2.less hz⟩
 | some d=>exact⟨hm.1,hm.2.mono (λ g _ hg=>by omega)⟩
theorem y2_.two (hf:Fr w w1 (λ _=>False)) (h:y2_ er y k0 w1 nt nx o e W):Fr w1 W (λ _=>False)/\y2_ er y k0 w nt nx o e W:=
 ⟨by obtain⟨_,_,_,h,_⟩:=h;exact h,h.pre hf⟩
theorem y2_.tup (h:y2_ er y k0 w nt nx o e W):∃ v ev,e=.returned (.tuple #[v,ev])/\y2_ er y k0 w nt nx o (.returned (.tuple #[v,ev])) W:=by
 have h':=h;obtain⟨v,ev,he,_⟩:=h';exact⟨v,ev,he,he▸h⟩
end
def MkOK (w0:World) (P Q:Nat->Prop) (s s':BA) (ds ds':List PD) (sv sv':Value) (xs xs':List Value) (k0:Nat) (nt:TypeId) (nx:Value) (sT:TypeId) (sx:Value) (rT:TypeId) (rx:Value) (f:Nat):Prop:=
 ∀ (w:World) (x y:PT) (d:DT) (a b v:Value),MC w0 P Q s s' ds ds' sv sv' xs xs' k0 nt nx w->TyV w P x a->TyV w Q y b->okT (za_ ds) x->okT (za_ ds') y->fewT y->Dat (za_ ds) d x->DaV (za_ ds) w (λ g=>g<k0) d x v->ndT d<=300->ndT d<=f->
  Calls prog 63 #[.agg #[sv,.iface sT sx,sv',.iface rT rx],a,b,v] w (y2_ (za_ ds') y k0 w nt nx (mkP (za_ ds) (za_ ds') (dfOf (za_ ds') s') f x y d))
theorem RowT.growJ {env:Nat->Option PB}{w1 w6:World}{B:Nat}{J:Nat->Prop}{t:PT}{ds:List DT}{lv:Value}{Y:Nat->Value}(hY:∀ i d,ds[i]?=some d->DaV env w1 (λ g=>J g/\lv.ownBlock≠some g) d (yb_ env t 0 i) (Y i)) (hd:DaV env w1 (λ g=>J g/\lv.ownBlock≠some g) d (yb_ env t 0 ds.length) v) (hf:Fr w1 w6 (λ g=>lv.ownBlock=some g))
 (hl:v5.ownBlock=lv.ownBlock\/∃ h,v5.ownBlock=some h/\w1.heap.size<=h) (ho:w6.ownsRow B 94 1 v5 (ds.length+1) (((List.range ds.length).flatMap λ i=>[Y i])++[v])):RowT env w6 B (λ g=>J g/\v5.ownBlock≠some g) t v5 (ds++[d]):=by
 have up:∀ {d u v},DaV env w1 (λ g=>J g/\lv.ownBlock≠some g) d u v->DaV env w6 (λ g=>J g/\v5.ownBlock≠some g) d u v:=λ h=>by
  have h1:DaV env w1 (λ g=>(J g/\lv.ownBlock≠some g)/\g<w1.heap.size) _ _ _:=h.mono (λ g h1 h2=>⟨h2,h1⟩);refine(h1.fr hf (λ g hg e=>hg.1.2 e)).mono (λ g _ hg=>⟨hg.1.1,λ e=>?_⟩)
  rcases hl with h|⟨q,h,hq⟩
  ·exact hg.1.2 (h▸e)
  ·rw[h] at e;have:=hg.2;simp only[ad_] at e;omega
 refine⟨λ i=>if i<ds.length then Y i else v,?_,λ i e he=>?_⟩
 ·rw[al_,ai_,bi_,a5_,z2_ ds.length _ (λ i=>[Y i]) (λ i hi=>by simp[hi])]
  simpa using ho
 ·rcases zfd he with⟨hi,he⟩|⟨rfl,rfl⟩
  ·simp only[hi,if_true];exact up (hY i e he)
  ·simp only[by_,if_false];exact up hd
theorem RowE.growJ {env:Nat->Option PB}{w1 w6:World}{J:Nat->Prop}{t:PT}{es:List (BA×DT)}{ys:List Value}{lv:Value}{key:BA}(h:RowE env w1 (λ g=>J g/\lv.ownBlock≠some g) t es ys) (hd:DaV env w1 (λ g=>J g/\lv.ownBlock≠some g) d (yb_ env t 0 es.length) v) (hk:key.size<=4000) (hf:Fr w1 w6 (λ g=>lv.ownBlock=some g))
 (hl:v5.ownBlock=lv.ownBlock\/∃ h,v5.ownBlock=some h/\w1.heap.size<=h):RowE env w6 (λ g=>J g/\v5.ownBlock≠some g) t (es++[(key,d)]) (ys++[.string key,v]):=by
 obtain⟨Y,a,b,k⟩:=h
 have up:∀ {d u v},DaV env w1 (λ g=>J g/\lv.ownBlock≠some g) d u v->DaV env w6 (λ g=>J g/\v5.ownBlock≠some g) d u v:=λ h=>by
  have h1:DaV env w1 (λ g=>(J g/\lv.ownBlock≠some g)/\g<w1.heap.size) _ _ _:=h.mono (λ g h1 h2=>⟨h2,h1⟩);refine(h1.fr hf (λ g hg e=>hg.1.2 e)).mono (λ g _ hg=>⟨hg.1.1,λ e=>?_⟩)
  rcases hl with h|⟨q,h,hq⟩
  ·exact hg.1.2 (h▸e)
  ·rw[h] at e;have:=hg.2;simp only[ad_] at e;omega
 refine⟨λ i=>if i<es.length then Y i else v,?_,λ i e he=>?_,λ e he=>?_⟩
 ·have hc2:=z2_ es.length (λ i=>[Value.string (((es++[(key,d)]).map Prod.fst).getD i noB),if i<es.length then Y i else v]) (λ i=>[Value.string ((es.map Prod.fst).getD i noB),Y i]) (λ i hi=>by
   simp only[bq_,aq_]
   rw[av_ (by simpa using hi),if_pos hi])
  rw[a,al_,ai_,bi_,a5_,hc2]
  simp[aq_]
 ·rcases zfd he with⟨hi,he⟩|⟨rfl,rfl⟩
  ·simp only[hi,if_true];exact up (b i e he)
  ·simp only[by_,if_false];exact up hd
 ·rcases bj_.1 he with h|h
  ·exact k e h
  ·simp only[a6_] at h;subst h;exact hk
open Go.RowKit
section
variable {w:World} {sa ra:Option Addr} {sn sc rn rc:Nat} {sT rT aT bT dT:TypeId} {sx rx ax bx dx:Value}
theorem zwa {R:Ending->World->Prop}{N:Value->World->Prop}
 (hM:∀ W,Fr w W (λ _=>False)->Calls prog 92 #[.agg #[.slice sa sn sc,.iface sT sx,.slice ra rn rc,.iface rT rx],.iface aT ax,.iface bT bx] W (λ e w'=>∃ T u,e=.returned (.iface T u)/\Fr W w' (λ _=>False)/\N (.iface T u) w'))
 (hB:∀ W T u,Fr w W (λ _=>False)->N (.iface T u) W->Calls prog 91 #[.agg #[.slice sa sn sc,.iface sT sx,.slice ra rn rc,.iface rT rx],.iface T u,.iface dT dx] W (λ e w'=>∃ v ev,e=.returned (.tuple #[v,ev])/\Fr W w' (λ _=>False)/\R (.returned (.tuple #[v,ev])) w')) :
 Calls prog 63 #[.agg #[.slice sa sn sc,.iface sT sx,.slice ra rn rc,.iface rT rx],.iface aT ax,.iface bT bx,.iface dT dx] w R:=by
 refine hq_ λ POST Q_=>?_;replace hM:=q_ hM;replace hB:=q_ hB;obtain⟨wz,hwz⟩:∃ W,W=w.alloc (.cells #[.slice sa sn sc,.iface sT sx,.slice ra rn rc,.iface rT rx] 127):=⟨_,rfl⟩
 have Fz:Fr w wz (λ _=>False):=by rw[hwz];exact(Fr.refl w (λ _=>False)).alloc _
 have B0:Blk wz w.heap.size [.slice sa sn sc,.iface sT sx,.slice ra rn rc,.iface rT rx] 127:=by
  rw[hwz];exact Blk.new w #[.slice sa sn sc,.iface sT sx,.slice ra rn rc,.iface rT rx] 127
 obtain⟨CL,hCL⟩:∃ C:World->Prop,C=λ W=>W.cell? ⟨w.heap.size,0,none⟩=some (.slice sa sn sc)/\W.cell? ⟨w.heap.size,1,none⟩=some (.iface sT sx)/\W.cell? ⟨w.heap.size,2,none⟩=some (.slice ra rn rc)/\W.cell? ⟨w.heap.size,3,none⟩=some (.iface rT rx):=⟨_,rfl⟩
 have hC:=q_ (λ W (hW:Fr wz W (λ _=>False))=>show CL W by
  rw[hCL]
  exact⟨(hW.blk B0 id).cell 0,(hW.blk B0 id).cell 1,(hW.blk B0 id).cell 2,(hW.blk B0 id).cell 3⟩)
 clear B0;replace Fz:=q_ Fz;replace hwz:=q_ hwz;replace hCL:=q_ hCL
 go_in
 go_wp2_with fail
 rw[<- hwz.o];refine z8_ CL (by kernel_rfl) ?_;refine zc_ 0 ?v0 rfl (by kernel_rfl) (λ _ _ _ h=>h) (by kernel_rfl) ?yv0 ?_
 case yv0=>(intro W h;rw[hCL.o] at h;obtain⟨c0,c1,c2,c3⟩:=h;go_simp<;>rfl)
 refine zc_ 1 ?v1 rfl (by kernel_rfl) (λ _ _ _ h=>h) (by kernel_rfl) ?yv1 ?_
 case yv1=>(intro W h;rw[hCL.o] at h;obtain⟨c0,c1,c2,c3⟩:=h;go_simp<;>rfl)
 refine zc_ 2 ?v2 rfl (by kernel_rfl) (λ _ _ _ h=>h) (by kernel_rfl) ?yv2 ?_
 case yv2=>(intro W h;rw[hCL.o] at h;obtain⟨c0,c1,c2,c3⟩:=h;go_simp<;>rfl)
 refine zc_ 3 ?v3 rfl (by kernel_rfl) (λ _ _ _ h=>h) (by kernel_rfl) ?yv3 ?_
 case yv3=>(intro W h;rw[hCL.o] at h;obtain⟨c0,c1,c2,c3⟩:=h;go_simp<;>rfl)
 refine zc_ 5 ?v5 rfl (by kernel_rfl) (λ _ _ _ h=>h) (by kernel_rfl) ?yv5 ?_
 case yv5=>(intro W h;rw[hCL.o] at h;obtain⟨c0,c1,c2,c3⟩:=h;go_simp<;>rfl)
 refine zr_ 4 rfl (by kernel_rfl) (hC.o _ (Fr.refl wz _).drew) (λ K1 hK1=>?_);go_simp;refine(hM.o _ Fz.o.drew).mono ?_;rintro e w1 ⟨T1,u1,rfl,hf1,hN⟩;have F1:=q_ ((Fr.refl wz (λ _=>False)).drew.trans hf1 u_);replace hN:=q_ hN;clear hf1;refine hK1 _ _ ?_;clear hK1 K1;refine zr_ 6 rfl (by kernel_rfl) (hC.o _ F1.o) (λ K1 hK1=>?_);go_simp;refine(hB.o _ _ _ (Fz.o.trans F1.o u_) hN.o).mono ?_;rintro e w2 ⟨v2,ev2,rfl,hf2,hR⟩;have F2:=q_ (F1.o.trans hf2 u_);replace hR:=q_ hR;clear hf2;refine hK1 _ _ ?_;clear hK1 K1;refine zc_ 7 ?v7 rfl (by kernel_rfl) (λ _ _ _ h=>h) (by kernel_rfl) ?yv7 ?_
 case yv7=>(intro W h;go_simp<;>rfl)
 refine zc_ 8 ?v8 rfl (by kernel_rfl) (λ _ _ _ h=>h) (by kernel_rfl) ?yv8 ?_
 case yv8=>(intro W h;go_simp<;>rfl)
 refine zc_ 9 ?v9 rfl (by kernel_rfl) (λ _ _ _ h=>h) (by kernel_rfl) ?yv9 ?_
 case yv9=>(intro W h;go_simp<;>rfl)
 refine zc_ 10 ?v10 rfl (by kernel_rfl) (λ _ _ _ h=>h) (by kernel_rfl) ?yv10 ?_
 case yv10=>(intro W h;go_simp<;>rfl)
 refine z5_ (by kernel_rfl) (hC.o _ F2.o) ?_ _
 go_wp2_with fail
 refine bodyPost_ret (v:=.tuple #[v2,ev2]) (by simp[results,results63,go_sem];try rfl) rfl ?_;rw[Q_.o];exact hR.o
theorem zkt {y0 y:PT}{k0:Nat}{nt:TypeId}{nx:Value}{er:Nat->Option PB}{o:Option DT}(hn:n<=4000) (hy:yb_ er y n 0=y0)
 (h:∀ W,Fr w W (λ _=>False)->Calls prog 91 #[.agg #[.slice sa sn sc,.iface sT sx,.slice ra rn rc,.iface rT rx],.iface bT bx,.iface dT dx] W (y2_ er y0 k0 W nt nx o)) :
 Calls prog 143 #[.agg #[.slice sa sn sc,.iface sT sx,.slice ra rn rc,.iface rT rx],.agg #[.int .i64 (n:Int),.iface bT bx],.iface dT dx] w (y2_ er y k0 w nt nx (o.map λ x=>.mk 40 (n:Int) noB [] [x])):=by
 refine hq_ λ POST Q_=>?_;have A2:=q_ (λ o o'=>((Fr.refl w (λ _=>False)).alloc o).alloc o')
 have B1:Blk ((w.alloc (.cells #[.slice sa sn sc,.iface sT sx,.slice ra rn rc,.iface rT rx] 127)).alloc (.cells #[.int .i64 (n:Int),.iface bT bx] 278)) (w.heap.size+1) [.int .i64 (n:Int),.iface bT bx] 278:=by
  have h:=Blk.new (w.alloc (.cells #[.slice sa sn sc,.iface sT sx,.slice ra rn rc,.iface rT rx] 127)) #[.int .i64 (n:Int),.iface bT bx] 278;rw[z1_] at h;exact h
 replace B1:=q_ B1;replace h:=q_ (λ W hW=>(h W hW).mono (λ e w' q=>y2_.two hW q))
 cases o with
 | none=>
  go_in
  go_wp2_with (go_at_call 91;refine(h.o _ (A2.o _ _)).mono ?_;rintro e w1 ⟨hf1,v1,ev1,rfl,F1,hv1,hE1⟩;subst hv1;obtain⟨eT,ex,rfl⟩:=hE1.iface;replace F1:=q_ F1;replace hE1:=q_ hE1;clear hf1)
  try go_ret
  rw[Q_.o];exact⟨_,_,rfl,F1.o,rfl,hE1.o⟩
 | some x=>
  go_in
  go_wp2_with (go_at_call 91;refine(h.o _ (A2.o _ _)).mono ?_;rintro e w1 ⟨hf1,v1,ev1,rfl,F1,hv1,hD1⟩;subst hv1;obtain⟨eT,ex,rfl⟩:=hD1.iface;have m0:=(hf1.blk B1.o id).c0;replace F1:=q_ F1;replace hD1:=q_ hD1;clear hf1)
  try go_ret
  rw[Q_.o];refine⟨_,_,rfl,F1.o,rfl,?_⟩;refine .branch n hn ?_;rw[hy];exact hD1.o
end
open Go.RowKit
theorem ziu {w0 w:World}{P Q:Nat->Prop}{s s':BA}{ds ds':List PD}{sv sv':Value}{xs xs':List Value}{k0:Nat}{nt:TypeId}{nx:Value}{sT rT:TypeId}{sx rx:Value}{ws:List PT}{y t1:PT}{d1:DT}{X:Nat->Value}{uv v1:Value}(H:MS w0 ds ds') (ih:MkOK w0 P Q s s' ds ds' sv sv' xs xs' k0 nt nx sT sx rT rx f) (M:MC w0 P Q s s' ds ds' sv sv' xs xs' k0 nt nx w)
 (ho:w.ownsRow 0 88 1 uv ws.length ((List.range ws.length).map X)) (hX:∀ i t,ws[i]?=some t->TyV w P t (X i)) (hb:TyV w Q y b) (hn:ws[n]?=some t1) (hn4:n<=4000) (okx:okT (za_ ds) t1) (oky:okT (za_ ds') y) (fy:fewT y) (hd:Dat (za_ ds) d1 t1) (hv:DaV (za_ ds) w (λ g=>g<k0) d1 t1 v1) (h1:ndT d1<=300) (h2:ndT d1<=f) :
 Calls prog 142 #[.agg #[sv,.iface sT sx,sv',.iface rT rx],.agg #[uv,b],.iface 175 (.agg #[.int .i64 (n:Int),v1])] w (y2_ (za_ ds') y k0 w nt nx (mkP (za_ ds) (za_ ds') (dfOf (za_ ds') s') f t1 y d1)):=by
 obtain⟨POST,Q_⟩:∃ R,H_ (R=y2_ (za_ ds') y k0 w nt nx (mkP (za_ ds) (za_ ds') (dfOf (za_ ds') s') f t1 y d1)):=⟨_,rfl⟩;rw[<- Q_.o];have hlt:n<ws.length:=(ao_.1 hn).1;obtain⟨g,cap,rfl⟩:=zk_ ho (by omega);obtain⟨sa,sc,rfl⟩:=zf_ M.D.row;obtain⟨ra,rc,rfl⟩:=zf_ M.E.row;obtain⟨bT,bx,rfl⟩:=hb.iface;obtain⟨dT,dx,rfl⟩:=hv.iface;obtain⟨tT,tx,hXn⟩:=(hX n t1 hn).iface;have hMd:=λ W (hW:Fr w W (λ _=>False))=>(ih W t1 y d1 (X n) _ _ (M.new hW) ((hX n t1 hn).fr hW u_) (hb.fr hW u_) okx oky fy hd (hv.fr hW u_) h1 h2).mono (λ e w' q=>y2_.two hW q);rw[hXn] at hMd
 have hce:∀ W,Fr w W (λ _=>False)->W.cell? ⟨g,n,none⟩=some (.iface tT tx):=λ W hW=>by
  have:=zs_ (zb_ ho hW u_) rfl (k:=n) (x:=X n) (by rw[a4_,List.getElem?_range hlt];rfl);rw[hXn] at this;exact this
 have hGd:=λ W (hW:Fr w W (λ _=>False))=>(M.new hW).G;have hI:=H.I;clear ho hX hb okx oky fy hd hv M ih hXn H hn
 have hlt':(n:Int)<(ws.length:Int):=by omega
 have hn0:¬ ((n:Int)<0):=by omega
 obtain⟨wz,hwz⟩:∃ W,W=((w.alloc (.cells #[.slice sa ds.length sc,.iface sT sx,.slice ra ds'.length rc,.iface rT rx] 127)).alloc (.cells #[.slice (some ⟨g,0,none⟩) ws.length cap,.iface bT bx] 275)).alloc (.cells #[.int .i64 (n:Int),.iface dT dx] 175):=⟨_,rfl⟩
 have Fz:Fr w wz (λ _=>False):=by rw[hwz];exact(((Fr.refl w (λ _=>False)).alloc _).alloc _).alloc _
 have B0:Blk wz w.heap.size [.slice sa ds.length sc,.iface sT sx,.slice ra ds'.length rc,.iface rT rx] 127:=by
  rw[hwz];exact((Blk.new w #[.slice sa ds.length sc,.iface sT sx,.slice ra ds'.length rc,.iface rT rx] 127).alloc _).alloc _
 have B1:Blk wz (w.heap.size+1) [.slice (some ⟨g,0,none⟩) ws.length cap,.iface bT bx] 275:=by
  rw[hwz];have h:=(Blk.new (w.alloc (.cells #[.slice sa ds.length sc,.iface sT sx,.slice ra ds'.length rc,.iface rT rx] 127)) #[.slice (some ⟨g,0,none⟩) ws.length cap,.iface bT bx] 275).alloc (.cells #[.int .i64 (n:Int),.iface dT dx] 175);rw[z1_] at h;exact h
 have B2:Blk wz (w.heap.size+1+1) [.int .i64 (n:Int),.iface dT dx] 175:=by
  rw[hwz];have h:=Blk.new ((w.alloc (.cells #[.slice sa ds.length sc,.iface sT sx,.slice ra ds'.length rc,.iface rT rx] 127)).alloc (.cells #[.slice (some ⟨g,0,none⟩) ws.length cap,.iface bT bx] 275)) #[.int .i64 (n:Int),.iface dT dx] 175;rw[z1_,z1_] at h;exact h
 obtain⟨CL,hCL⟩:∃ C:World->Prop,C=λ W=>W.cell? ⟨w.heap.size,0,none⟩=some (.slice sa ds.length sc)/\W.cell? ⟨w.heap.size,1,none⟩=some (.iface sT sx)/\W.cell? ⟨w.heap.size,2,none⟩=some (.slice ra ds'.length rc)/\W.cell? ⟨w.heap.size,3,none⟩=some (.iface rT rx)/\W.cell? ⟨w.heap.size+1,0,none⟩=some (.slice (some ⟨g,0,none⟩) ws.length cap)/\W.cell? ⟨w.heap.size+1,1,none⟩=some (.iface bT bx)/\W.cell? ⟨w.heap.size+1+1,0,none⟩=some (.int .i64 (n:Int))/\W.cell? ⟨w.heap.size+1+1,1,none⟩=some (.iface dT dx)/\W.cell? ⟨g,n,none⟩=some (.iface tT tx):=⟨_,rfl⟩
 have hC:=q_ (λ W (hW:Fr wz W (λ _=>False))=>show CL W by
  rw[hCL]
  exact⟨(hW.blk B0 id).cell 0,(hW.blk B0 id).cell 1,(hW.blk B0 id).cell 2,(hW.blk B0 id).cell 3,(hW.blk B1 id).cell 0,(hW.blk B1 id).cell 1,(hW.blk B2 id).cell 0,(hW.blk B2 id).cell 1,hce W (Fz.trans hW u_)⟩)
 clear B0 B1 hce;replace B2:=q_ B2;replace Fz:=q_ Fz;replace hwz:=q_ hwz;replace hCL:=q_ hCL;replace hGd:=q_ hGd;replace hI:=q_ hI;have ay:=zas;generalize mkP (za_ ds) (za_ ds') (dfOf (za_ ds') s') f t1 y d1=o at hMd Q_;replace hMd:=q_ hMd
 cases o with
 | none=>
  go_in
  go_wp2_with fail
  rw[<- hwz.o];refine z8_ CL (by kernel_rfl) ?_;refine zc_ 0 ?v0 rfl (by kernel_rfl) (λ _ _ _ h=>h) (by kernel_rfl) ?yv0 ?_
  case yv0=>(intro W h;rw[hCL.o] at h;obtain⟨c0,c1,c2,c3,c4,c5,c6,c7,c8⟩:=h;go_simp<;>rfl)
  refine zc_ 1 ?v1 rfl (by kernel_rfl) (λ _ _ _ h=>h) (by kernel_rfl) ?yv1 ?_
  case yv1=>(intro W h;rw[hCL.o] at h;obtain⟨c0,c1,c2,c3,c4,c5,c6,c7,c8⟩:=h;go_simp<;>rfl)
  refine zc_ 2 ?v2 rfl (by kernel_rfl) (λ _ _ _ h=>h) (by kernel_rfl) ?yv2 ?_
  case yv2=>(intro W h;rw[hCL.o] at h;obtain⟨c0,c1,c2,c3,c4,c5,c6,c7,c8⟩:=h;go_simp<;>rfl)
  refine zc_ 3 ?v3 rfl (by kernel_rfl) (λ _ _ _ h=>h) (by kernel_rfl) ?yv3 ?_
  case yv3=>(intro W h;rw[hCL.o] at h;obtain⟨c0,c1,c2,c3,c4,c5,c6,c7,c8⟩:=h;go_simp<;>rfl)
  refine zc_ 4 ?v4 rfl (by kernel_rfl) (λ _ _ _ h=>h) (by kernel_rfl) ?yv4 ?_
  case yv4=>(intro W h;rw[hCL.o] at h;obtain⟨c0,c1,c2,c3,c4,c5,c6,c7,c8⟩:=h;go_simp<;>rfl)
  refine zc_ 5 ?v5 rfl (by kernel_rfl) (λ _ _ _ h=>h) (by kernel_rfl) ?yv5 ?_
  case yv5=>(intro W h;rw[hCL.o] at h;obtain⟨c0,c1,c2,c3,c4,c5,c6,c7,c8⟩:=h;go_simp<;>rfl)
  refine zc_ 6 ?v6 rfl (by kernel_rfl) (λ _ _ _ h=>h) (by kernel_rfl) ?yv6 ?_
  case yv6=>(intro W h;rw[hCL.o] at h;obtain⟨c0,c1,c2,c3,c4,c5,c6,c7,c8⟩:=h;go_simp<;>rfl)
  refine zc_ 7 ?v7 rfl (by kernel_rfl) (λ _ _ _ h=>h) (by kernel_rfl) ?yv7 ?_
  case yv7=>(intro W h;rw[hCL.o] at h;obtain⟨c0,c1,c2,c3,c4,c5,c6,c7,c8⟩:=h;go_simp<;>rfl)
  refine zc_ 8 ?v8 rfl (by kernel_rfl) (λ _ _ _ h=>h) (by kernel_rfl) ?yv8 ?_
  case yv8=>(intro W h;rw[hCL.o] at h;obtain⟨c0,c1,c2,c3,c4,c5,c6,c7,c8⟩:=h;go_simp<;>rfl)
  refine zc_ 9 ?v9 rfl (by kernel_rfl) (λ _ _ _ h=>h) (by kernel_rfl) ?yv9 ?_
  case yv9=>(intro W h;rw[hCL.o] at h;obtain⟨c0,c1,c2,c3,c4,c5,c6,c7,c8⟩:=h;go_simp<;>rfl)
  refine zc_ 10 ?v10 rfl (by kernel_rfl) (λ _ _ _ h=>h) (by kernel_rfl) ?yv10 ?_
  case yv10=>(intro W h;rw[hCL.o] at h;obtain⟨c0,c1,c2,c3,c4,c5,c6,c7,c8⟩:=h;go_simp<;>rfl)
  refine zr_ 11 rfl (by kernel_rfl) (hC.o _ (Fr.refl wz _).drew) (λ K1 hK1=>?_);go_simp;refine(hMd.o _ Fz.o.drew).mono ?_;rintro e w1 ⟨hf1,v1,ev1,rfl,F1,hv1,hE1⟩;subst hv1;obtain⟨eT,ex,rfl⟩:=hE1.iface;have m0:=(((Fr.refl wz (λ _=>False)).drew.trans hf1 u_).blk B2.o id).cell 0;simp only[aa_] at m0;have hG1:=q_ (hGd.o _ F1);replace hf1:=q_ hf1;replace F1:=q_ F1;replace hE1:=q_ hE1;refine hK1 _ _ ?_;clear hK1 K1;refine zc_ 12 ?v12 rfl (by kernel_rfl) (λ _ _ _ h=>h) (by kernel_rfl) ?yv12 ?_
  case yv12=>(intro W h;go_simp<;>rfl)
  refine zc_ 13 ?v13 rfl (by kernel_rfl) (λ _ _ _ h=>h) (by kernel_rfl) ?yv13 ?_
  case yv13=>(intro W h;go_simp<;>rfl)
  refine zc_ 14 ?v14 rfl (by kernel_rfl) (λ _ _ _ h=>h) (by kernel_rfl) ?yv14 ?_
  case yv14=>(intro W h;go_simp<;>rfl)
  refine zc_ 15 ?v15 rfl (by kernel_rfl) (λ _ _ _ h=>h) (by kernel_rfl) ?yv15 ?_
  case yv15=>(intro W h;go_simp<;>rfl)
  refine zc_ 16 ?v16 rfl (by kernel_rfl) (λ _ _ _ h=>h) (by kernel_rfl) ?yv16 ?_
  case yv16=>(intro W h;go_simp<;>rfl)
  refine z5_ (by kernel_rfl) (hC.o _ ((Fr.refl wz (λ _=>False)).drew.trans hf1.o u_)) ?_ _
  go_wp2_with (go_at_call 189;refine(zbg hI.o hG1.o hn4).mono ?_;rintro e w3 hW3;have hE3:=q_ (λ v (he:e=.returned v)=>hE1.o.wrap hW3 (F1.o.size) he);obtain⟨g3,tx3,rfl,hg3,hb3,hf3⟩:=hW3;replace hf3:=q_ hf3;clear hb3)
  try go_ret
  rw[Q_.o];exact⟨_,_,rfl,F1.o.trans hf3.o u_,rfl,hE3.o _ rfl⟩
 | some x=>
  go_in
  go_wp2_with fail
  rw[<- hwz.o];refine z8_ CL (by kernel_rfl) ?_;refine zc_ 0 ?z0 rfl (by kernel_rfl) (λ _ _ _ h=>h) (by kernel_rfl) ?yz0 ?_
  case yz0=>(intro W h;rw[hCL.o] at h;obtain⟨c0,c1,c2,c3,c4,c5,c6,c7,c8⟩:=h;go_simp<;>rfl)
  refine zc_ 1 ?z1 rfl (by kernel_rfl) (λ _ _ _ h=>h) (by kernel_rfl) ?yz1 ?_
  case yz1=>(intro W h;rw[hCL.o] at h;obtain⟨c0,c1,c2,c3,c4,c5,c6,c7,c8⟩:=h;go_simp<;>rfl)
  refine zc_ 2 ?z2 rfl (by kernel_rfl) (λ _ _ _ h=>h) (by kernel_rfl) ?yz2 ?_
  case yz2=>(intro W h;rw[hCL.o] at h;obtain⟨c0,c1,c2,c3,c4,c5,c6,c7,c8⟩:=h;go_simp<;>rfl)
  refine zc_ 3 ?z3 rfl (by kernel_rfl) (λ _ _ _ h=>h) (by kernel_rfl) ?yz3 ?_
  case yz3=>(intro W h;rw[hCL.o] at h;obtain⟨c0,c1,c2,c3,c4,c5,c6,c7,c8⟩:=h;go_simp<;>rfl)
  refine zc_ 4 ?z4 rfl (by kernel_rfl) (λ _ _ _ h=>h) (by kernel_rfl) ?yz4 ?_
  case yz4=>(intro W h;rw[hCL.o] at h;obtain⟨c0,c1,c2,c3,c4,c5,c6,c7,c8⟩:=h;go_simp<;>rfl)
  refine zc_ 5 ?z5 rfl (by kernel_rfl) (λ _ _ _ h=>h) (by kernel_rfl) ?yz5 ?_
  case yz5=>(intro W h;rw[hCL.o] at h;obtain⟨c0,c1,c2,c3,c4,c5,c6,c7,c8⟩:=h;go_simp<;>rfl)
  refine zc_ 6 ?z6 rfl (by kernel_rfl) (λ _ _ _ h=>h) (by kernel_rfl) ?yz6 ?_
  case yz6=>(intro W h;rw[hCL.o] at h;obtain⟨c0,c1,c2,c3,c4,c5,c6,c7,c8⟩:=h;go_simp<;>rfl)
  refine zc_ 7 ?z7 rfl (by kernel_rfl) (λ _ _ _ h=>h) (by kernel_rfl) ?yz7 ?_
  case yz7=>(intro W h;rw[hCL.o] at h;obtain⟨c0,c1,c2,c3,c4,c5,c6,c7,c8⟩:=h;go_simp<;>rfl)
  refine zc_ 8 ?z8 rfl (by kernel_rfl) (λ _ _ _ h=>h) (by kernel_rfl) ?yz8 ?_
  case yz8=>(intro W h;rw[hCL.o] at h;obtain⟨c0,c1,c2,c3,c4,c5,c6,c7,c8⟩:=h;go_simp<;>rfl)
  refine zc_ 9 ?z9 rfl (by kernel_rfl) (λ _ _ _ h=>h) (by kernel_rfl) ?yz9 ?_
  case yz9=>(intro W h;rw[hCL.o] at h;obtain⟨c0,c1,c2,c3,c4,c5,c6,c7,c8⟩:=h;go_simp<;>rfl)
  refine zc_ 10 ?z10 rfl (by kernel_rfl) (λ _ _ _ h=>h) (by kernel_rfl) ?yz10 ?_
  case yz10=>(intro W h;rw[hCL.o] at h;obtain⟨c0,c1,c2,c3,c4,c5,c6,c7,c8⟩:=h;go_simp<;>rfl)
  refine zr_ 11 rfl (by kernel_rfl) (hC.o _ (Fr.refl wz _).drew) (λ K1 hK1=>?_);go_simp;refine(hMd.o _ Fz.o.drew).mono ?_;rintro e w1 ⟨hf1,v1,ev1,rfl,F1,hv1,hD1⟩;subst hv1;obtain⟨eT,ex,rfl⟩:=hD1.iface;replace hf1:=q_ hf1;replace F1:=q_ F1;replace hD1:=q_ hD1;refine hK1 _ _ ?_;clear hK1 K1;refine zc_ 12 ?z12 rfl (by kernel_rfl) (λ _ _ _ h=>h) (by kernel_rfl) ?yz12 ?_
  case yz12=>(intro W h;go_simp<;>rfl)
  refine zc_ 13 ?z13 rfl (by kernel_rfl) (λ _ _ _ h=>h) (by kernel_rfl) ?yz13 ?_
  case yz13=>(intro W h;go_simp<;>rfl)
  refine zc_ 14 ?z14 rfl (by kernel_rfl) (λ _ _ _ h=>h) (by kernel_rfl) ?yz14 ?_
  case yz14=>(intro W h;go_simp<;>rfl)
  refine zc_ 15 ?z15 rfl (by kernel_rfl) (λ _ _ _ h=>h) (by kernel_rfl) ?yz15 ?_
  case yz15=>(intro W h;go_simp<;>rfl)
  refine zc_ 16 ?z16 rfl (by kernel_rfl) (λ _ _ _ h=>h) (by kernel_rfl) ?yz16 ?_
  case yz16=>(intro W h;go_simp<;>rfl)
  refine z5_ (by kernel_rfl) (hC.o _ ((Fr.refl wz (λ _=>False)).drew.trans hf1.o u_)) ?_ _
  go_wp2_with fail
  try go_ret
  rw[Q_.o];exact⟨_,_,rfl,F1.o,rfl,hD1.o⟩
open Go.RowKit
theorem zc0 {a:α}{b:β}(hb:g a=some b):∀ {l:List α}{m:List β},mapO g l=some m->mapO g (l++[a])=some (m++[b])
 | [],m,h=>by simp only[mapO,ad_] at h;subst h;simp[mapO,hb]
 | x::r,m,h=>by
  unfold mapO at h;split at h
  ·cases h
  ·rename_i c hc;split at h
   ·cases h
   ·rename_i l' hl;simp only[ad_] at h;subst h;rw[bn_];unfold mapO;rw[hc,zc0 hb hl]
    rfl
theorem zc2 {a:α}(hn:g a=none):∀ {l:List α},a∈l->mapO g l=none
 | [],h=>by cases h
 | x::r,h=>by
  unfold mapO
  rcases an_.1 h with rfl|h
  ·rw[hn]
  ·rw[zc2 hn h];split<;>rfl
theorem zit {l:List α}{m:List β}(h:mapO g l=some m):m.length=l.length:=(zc1 h).1
structure ML (er:Nat->Option PB) (k0:Nat) (cs0:List Value) (ct0:TypeId) (cs1:List Value) (ct1:TypeId) (t:PT) (w:World) (lv:Value) (l:List DT) (W:World):Prop where
 fr:Fr w W (λ _=>False)
 b0:Blk W w.heap.size cs0 ct0
 b1:Blk W (w.heap.size+1) cs1 ct1
 bB:w.heap.size+2<=W.heap.size
 row:RowT er W (w.heap.size+2) (λ g=>(g<k0\/w.heap.size+2<=g)/\lv.ownBlock≠some g) t lv l
section
variable {er:Nat->Option PB} {k0:Nat} {cs0 cs1:List Value} {ct0 ct1:TypeId} {t:PT} {w W W':World} {lv:Value} {l:List DT}
theorem ML.call (Q:ML er k0 cs0 ct0 cs1 ct1 t w lv l W) (hf:Fr W W' (λ _=>False)):ML er k0 cs0 ct0 cs1 ct1 t w lv l W':=
 ⟨Q.fr.trans hf u_,hf.blk Q.b0 id,hf.blk Q.b1 id,ah_ Q.bB hf.size,Q.row.fr hf u_ u_⟩
theorem ML.item (Q:ML er k0 cs0 ct0 cs1 ct1 t w lv l W){o:Obj}{w5:World}{Y:Nat->Value}(hY:∀ i d,l[i]?=some d->DaV er W (λ g=>(g<k0\/w.heap.size+2<=g)/\lv.ownBlock≠some g) d (yb_ er t 0 i) (Y i)) (hd:DaV er W (λ g=>(g<k0\/w.heap.size+2<=g)/\lv.ownBlock≠some g) d (yb_ er t 0 l.length) v)
 (hg:(W.alloc o).grownBy w5 lv.ownBlock) (ho:w5.ownsRow (w.heap.size+2) 94 1 v5 (l.length+1) (((List.range l.length).flatMap λ i=>[Y i])++[v])) (hl:v5.ownBlock=lv.ownBlock\/v5.ownBlock=some (W.alloc o).heap.size):ML er k0 cs0 ct0 cs1 ct1 t w v5 (l++[d]) w5:=by
 have h2:=Q.bB
 have h3:(W.alloc o).heap.size=W.heap.size+1:=by simp
 obtain⟨Y0,a,_⟩:=Q.row;have hF:Fr W w5 (λ g=>lv.ownBlock=some g):=((Fr.refl W _).alloc o).grown hg (λ k e _=>e);have hrow:∀ g,lv.ownBlock=some g->w.heap.size+2<=g:=λ g e=>(a.lt g e).1;refine⟨Q.fr.trans hF (λ x hx e=>absurd (hrow x e) (by omega)),hF.blk Q.b0 (λ e=>by have:=hrow _ e;omega),hF.blk Q.b1 (λ e=>by have:=hrow _ e;omega),ah_ h2 hF.size,RowT.growJ hY hd hF ?_ ho⟩
 rcases hl with e|e
 ·exact .inl e
 ·exact .inr ⟨_,e,by omega⟩
theorem ML.done (Q:ML er k0 cs0 ct0 cs1 ct1 t w lv l W){T:TypeId}(hc:(c=91/\T=169)\/(c=114/\T=176)):DaV er W (λ g=>g<k0\/w.heap.size<=g) (.mk c 0 noB [] l) t (.iface T lv):=
 Q.row.dat (λ g _ hg=>by omega) (λ g e=>by obtain⟨_,a,_⟩:=Q.row;have:=(a.lt g e).1;show g<k0\/w.heap.size<=g;omega) hc
end
theorem zg4 {w0 w:World}{P Q:Nat->Prop}{s s':BA}{ds ds':List PD}{sv sv':Value}{xs xs':List Value}{k0:Nat}{nt:TypeId}{nx:Value}{sT rT:TypeId}{sx rx:Value}{u u':PT}{p':Nat}{l0:List DT}{a:Value}(H:MS w0 ds ds') (ih:MkOK w0 P Q s s' ds ds' sv sv' xs xs' k0 nt nx sT sx rT rx f) (M:MC w0 P Q s s' ds ds' sv sv' xs xs' k0 nt nx w)
 (ha:TyV w P u a) (hb:TyV w Q u' b) (okx:okT (za_ ds) u) (oky:okT (za_ ds') u') (fy:fewT u') (ho:w.ownsRow 0 94 1 lv0 l0.length ((List.range l0.length).flatMap λ i=>[Y0 i])) (hd:∀ d∈l0,Dat (za_ ds) d u) (hv:∀ i d,l0[i]?=some d->DaV (za_ ds) w (λ g=>g<k0) d u (Y0 i)) (h1:ndTs l0<=299) (h2:ndTs l0<=f) :
 Calls prog 192 #[.agg #[sv,.iface sT sx,sv',.iface rT rx],.agg #[a,b],lv0] w (y2_ (za_ ds') (.wrap 91 p' u') k0 w nt nx ((mapO (mkP (za_ ds) (za_ ds') (dfOf (za_ ds') s') f u u') l0).map λ l=>.mk 91 0 noB [] l)):=by
 obtain⟨POST,Q_⟩:∃ R,H_ (R=y2_ (za_ ds') (.wrap 91 p' u') k0 w nt nx ((mapO (mkP (za_ ds) (za_ ds') (dfOf (za_ ds') s') f u u') l0).map λ l=>.mk 91 0 noB [] l)):=⟨_,rfl⟩;rw[<- Q_.o];obtain⟨sa,sc,rfl⟩:=zf_ M.D.row;obtain⟨ra,rc,rfl⟩:=zf_ M.E.row;obtain⟨la0,lc0,rfl⟩:=zf_ ho;obtain⟨aT,ax,rfl⟩:=ha.iface;obtain⟨bT,bx,rfl⟩:=hb.iface;have hMd:=q_ (λ W (hW:Fr w W (λ _=>False)) i d v (hi:l0[i]?=some d) (hvi:Y0 i=v)=>ih W u u' d _ _ v (M.new hW) (ha.fr hW u_) (hb.fr hW u_) okx oky fy (hd d (ak_ hi)) (hvi▸(hv i d hi).fr hW u_) (by have:=(xm_ hi).2;omega) (by have:=(xm_ hi).2;omega));have hGd:=q_ (λ W (hW:Fr w W (λ _=>False))=>(M.new hW).G);have hI:=q_ H.I;have hk0:=q_ M.k
 have hl3:l0.length<=300:=by have:=x3_ l0;omega
 generalize hR:mkP (za_ ds) (za_ ds') (dfOf (za_ ds') s') f u u'=R at hMd Q_;obtain⟨wz,hwz⟩:∃ W,W=(w.alloc (.cells #[.slice sa ds.length sc,.iface sT sx,.slice ra ds'.length rc,.iface rT rx] 127)).alloc (.cells #[.iface aT ax,.iface bT bx] 280):=⟨_,rfl⟩
 have start:ML (za_ ds') k0 [.slice sa ds.length sc,.iface sT sx,.slice ra ds'.length rc,.iface rT rx] 127 [.iface aT ax,.iface bT bx] 280 (.wrap 91 p' u') w (.slice none 0 0) [] wz:=by
  rw[hwz];refine⟨((Fr.refl w (λ _=>False)).alloc _).alloc _,(Blk.new w #[.slice sa ds.length sc,.iface sT sx,.slice ra ds'.length rc,.iface rT rx] 127).alloc _,?_,by rw[z1_,z1_];omega,RowT.nil _ _ _ _ _⟩;have h:=Blk.new (w.alloc (.cells #[.slice sa ds.length sc,.iface sT sx,.slice ra ds'.length rc,.iface rT rx] 127)) #[.iface aT ax,.iface bT bx] 280;rw[z1_] at h;exact h
 have hfix:∀ i d,(hi:l0[i]?=some d)->∃ T x,Y0 i=.iface T x:=λ i d hi=>(hv i d hi).iface;replace start:=q_ start;replace hwz:=q_ hwz;replace ho:=q_ ho;replace hfix:=q_ hfix;clear ih M H ha hb okx oky fy hd hv h1 h2 hR;have hsub:∀ i,yb_ (za_ ds') (.wrap 91 p' u') 0 i=u':=λ i=>rfl;generalize za_ ds'=er at hMd Q_ start hsub;replace hsub:=q_ hsub
 go_in
 go_wp2_with fail
 rw[<- hwz.o]
 go_loopg [8,15] (l0.length+1) (λ m v8 v W=>∃ (q:Nat) (l:List DT),v=.int .i64 (q:Int)/\q<=l0.length/\l0.length+1-q<=m/\H_ (mapO R (l0.take q)=some l)/\H_ (ML er k0 [.slice sa ds.length sc,.iface sT sx,.slice ra ds'.length rc,.iface rT rx] 127 [.iface aT ax,.iface bT bx] 280 (.wrap 91 p' u') w v8 l W))
 case atStart=>exact⟨0,[],rfl,aj_ _,by omega,q_ rfl,q_ start.o⟩
 case round=>
  clear start;obtain⟨q,l,rfl,hq,hm,hmp,hQ⟩:=hrel
  have hll:l.length=q:=by have:=zit hmp.o;rw[b3_] at this;omega
  obtain⟨Y,hrow,hY⟩:=hQ.o.row;rw[hll] at hrow;obtain⟨la,lc,rfl⟩:=zf_ hrow
  by_cases hlt:q<l0.length
  ·have hlt':(q:Int)<(l0.length:Int):=by omega
   have hdq:l0[q]?=some l0[q]:=am_ hlt;generalize l0[q]=d at hdq;obtain⟨g,cap,hgc⟩:=zk_ ho.o (by omega);cases hgc;obtain⟨T,x,hx⟩:=hfix.o q d hdq
   have e0:wr.cell? ⟨g,q,none⟩=some (.iface T x):=by
    rw[<- hx];exact zbl (zb_ ho.o hQ.o.fr u_) hlt
   obtain⟨k0',k1',k2',k3'⟩:=hQ.o.b0.d4;have i0':=hQ.o.b1.c0;have i1':=hQ.o.b1.c1;have hC:=hMd.o wr hQ.o.fr q d _ hdq hx;have hbB:=hQ.o.bB;have hmem:=q_ (ak_ hdq);replace hdq:=q_ hdq;clear hx
   cases hrd:R d with
   | none=>
    rw[hrd] at hC;have hr:=q_ (show mapO R l0=none from zc2 hrd hmem.o);replace hC:=q_ hC;clear hrow hY hrd
    go_wp2_with (first
     |(go_at_call 63;refine hC.o.mono ?_;rintro e w1 ⟨v1,ev1,rfl,hf1,hv1,hE1⟩;subst hv1;obtain⟨eT,ex,rfl⟩:=hE1.iface;have hG1:=q_ (hGd.o _ (hQ.o.fr.trans hf1 u_));replace hE1:=q_ hE1;replace hf1:=q_ hf1)
     |(go_at_call 186;refine(zdu hI.o hG1.o (by omega)).mono ?_;rintro e w2 hW2;have hE2:=q_ (λ v (he:e=.returned v)=>hE1.o.wrap hW2 (hf1.o.size) he);obtain⟨g2,tx2,rfl,hg2,hb2,hf2⟩:=hW2;replace hf2:=q_ hf2;clear hb2))
    try go_ret
    rw[Q_.o,hr.o];exact⟨_,_,rfl,(hQ.o.fr.trans hf1.o u_).trans hf2.o u_,rfl,(hE2.o _ rfl).less hQ.o.fr.size⟩
   | some x1=>
    rw[hrd] at hC;have hmp':=q_ (show mapO R (l0.take (q+1))=some (l++[x1]) by rw[ba_,hdq.o];exact zc0 hrd hmp.o);replace hC:=q_ hC;replace hY:=q_ hY;replace hrow:=q_ hrow;obtain⟨ti,hi1,hi2,hi3,hi4⟩:=info_parts zbu;clear hrd
    go_wp2_with (first
     |(go_at_call 63;refine hC.o.mono ?_;rintro e w1 ⟨v1,ev1,rfl,hf1,hv1,hD1⟩;subst hv1;obtain⟨dT,dx,rfl⟩:=hD1.iface;have Q1:=hQ.o.call hf1;have hb1:=Q1.bB;have hrow1:=q_ (zb_ hrow.o hf1 u_);have hD1':=q_ (hD1.mono (Q:=λ g=>(g<k0\/w.heap.size+2<=g)/\(Value.slice la q lc).ownBlock≠some g) (λ g _ hg=>⟨by omega,λ e=>by have:=hrow.o.lt g e;have:=hk0.o;omega⟩));have hY1:=q_ (λ i d (e:l[i]?=some d)=>(hY.o i d e).fr hf1 u_);replace Q1:=q_ Q1;clear hD1 hf1)
     |(at_builtin;go_must (refine wpList_append_own_at _ rfl _ _ 169 rfl (w.heap.size+2) 94 ti _ 1 16 zmc hi1 hi2 hi3 hi4 rfl (by decide) (.slice la q lc) q ((List.range q).flatMap λ i=>[Y i]) rfl ?hown _ 1 1 [.iface dT dx] rfl rfl (yh_ _ #[.iface dT dx] _ _ ?nn) ?one ?b1 ?b2 ?b3 ?_)
       case hown=>exact World.ownsRow.alloc hrow1.o _
       case nn=>simp
       case one=>simp[Value.oneCell']
       case b1=>unfold maxLen;omega
       case b2=>omega
       case b3=>simp;omega
       intro v5 w5 ho5 hg5 hn5 hl5
       have Q5:=Q1.o.item (d:=x1) hY1.o (by rw[hsub.o];exact hD1'.o) hg5 (by rw[hll];exact ho5) hl5
       obtain⟨g5,cap5,rfl⟩:=zk_ ho5 (by omega)
       clear hg5 hl5 hn5 ho5
       replace Q5:=q_ Q5))
    go_roundg (l0.length+1-(q+1))
    case measure=>omega
    case rel=>exact⟨q+1,l++[x1],by simp,hlt,l_,hmp',Q5⟩
  ·have hlt':¬ ((q:Int)<(l0.length:Int)):=by omega
   have hr:=q_ (show mapO R l0=some l by have:=hmp.o;rwa[a3_ (by omega)] at this);clear hrow hY hmp
   go_wp2_with fail
   try go_ret
   rw[Q_.o,hr.o];exact⟨_,_,rfl,hQ.o.fr,rfl,hQ.o.done (.inl ⟨rfl,rfl⟩)⟩
open Go.RowKit
structure MLm (er:Nat->Option PB) (k0:Nat) (cs0:List Value) (ct0:TypeId) (cs1:List Value) (ct1:TypeId) (t:PT) (w:World) (lv:Value) (l:List (BA×DT)) (W:World):Prop where
 fr:Fr w W (λ _=>False)
 b0:Blk W w.heap.size cs0 ct0
 b1:Blk W (w.heap.size+1) cs1 ct1
 bB:w.heap.size+2<=W.heap.size
 row:∃ ys,W.ownsRow (w.heap.size+2) 173 2 lv l.length ys/\RowE er W (λ g=>(g<k0\/w.heap.size+2<=g)/\lv.ownBlock≠some g) t l ys
section
variable {er:Nat->Option PB} {k0:Nat} {cs0 cs1:List Value} {ct0 ct1:TypeId} {t:PT} {w W W':World} {lv:Value} {l:List (BA×DT)}
theorem MLm.call (Q:MLm er k0 cs0 ct0 cs1 ct1 t w lv l W) (hf:Fr W W' (λ _=>False)):MLm er k0 cs0 ct0 cs1 ct1 t w lv l W':=
 ⟨Q.fr.trans hf u_,hf.blk Q.b0 id,hf.blk Q.b1 id,ah_ Q.bB hf.size,by obtain⟨ys,a,b⟩:=Q.row;exact⟨ys,zb_ a hf u_,b.fr hf u_⟩⟩
theorem MLm.item (Q:MLm er k0 cs0 ct0 cs1 ct1 t w lv l W){o:Obj}{w5:World}{key:BA}{ys:List Value}(a:W.ownsRow (w.heap.size+2) 173 2 lv l.length ys) (hY:RowE er W (λ g=>(g<k0\/w.heap.size+2<=g)/\lv.ownBlock≠some g) t l ys) (hk:key.size<=4000) (hd:DaV er W (λ g=>(g<k0\/w.heap.size+2<=g)/\lv.ownBlock≠some g) d (yb_ er t 0 l.length) v)
 (hg:(W.alloc o).grownBy w5 lv.ownBlock) (ho:w5.ownsRow (w.heap.size+2) 173 2 v5 (l.length+1) (ys++[.string key,v])) (hl:v5.ownBlock=lv.ownBlock\/v5.ownBlock=some (W.alloc o).heap.size):MLm er k0 cs0 ct0 cs1 ct1 t w v5 (l++[(key,d)]) w5:=by
 have h2:=Q.bB
 have h3:(W.alloc o).heap.size=W.heap.size+1:=by simp
 have hF:Fr W w5 (λ g=>lv.ownBlock=some g):=((Fr.refl W _).alloc o).grown hg (λ k e _=>e);have hrow:∀ g,lv.ownBlock=some g->w.heap.size+2<=g:=λ g e=>(a.lt g e).1;refine⟨Q.fr.trans hF (λ x hx e=>absurd (hrow x e) (by omega)),hF.blk Q.b0 (λ e=>by have:=hrow _ e;omega),hF.blk Q.b1 (λ e=>by have:=hrow _ e;omega),ah_ h2 hF.size,_,by rw[al_,ai_];exact ho,RowE.growJ hY hd hk hF ?_⟩
 rcases hl with e|e
 ·exact .inl e
 ·exact .inr ⟨_,e,by omega⟩
theorem MLm.done (Q:MLm er k0 cs0 ct0 cs1 ct1 t w lv l W):DaV er W (λ g=>g<k0\/w.heap.size<=g) (.mk 123 0 noB (l.map Prod.fst) (l.map Prod.snd)) t (.iface 171 lv):=by
 obtain⟨ys,a,b⟩:=Q.row;exact b.dat a (λ g _ hg=>by omega) (λ g e=>by have:=(a.lt g e).1;show g<k0\/w.heap.size<=g;omega)
end
theorem ziv {w0 w:World}{P Q:Nat->Prop}{s s':BA}{ds ds':List PD}{sv sv':Value}{xs xs':List Value}{k0:Nat}{nt:TypeId}{nx:Value}{sT rT:TypeId}{sx rx:Value}{u u':PT}{p':Nat}{l0:List DT}{ks:List BA}{a:Value}(H:MS w0 ds ds') (ih:MkOK w0 P Q s s' ds ds' sv sv' xs xs' k0 nt nx sT sx rT rx f) (M:MC w0 P Q s s' ds ds' sv sv' xs xs' k0 nt nx w)
 (ha:TyV w P u a) (hb:TyV w Q u' b) (okx:okT (za_ ds) u) (oky:okT (za_ ds') u') (fy:fewT u') (hkl:ks.length=l0.length) (hks:∀ k∈ks,k.size<=4000) (ho:w.ownsRow 0 173 2 lv0 l0.length ((List.range l0.length).flatMap λ i=>[.string (ks.getD i noB),Y0 i])) (hd:∀ d∈l0,Dat (za_ ds) d u) (hv:∀ i d,l0[i]?=some d->DaV (za_ ds) w (λ g=>g<k0) d u (Y0 i)) (h1:ndTs l0<=299) (h2:ndTs l0<=f) :
 Calls prog 193 #[.agg #[sv,.iface sT sx,sv',.iface rT rx],.agg #[a,b],lv0] w (y2_ (za_ ds') (.wrap 123 p' u') k0 w nt nx ((mapO (mkP (za_ ds) (za_ ds') (dfOf (za_ ds') s') f u u') l0).map λ l=>.mk 123 0 noB ks l)):=by
 obtain⟨POST,Q_⟩:∃ R,H_ (R=y2_ (za_ ds') (.wrap 123 p' u') k0 w nt nx ((mapO (mkP (za_ ds) (za_ ds') (dfOf (za_ ds') s') f u u') l0).map λ l=>.mk 123 0 noB ks l)):=⟨_,rfl⟩;rw[<- Q_.o];obtain⟨sa,sc,rfl⟩:=zf_ M.D.row;obtain⟨ra,rc,rfl⟩:=zf_ M.E.row;obtain⟨la0,lc0,rfl⟩:=zf_ ho;obtain⟨aT,ax,rfl⟩:=ha.iface;obtain⟨bT,bx,rfl⟩:=hb.iface;have hMd:=q_ (λ W (hW:Fr w W (λ _=>False)) i d v (hi:l0[i]?=some d) (hvi:Y0 i=v)=>ih W u u' d _ _ v (M.new hW) (ha.fr hW u_) (hb.fr hW u_) okx oky fy (hd d (ak_ hi)) (hvi▸(hv i d hi).fr hW u_) (by have:=(xm_ hi).2;omega) (by have:=(xm_ hi).2;omega));have hGd:=q_ (λ W (hW:Fr w W (λ _=>False))=>(M.new hW).G);have hI:=q_ H.K;have hk0:=q_ M.k
 have hl3:l0.length<=300:=by have:=x3_ l0;omega
 generalize hR:mkP (za_ ds) (za_ ds') (dfOf (za_ ds') s') f u u'=R at hMd Q_;obtain⟨wz,hwz⟩:∃ W,W=(w.alloc (.cells #[.slice sa ds.length sc,.iface sT sx,.slice ra ds'.length rc,.iface rT rx] 127)).alloc (.cells #[.iface aT ax,.iface bT bx] 280):=⟨_,rfl⟩
 have start:MLm (za_ ds') k0 [.slice sa ds.length sc,.iface sT sx,.slice ra ds'.length rc,.iface rT rx] 127 [.iface aT ax,.iface bT bx] 280 (.wrap 123 p' u') w (.slice none 0 0) [] wz:=by
  rw[hwz];refine⟨((Fr.refl w (λ _=>False)).alloc _).alloc _,(Blk.new w #[.slice sa ds.length sc,.iface sT sx,.slice ra ds'.length rc,.iface rT rx] 127).alloc _,?_,by rw[z1_,z1_];omega,[],World.ownsRow_nil _ _ _ _,RowE.nil _ _ _ _⟩;have h:=Blk.new (w.alloc (.cells #[.slice sa ds.length sc,.iface sT sx,.slice ra ds'.length rc,.iface rT rx] 127)) #[.iface aT ax,.iface bT bx] 280;rw[z1_] at h;exact h
 have hfix:∀ i d,(hi:l0[i]?=some d)->∃ T x,Y0 i=.iface T x:=λ i d hi=>(hv i d hi).iface;replace start:=q_ start;replace hwz:=q_ hwz;replace ho:=q_ ho;replace hfix:=q_ hfix;replace hks:=q_ hks;clear ih M H ha hb okx oky fy hd hv h1 h2 hR;have hsub:∀ i,yb_ (za_ ds') (.wrap 123 p' u') 0 i=u':=λ i=>rfl;generalize za_ ds'=er at hMd Q_ start hsub;replace hsub:=q_ hsub
 go_in
 go_wp2_with fail
 rw[<- hwz.o]
 go_loopg [8,15] (l0.length+1) (λ m v8 v W=>∃ (q:Nat) (l:List (BA×DT)),v=.int .i64 (q:Int)/\q<=l0.length/\l0.length+1-q<=m/\H_ (mapO R (l0.take q)=some (l.map Prod.snd)/\l.map Prod.fst=ks.take q)/\H_ (MLm er k0 [.slice sa ds.length sc,.iface sT sx,.slice ra ds'.length rc,.iface rT rx] 127 [.iface aT ax,.iface bT bx] 280 (.wrap 123 p' u') w v8 l W))
 case atStart=>exact⟨0,[],rfl,aj_ _,by omega,q_ ⟨rfl,rfl⟩,q_ start.o⟩
 case round=>
  clear start;obtain⟨q,l,rfl,hq,hm,hmp,hQ⟩:=hrel
  have hll:l.length=q:=by have:=zit hmp.o.1;rw[b3_,List.length_map] at this;omega
  obtain⟨ys,hrow,hY⟩:=hQ.o.row;rw[hll] at hrow;obtain⟨la,lc,rfl⟩:=zf_ hrow
  by_cases hlt:q<l0.length
  ·have hlt':(q:Int)<(l0.length:Int):=by omega
   have hdq:l0[q]?=some l0[q]:=am_ hlt;generalize l0[q]=d at hdq;obtain⟨g,cap,hgc⟩:=zk_ ho.o (by omega);cases hgc;obtain⟨T,x,hx⟩:=hfix.o q d hdq;obtain⟨e0,e1⟩:=ze9 (K:=λ i=>ks.getD i noB) (zb_ ho.o hQ.o.fr u_) hlt;rw[hx] at e1
   have hkq:ks[q]?=some (ks.getD q noB):=by rw[aq_,am_ (by omega)];rfl
   have hkz:=hks.o _ (ak_ hkq);generalize ks.getD q noB=key at e0 hkq hkz;have FA:=(Fr.refl wr (λ _=>False)).alloc (.cells #[.string key,.iface T x] 173);have BE:=q_ (Blk.new wr #[.string key,.iface T x] 173);have hQa:=q_ (hQ.o.call FA);obtain⟨k0',k1',k2',k3'⟩:=hQa.o.b0.d4;have i0':=hQa.o.b1.c0;have i1':=hQa.o.b1.c1;have hC:=hMd.o _ (hQ.o.fr.trans FA u_) q d _ hdq hx;have hbB:=hQ.o.bB;have hmem:=q_ (ak_ hdq);replace hdq:=q_ hdq;replace hkq:=q_ hkq;clear hx
   cases hrd:R d with
   | none=>
    rw[hrd] at hC;have hr:=q_ (show mapO R l0=none from zc2 hrd hmem.o);replace hC:=q_ hC;clear hrow hY hrd FA
    go_wp2_with (first
     |(go_at_call 63;refine hC.o.mono ?_;rintro e w1 ⟨v1,ev1,rfl,hf1,hv1,hE1⟩;subst hv1;obtain⟨eT,ex,rfl⟩:=hE1.iface;have hG1:=q_ (hGd.o _ (hQa.o.fr.trans hf1 u_));have n0:=(hf1.blk BE.o id).c0;replace hE1:=q_ hE1;replace hf1:=q_ hf1)
     |(go_at_call 187;refine(zbf hI.o hG1.o hkz).mono ?_;rintro e w2 hW2;have hE2:=q_ (λ v (he:e=.returned v)=>hE1.o.wrap hW2 (hf1.o.size) he);obtain⟨g2,tx2,rfl,hg2,hb2,hf2⟩:=hW2;replace hf2:=q_ hf2;clear hb2))
    try go_ret
    rw[Q_.o,hr.o];exact⟨_,_,rfl,(hQa.o.fr.trans hf1.o u_).trans hf2.o u_,rfl,(hE2.o _ rfl).less hQa.o.fr.size⟩
   | some x1=>
    rw[hrd] at hC
    have hmp':=q_ (show mapO R (l0.take (q+1))=some ((l++[(key,x1)]).map Prod.snd)/\(l++[(key,x1)]).map Prod.fst=ks.take (q+1) by
     rw[ba_,hdq.o,ba_,hkq.o,bq_,bq_,hmp.o.2]
     exact⟨zc0 hrd hmp.o.1,rfl⟩)
    replace hC:=q_ hC;have hY':=q_ (hY.fr FA u_);have hrow':=q_ (zb_ hrow FA u_);obtain⟨ti,hi1,hi2,hi3,hi4⟩:=info_parts zgc;clear hrd hY hrow FA
    go_wp2_with (first
     |(go_at_call 63;refine hC.o.mono ?_;rintro e w1 ⟨v1,ev1,rfl,hf1,hv1,hD1⟩;subst hv1;obtain⟨dT,dx,rfl⟩:=hD1.iface;have Q1:=hQa.o.call hf1;have hb1:=Q1.bB;have n0:=(hf1.blk BE.o id).c0;have hrow1:=q_ (zb_ hrow'.o hf1 u_);have hD1':=q_ (hD1.mono (Q:=λ g=>(g<k0\/w.heap.size+2<=g)/\(Value.slice la q lc).ownBlock≠some g) (λ g _ hg=>⟨by have:=hQa.o.bB;omega,λ e=>by have:=hrow'.o.lt g e;have:=hk0.o;omega⟩));have hY1:=q_ (hY'.o.fr hf1 u_);replace Q1:=q_ Q1;clear hD1 hf1)
     |(at_builtin;go_must (refine wpList_append_own_at _ rfl _ _ 171 rfl (w.heap.size+2) 173 ti _ 2 32 zjq hi1 hi2 hi3 hi4 rfl (by decide) (.slice la q lc) q ys rfl ?hown _ 1 1 [.string key,.iface dT dx] rfl rfl (yh_ _ #[.string key,.iface dT dx] _ _ ?nn) ?one ?b1 ?b2 ?b3 ?_)
       case hown=>exact World.ownsRow.alloc hrow1.o _
       case nn=>simp
       case one=>simp[Value.oneCell']
       case b1=>unfold maxLen;omega
       case b2=>omega
       case b3=>simp;omega
       intro v5 w5 ho5 hg5 hn5 hl5
       have Q5:=Q1.o.item (d:=x1) (by rw[hll];exact hrow1.o) hY1.o hkz (by rw[hsub.o];exact hD1'.o) hg5 (by rw[hll];exact ho5) hl5
       obtain⟨g5,cap5,rfl⟩:=zk_ ho5 (by omega)
       clear hg5 hl5 hn5 ho5
       replace Q5:=q_ Q5))
    go_roundg (l0.length+1-(q+1))
    case measure=>omega
    case rel=>exact⟨q+1,l++[(key,x1)],by simp,hlt,l_,hmp',Q5⟩
  ·have hlt':¬ ((q:Int)<(l0.length:Int)):=by omega
   have hr:=q_ (show mapO R l0=some (l.map Prod.snd)/\l.map Prod.fst=ks by have:=hmp.o;rw[a3_ (by omega),a3_ (by omega)] at this;exact this);clear hrow hY hmp
   go_wp2_with fail
   try go_ret
   rw[Q_.o,hr.o.1];refine⟨_,_,rfl,hQ.o.fr,rfl,?_⟩;have:=hQ.o.done;rw[hr.o.2] at this;exact this
open Go.RowKit
theorem ztq:∀ {fw:List PF}{c i:Nat},idxF fw c=some i->∃ h,fw[i]?=some h
 | [],c,i,h=>by simp[idxF] at h
 | f::fw,c,i,h=>by
  unfold idxF at h;rw[ap_,List.findIdx?_cons] at h;split at h
  ·simp only[ad_] at h;subst h;exact⟨f,rfl⟩
  ·cases hq:(fw.map PF.letter).findIdx? (λ x=>x==c) with
   | none=>rw[hq] at h;cases h
   | some q=>
    rw[hq] at h;simp only[a2_,ad_] at h;subst h;obtain⟨h,hh⟩:=ztq (fw:=fw) hq;exact⟨h,by simpa using hh⟩
def DvM (k0:Nat) (w:World) (er:Nat->Option PB) (s:BA) (g:PF) (dv:Value):Prop:=
 match g.dflt with
 | none=>dv=.pointer none
 | some (a,e)=>∃ gb x d,dv=.pointer (some ⟨gb,0,none⟩)/\Blk w gb [.int .i64 (a:Int),.string (s.extract a e),x] 224/\xn_ er true g.ty (s.extract a e)=some d/\DaV er w (λ b=>b<k0) d g.ty x
theorem DvM.fr {k0:Nat}{w w':World}{er:Nat->Option PB}{s:BA}{g:PF}{dv:Value}(h:DvM k0 w er s g dv) (hf:Fr w w' (λ _=>False)):DvM k0 w' er s g dv:=by
 unfold DvM at h⊢;split
 ·rename_i hd;rw[hd] at h;exact h
 ·rename_i hd;rw[hd] at h;obtain⟨gb,x,d,h1,h2,h3,h4⟩:=h;exact⟨gb,x,d,h1,hf.blk h2 id,h3,h4.fr hf u_⟩
theorem MC.dvm {w0 w:World}{P Q:Nat->Prop}{s s':BA}{ds ds':List PD}{sv sv':Value}{xs xs':List Value}{k0:Nat}{nt:TypeId}{nx:Value}  (M:MC w0 P Q s s' ds ds' sv sv' xs xs' k0 nt nx w){fr:List PF}{q:Nat}{rv:Value}(hz:ZV ds' xs' (.recd fr) (.iface 263 (.agg #[.int .i64 (q:Int),rv]))) (ho:w.ownsRow 0 220 4 rv fr.length zs) (hV:vi_ w Q s' fr zs) :
 ∀ i g dd,fr[i]?=some g->zs[4*i+3]?=some dd->DvM k0 w (za_ ds') s' g dd:=λ i g dd hi hdd=>by
 obtain⟨blk,h1,h2,h3⟩:=M.F;obtain⟨k,d,hk,hb,hx⟩:=hz;have hA:=h1 k d q fr rv zs hk hb hx ho i g dd hi hdd
 have hm:g∈zd_ ds':=by
  unfold zd_;refine List.mem_flatMap.2 ⟨d,ak_ hk,?_⟩;rw[hb];exact ak_ hi
 unfold DvM;split
 ·rename_i hdf;obtain⟨a,b,c,d',q1,q2,q3,q4,hF⟩:=hV i g hi;have hDf:=hF.2.2.2;rw[hdf] at hDf;rw[hdd] at q4;cases q4;exact hDf
 ·rename_i a e hdf;obtain⟨x,d',r1,r2,r3⟩:=h3 g hm a e hdf;exact⟨blk a,x,d',hA a e hdf,r2,r1,r3⟩
theorem ziw {w0 w:World}{P Q:Nat->Prop}{s s':BA}{ds ds':List PD}{sv sv':Value}{xs xs':List Value}{k0:Nat}{nt:TypeId}{nx:Value}{sT rT:TypeId}{sx rx:Value}{fw:List PF}{g:PF}{dl:List DT}{fwv:Value}{pl:Nat}{tT:TypeId}{tx:Value}{dp:Option Addr}(ih:MkOK w0 P Q s s' ds ds' sv sv' xs xs' k0 nt nx sT sx rT rx f) (M:MC w0 P Q s s' ds ds' sv sv' xs xs' k0 nt nx w)
 (hF:vj_ w P s fw fwv zs) (hl:fw.length<=300) (hdl:dl.length=fw.length) (ht:TyV w Q g.ty (.iface tT tx)) (hdv:DvM k0 w (za_ ds') s' g (.pointer dp)) (okx:∀ h∈fw,okT (za_ ds) h.ty) (oky:okT (za_ ds') g.ty) (fy:fewT g.ty) (ho:w.ownsRow 0 94 1 lv0 dl.length ((List.range dl.length).flatMap λ i=>[Y0 i])) (hd:∀ (i:Nat) (d:DT) (h:PF),dl[i]?=some d->fw[i]?=some h->Dat (za_ ds) d h.ty/\DaV (za_ ds) w (λ g=>g<k0) d h.ty (Y0 i)) (h1:ndTs dl<=299) (h2:ndTs dl<=f) :
 Calls prog 195 #[.agg #[sv,.iface sT sx,sv',.iface rT rx],.agg #[.int .i64 p,fwv],.agg #[.int .i64 (pl:Int),.int .u8 (g.letter:Int),.iface tT tx,.pointer dp],lv0] w (y2_ (za_ ds') g.ty k0 w nt nx (mkF (mkP (za_ ds) (za_ ds') (dfOf (za_ ds') s') f) (dfOf (za_ ds') s') fw dl g)):=by
 obtain⟨POST,Q_⟩:∃ R,H_ (R=y2_ (za_ ds') g.ty k0 w nt nx (mkF (mkP (za_ ds) (za_ ds') (dfOf (za_ ds') s') f) (dfOf (za_ ds') s') fw dl g)):=⟨_,rfl⟩;rw[<- Q_.o];obtain⟨sa,sc,rfl⟩:=zf_ M.D.row;obtain⟨ra,rc,rfl⟩:=zf_ M.E.row;obtain⟨la0,lc0,rfl⟩:=zf_ ho;obtain⟨fa,fc,rfl⟩:=zf_ hF.row;have hHas:=q_ (λ W (hW:Fr w W (λ _=>False))=>zvb (p:=p) (c:=g.letter) (hF.fr hW u_) hl);obtain⟨wz,hwz⟩:∃ W,W=((w.alloc (.cells #[.slice sa ds.length sc,.iface sT sx,.slice ra ds'.length rc,.iface rT rx] 127)).alloc (.cells #[.int .i64 p,.slice fa fw.length fc] 263)).alloc (.cells #[.int .i64 (pl:Int),.int .u8 (g.letter:Int),.iface tT tx,.pointer dp] 220):=⟨_,rfl⟩
 have Fz:Fr w wz (λ _=>False):=by rw[hwz];exact(((Fr.refl w (λ _=>False)).alloc _).alloc _).alloc _
 have B0:Blk wz w.heap.size [.slice sa ds.length sc,.iface sT sx,.slice ra ds'.length rc,.iface rT rx] 127:=by
  rw[hwz];exact((Blk.new w #[.slice sa ds.length sc,.iface sT sx,.slice ra ds'.length rc,.iface rT rx] 127).alloc _).alloc _
 have B1:Blk wz (w.heap.size+1) [.int .i64 p,.slice fa fw.length fc] 263:=by
  rw[hwz];have h:=(Blk.new (w.alloc (.cells #[.slice sa ds.length sc,.iface sT sx,.slice ra ds'.length rc,.iface rT rx] 127)) #[.int .i64 p,.slice fa fw.length fc] 263).alloc (.cells #[.int .i64 (pl:Int),.int .u8 (g.letter:Int),.iface tT tx,.pointer dp] 220);rw[z1_] at h;exact h
 have B2:Blk wz (w.heap.size+1+1) [.int .i64 (pl:Int),.int .u8 (g.letter:Int),.iface tT tx,.pointer dp] 220:=by
  rw[hwz];have h:=Blk.new ((w.alloc (.cells #[.slice sa ds.length sc,.iface sT sx,.slice ra ds'.length rc,.iface rT rx] 127)).alloc (.cells #[.int .i64 p,.slice fa fw.length fc] 263)) #[.int .i64 (pl:Int),.int .u8 (g.letter:Int),.iface tT tx,.pointer dp] 220;rw[z1_,z1_] at h;exact h
 have hErr:=q_ (λ W (hW:Fr w W (λ _=>False))=>(M.new hW).err)
 cases hix:idxF fw g.letter with
 | some i=>
  obtain⟨h,hh⟩:=ztq hix;have hlt:i<fw.length:=(ao_.1 hh).1;obtain⟨d,hdd⟩:∃ d,dl[i]?=some d:=⟨_,am_ (by omega)⟩;obtain⟨e1,e2⟩:=hd i d h hdd hh
  have hres:mkF (mkP (za_ ds) (za_ ds') (dfOf (za_ ds') s') f) (dfOf (za_ ds') s') fw dl g=mkP (za_ ds) (za_ ds') (dfOf (za_ ds') s') f h.ty g.ty d:=by
   unfold mkF;rw[hix];simp only[hh,hdd]
  rw[hres] at Q_;obtain⟨gf,cf,hgf⟩:=zk_ hF.row (by omega);cases hgf;obtain⟨gr,cr,hgr⟩:=zk_ ho (by omega);cases hgr;obtain⟨uT,ux,dq,_,_,hu2,_,huT,_⟩:=hF.cells hh;obtain⟨vT,vx,hvx⟩:=e2.iface
  have hu:=q_ (λ W (hW:Fr w W (λ _=>False))=>show W.cell? ⟨gf,i*4+2,none⟩=some (.iface uT ux) from by
   have e:W.cell? ⟨gf,i*4+2,none⟩=w.cell? ⟨gf,i*4+2,none⟩:=World.cell?_of_block (a:=⟨gf,i*4+2,none⟩) (hW.block gf (World.block_lt_of_cell? w ⟨gf,i*4+2,none⟩ hu2) id)
   rw[e,hu2])
  have hr:=q_ (λ W (hW:Fr w W (λ _=>False))=>show W.cell? ⟨gr,i,none⟩=some (.iface vT vx) from by
   rw[<- hvx]
   exact zbl (zb_ ho hW u_) (by omega))
  have hMd:=λ W (hW:Fr w W (λ _=>False))=>(ih W h.ty g.ty d _ _ _ (M.new hW) (huT.fr hW u_) (ht.fr hW u_) (okx h (ak_ hh)) oky fy e1 (e2.fr hW u_) (by have:=(xm_ hdd).2;omega) (by have:=(xm_ hdd).2;omega)).mono (λ e w' q=>And.intro (y2_.two hW q).1 (y2_.two hW q).2.tup);rw[hvx] at hMd;replace hMd:=q_ hMd;obtain⟨CL,hCL⟩:∃ C:World->Prop,C=λ W=>W.cell? ⟨w.heap.size,0,none⟩=some (.slice sa ds.length sc)/\W.cell? ⟨w.heap.size,1,none⟩=some (.iface sT sx)/\W.cell? ⟨w.heap.size,2,none⟩=some (.slice ra ds'.length rc)/\W.cell? ⟨w.heap.size,3,none⟩=some (.iface rT rx)/\W.cell? ⟨w.heap.size+1,1,none⟩=some (.slice (some ⟨gf,0,none⟩) fw.length fc)/\W.cell? ⟨w.heap.size+1+1,2,none⟩=some (.iface tT tx)/\W.cell? ⟨gf,i*4+2,none⟩=some (.iface uT ux)/\W.cell? ⟨gr,i,none⟩=some (.iface vT vx):=⟨_,rfl⟩
  have hC:=q_ (λ W (hW:Fr wz W (λ _=>False))=>show CL W by
   rw[hCL]
   exact⟨(hW.blk B0 id).cell 0,(hW.blk B0 id).cell 1,(hW.blk B0 id).cell 2,(hW.blk B0 id).cell 3,(hW.blk B1 id).cell 1,(hW.blk B2 id).cell 2,hu.o W (Fz.trans hW u_),hr.o W (Fz.trans hW u_)⟩)
  have hli:(i:Int)<(fw.length:Int):=by omega
  have hld:(i:Int)<(dl.length:Int):=by omega
  have hi0:¬ ((i:Int)<0):=by omega
  replace hix:=q_ hix;replace Fz:=q_ Fz;replace hwz:=q_ hwz;replace hCL:=q_ hCL;generalize mkP (za_ ds) (za_ ds') (dfOf (za_ ds') s') f h.ty g.ty d=o at hMd Q_;clear ih M hF ht hdv okx oky fy ho hd hres e1 e2 huT hu hr hu2 hvx B0 B1 B2 hErr hdd hh;generalize g.letter=gl at hHas hwz hix⊢;generalize g.ty=gt at hMd Q_
  go_in
  go_wp2_with (go_at_call 241;rw[<- hwz.o];refine(hHas.o _ Fz.o).mono ?_;rintro e w1 ⟨rfl,hf1⟩;rw[hix.o];simp only[optV,b0_,Option.isSome_some];have F1:=q_ hf1;clear hf1)
  refine z8_ CL (by kernel_rfl) ?_;refine zc_ 0 ?v0 rfl (by kernel_rfl) (λ _ _ _ h=>h) (by kernel_rfl) ?yv0 ?_
  case yv0=>(intro W h;rw[hCL.o] at h;obtain⟨c0,c1,c2,c3,c4,c5,c6,c7⟩:=h;go_simp<;>rfl)
  refine zc_ 1 ?v1 rfl (by kernel_rfl) (λ _ _ _ h=>h) (by kernel_rfl) ?yv1 ?_
  case yv1=>(intro W h;rw[hCL.o] at h;obtain⟨c0,c1,c2,c3,c4,c5,c6,c7⟩:=h;go_simp<;>rfl)
  refine zc_ 2 ?v2 rfl (by kernel_rfl) (λ _ _ _ h=>h) (by kernel_rfl) ?yv2 ?_
  case yv2=>(intro W h;rw[hCL.o] at h;obtain⟨c0,c1,c2,c3,c4,c5,c6,c7⟩:=h;go_simp<;>rfl)
  refine zc_ 3 ?v3 rfl (by kernel_rfl) (λ _ _ _ h=>h) (by kernel_rfl) ?yv3 ?_
  case yv3=>(intro W h;rw[hCL.o] at h;obtain⟨c0,c1,c2,c3,c4,c5,c6,c7⟩:=h;go_simp<;>rfl)
  refine zc_ 4 ?v4 rfl (by kernel_rfl) (λ _ _ _ h=>h) (by kernel_rfl) ?yv4 ?_
  case yv4=>(intro W h;rw[hCL.o] at h;obtain⟨c0,c1,c2,c3,c4,c5,c6,c7⟩:=h;go_simp<;>rfl)
  refine zc_ 5 ?v5 rfl (by kernel_rfl) (λ _ _ _ h=>h) (by kernel_rfl) ?yv5 ?_
  case yv5=>(intro W h;rw[hCL.o] at h;obtain⟨c0,c1,c2,c3,c4,c5,c6,c7⟩:=h;go_simp<;>rfl)
  refine zc_ 6 ?v6 rfl (by kernel_rfl) (λ _ _ _ h=>h) (by kernel_rfl) ?yv6 ?_
  case yv6=>(intro W h;rw[hCL.o] at h;obtain⟨c0,c1,c2,c3,c4,c5,c6,c7⟩:=h;go_simp<;>rfl)
  refine zc_ 7 ?v7 rfl (by kernel_rfl) (λ _ _ _ h=>h) (by kernel_rfl) ?yv7 ?_
  case yv7=>(intro W h;rw[hCL.o] at h;obtain⟨c0,c1,c2,c3,c4,c5,c6,c7⟩:=h;go_simp<;>rfl)
  refine zc_ 8 ?v8 rfl (by kernel_rfl) (λ _ _ _ h=>h) (by kernel_rfl) ?yv8 ?_
  case yv8=>(intro W h;rw[hCL.o] at h;obtain⟨c0,c1,c2,c3,c4,c5,c6,c7⟩:=h;go_simp<;>rfl)
  refine zc_ 9 ?v9 rfl (by kernel_rfl) (λ _ _ _ h=>h) (by kernel_rfl) ?yv9 ?_
  case yv9=>(intro W h;rw[hCL.o] at h;obtain⟨c0,c1,c2,c3,c4,c5,c6,c7⟩:=h;go_simp<;>rfl)
  refine zc_ 10 ?v10 rfl (by kernel_rfl) (λ _ _ _ h=>h) (by kernel_rfl) ?yv10 ?_
  case yv10=>(intro W h;rw[hCL.o] at h;obtain⟨c0,c1,c2,c3,c4,c5,c6,c7⟩:=h;go_simp<;>rfl)
  refine zc_ 11 ?v11 rfl (by kernel_rfl) (λ _ _ _ h=>h) (by kernel_rfl) ?yv11 ?_
  case yv11=>(intro W h;rw[hCL.o] at h;obtain⟨c0,c1,c2,c3,c4,c5,c6,c7⟩:=h;go_simp<;>rfl)
  refine zc_ 12 ?v12 rfl (by kernel_rfl) (λ _ _ _ h=>h) (by kernel_rfl) ?yv12 ?_
  case yv12=>(intro W h;rw[hCL.o] at h;obtain⟨c0,c1,c2,c3,c4,c5,c6,c7⟩:=h;go_simp<;>rfl)
  refine zr_ 13 rfl (by kernel_rfl) (hC.o _ F1.o.drew) (λ K1 hK1=>?_);go_simp;refine(hMd.o _ (Fz.o.trans F1.o.drew u_)).mono ?_;rintro e w2 ⟨hG2,v2,ev2,rfl,hR⟩;replace hG2:=q_ hG2;replace hR:=q_ hR;refine hK1 _ _ ?_;clear hK1 K1;refine zc_ 14 ?v14 rfl (by kernel_rfl) (λ _ _ _ h=>h) (by kernel_rfl) ?yv14 ?_
  case yv14=>(intro W h;go_simp<;>rfl)
  refine zc_ 15 ?v15 rfl (by kernel_rfl) (λ _ _ _ h=>h) (by kernel_rfl) ?yv15 ?_
  case yv15=>(intro W h;go_simp<;>rfl)
  refine zc_ 16 ?v16 rfl (by kernel_rfl) (λ _ _ _ h=>h) (by kernel_rfl) ?yv16 ?_
  case yv16=>(intro W h;go_simp<;>rfl)
  refine zc_ 17 ?v17 rfl (by kernel_rfl) (λ _ _ _ h=>h) (by kernel_rfl) ?yv17 ?_
  case yv17=>(intro W h;go_simp<;>rfl)
  refine z5_ (by kernel_rfl) ?cl ?_ _
  case cl=>exact hC.o _ (F1.o.drew.trans (hG2.o) u_)
  go_wp2_with fail
  refine bodyPost_ret (v:=.tuple #[v2,ev2]) (by simp[results,results195,go_sem];try rfl) rfl ?_;rw[Q_.o];exact hR.o
 | none=>
  have hres:mkF (mkP (za_ ds) (za_ ds') (dfOf (za_ ds') s') f) (dfOf (za_ ds') s') fw dl g=dfOf (za_ ds') s' g:=by
   unfold mkF;rw[hix]
  rw[hres] at Q_;replace hix:=q_ hix;replace B2:=q_ B2;clear ih ht okx oky fy ho hd hres B0 B1 hF
  cases hdf:g.dflt with
  | none=>
   rw[show dfOf (za_ ds') s' g=none by unfold dfOf;rw[hdf]] at Q_;unfold DvM at hdv;rw[hdf] at hdv
   obtain rfl:dp=none:=by simpa using hdv
   replace Fz:=q_ Fz;replace hwz:=q_ hwz;clear M hdf hdv;generalize g.letter=gl at hHas hwz hix B2⊢;generalize g.ty=gt at Q_
   go_in
   go_wp2_with (go_at_call 241;rw[<- hwz.o];refine(hHas.o _ Fz.o).mono ?_;rintro e w1 ⟨rfl,hf1⟩;rw[hix.o];simp only[optV,Option.getD_none,cb_];have m3:=(hf1.blk B2.o id).c3;have F1:=q_ (Fz.o.trans hf1 u_);have he1:=hErr.o w1 F1.o;clear hf1)
   go_quiet (fail)
   go_wp2_with fail
   try go_ret
   rw[Q_.o];exact⟨_,_,rfl,F1.o.still (ze_.drewN _ _),rfl,.base⟩
  | some ae=>
   obtain⟨a,e⟩:=ae;unfold DvM at hdv;rw[hdf] at hdv;obtain⟨gb,x,d,hdp,hb,hrd,hx⟩:=hdv
   obtain rfl:dp=some ⟨gb,0,none⟩:=by simpa using hdp
   rw[show dfOf (za_ ds') s' g=some d by unfold dfOf;rw[hdf];exact hrd] at Q_;obtain⟨xT,xx,rfl⟩:=hx.iface;have hD:=q_ (λ W (hW:Fr w W (λ _=>False))=>hx.fr hW u_);have hk:=M.k;replace hb:=q_ hb;replace Fz:=q_ Fz;replace hwz:=q_ hwz;clear M hdf hdp hrd hx hErr;generalize g.letter=gl at hHas hwz hix B2⊢;generalize g.ty=gt at Q_ hD
   go_in
   go_wp2_with (go_at_call 241;rw[<- hwz.o];refine(hHas.o _ Fz.o).mono ?_;rintro e w1 ⟨rfl,hf1⟩;rw[hix.o];simp only[optV,Option.getD_none,cb_];have m3:=(hf1.blk B2.o id).c3;have F1:=q_ (Fz.o.trans hf1 u_);have n2:=(F1.o.blk hb.o id).c2;clear hf1)
   try go_ret
   rw[Q_.o];exact⟨_,_,rfl,F1.o,rfl,(hD.o _ F1.o).mono (λ b _ hb=>.inl hb)⟩
open Go.RowKit
theorem zew {w0 w:World}{P Q:Nat->Prop}{s s':BA}{ds ds':List PD}{sv sv':Value}{xs xs':List Value}{k0:Nat}{nt:TypeId}{nx:Value}{sT rT:TypeId}{sx rx:Value}{fw fr:List PF}{pr:Nat}{dl:List DT}{zs':List Value}{fwv frv:Value}{p2:Int}(ih:MkOK w0 P Q s s' ds ds' sv sv' xs xs' k0 nt nx sT sx rT rx f) (M:MC w0 P Q s s' ds ds' sv sv' xs xs' k0 nt nx w)
 (hF:vj_ w P s fw fwv zs) (hG:vj_ w Q s' fr frv zs') (hl:fw.length<=300) (hl':fr.length<=300) (hdl:dl.length=fw.length) (her:za_ ds' c=some (.recd fr)) (hsm:∀ g∈fr,zn_ g.letter=true)
 (hdv:∀ i g dd,fr[i]?=some g->zs'[4*i+3]?=some dd->DvM k0 w (za_ ds') s' g dd) (okx:∀ h∈fw,okT (za_ ds) h.ty) (oky:∀ g∈fr,okT (za_ ds') g.ty) (fy:∀ g∈fr,fewT g.ty) (ho:w.ownsRow 0 94 1 lv0 dl.length ((List.range dl.length).flatMap λ i=>[Y0 i])) (hd:∀ (i:Nat) (d:DT) (h:PF),dl[i]?=some d->fw[i]?=some h->Dat (za_ ds) d h.ty/\DaV (za_ ds) w (λ g=>g<k0) d h.ty (Y0 i)) (h1:ndTs dl<=299) (h2:ndTs dl<=f) :
 Calls prog 146 #[.agg #[sv,.iface sT sx,sv',.iface rT rx],.agg #[.int .i64 p,fwv,.int .i64 p2,frv],.iface 176 lv0] w (y2_ (za_ ds') (.leaf c pr) k0 w nt nx ((mapO (mkF (mkP (za_ ds) (za_ ds') (dfOf (za_ ds') s') f) (dfOf (za_ ds') s') fw dl) fr).map λ l=>.mk 114 0 noB [] l)):=by
 obtain⟨POST,Q_⟩:∃ R,H_ (R=y2_ (za_ ds') (.leaf c pr) k0 w nt nx ((mapO (mkF (mkP (za_ ds) (za_ ds') (dfOf (za_ ds') s') f) (dfOf (za_ ds') s') fw dl) fr).map λ l=>.mk 114 0 noB [] l)):=⟨_,rfl⟩;rw[<- Q_.o];have hMd:=q_ (λ W (hW:Fr w W (λ _=>False)) i (g:PF) pl T x dp (hi:fr[i]?=some g) (hT:TyV W Q g.ty (.iface T x)) (hz:zs'[4*i+3]?=some (.pointer dp))=>ziw (p:=p) (pl:=pl) ih (M.new hW) (hF.fr hW u_) hl hdl hT ((hdv i g _ hi hz).fr hW) okx (oky g (ak_ hi)) (fy g (ak_ hi)) (zb_ ho hW u_) (λ i d h a b=>⟨(hd i d h a b).1,(hd i d h a b).2.fr hW u_⟩) h1 h2);have hk0:=q_ M.k
 have hcell:=q_ (λ W (hW:Fr w W (λ _=>False)) i (g:PF) (hi:fr[i]?=some g)=>show ∃ T x dp,TyV W Q g.ty (.iface T x)/\zs'[4*i]?=some (.int .i64 (g.place:Int))/\zs'[4*i+1]?=some (.int .u8 (g.letter:Int))/\zs'[4*i+2]?=some (.iface T x)/\zs'[4*i+3]?=some (.pointer dp) from by
  obtain⟨a,b,c',d,q1,q2,q3,q4,rfl,rfl,hT,hD⟩:=hG.V i g hi
  obtain⟨T,x,rfl⟩:=hT.iface
  obtain⟨d',rfl⟩:∃ d',d=.pointer d':=by
   unfold DfV at hD
   split at hD
   ·exact⟨_,hD⟩
   ·obtain⟨g',x',_,e,_⟩:=hD;exact⟨_,e⟩
  exact⟨T,x,d',hT.fr hW u_,q1,q2,q3,q4⟩)
 have hrG:=q_ hG.row;obtain⟨sa,sc,rfl⟩:=zf_ M.D.row;obtain⟨ra,rc,rfl⟩:=zf_ M.E.row;obtain⟨la0,lc0,rfl⟩:=zf_ ho;obtain⟨fa,fc,rfl⟩:=zf_ hF.row;obtain⟨ga,gc,rfl⟩:=zf_ hG.row;generalize hR:mkF (mkP (za_ ds) (za_ ds') (dfOf (za_ ds') s') f) (dfOf (za_ ds') s') fw dl=R at hMd Q_;obtain⟨wz,hwz⟩:∃ W,W=(w.alloc (.cells #[.slice sa ds.length sc,.iface sT sx,.slice ra ds'.length rc,.iface rT rx] 127)).alloc (.cells #[.int .i64 p,.slice fa fw.length fc,.int .i64 p2,.slice ga fr.length gc] 286):=⟨_,rfl⟩
 have start:ML (za_ ds') k0 [.slice sa ds.length sc,.iface sT sx,.slice ra ds'.length rc,.iface rT rx] 127 [.int .i64 p,.slice fa fw.length fc,.int .i64 p2,.slice ga fr.length gc] 286 (.leaf c pr) w (.slice none 0 0) [] wz:=by
  rw[hwz];refine⟨((Fr.refl w (λ _=>False)).alloc _).alloc _,(Blk.new w #[.slice sa ds.length sc,.iface sT sx,.slice ra ds'.length rc,.iface rT rx] 127).alloc _,?_,by rw[z1_,z1_];omega,RowT.nil _ _ _ _ _⟩;have h:=Blk.new (w.alloc (.cells #[.slice sa ds.length sc,.iface sT sx,.slice ra ds'.length rc,.iface rT rx] 127)) #[.int .i64 p,.slice fa fw.length fc,.int .i64 p2,.slice ga fr.length gc] 286;rw[z1_] at h;exact h
 have hsub:∀ i g,fr[i]?=some g->yb_ (za_ ds') (.leaf c pr) 0 i=g.ty:=λ i g hi=>by
  simp only[yb_,her,aq_,a4_,hi,a2_,b0_]
 replace start:=q_ start;replace hwz:=q_ hwz;replace hsub:=q_ hsub;replace hsm:=q_ hsm;clear ih M hF hG okx oky fy hd hdv h1 h2 hR ho her hdl;generalize za_ ds'=er at hMd Q_ start hsub;have ay:=zar
 go_in
 go_wp2_with fail
 rw[<- hwz.o]
 go_loopg [10,27] (fr.length+1) (λ m v10 v W=>∃ (q:Nat) (l:List DT),v=.int .i64 (q:Int)/\q<=fr.length/\fr.length+1-q<=m/\H_ (mapO R (fr.take q)=some l)/\H_ (ML er k0 [.slice sa ds.length sc,.iface sT sx,.slice ra ds'.length rc,.iface rT rx] 127 [.int .i64 p,.slice fa fw.length fc,.int .i64 p2,.slice ga fr.length gc] 286 (.leaf c pr) w v10 l W))
 case atStart=>exact⟨0,[],rfl,aj_ _,by omega,q_ rfl,q_ start.o⟩
 case round=>
  clear start;obtain⟨q,l,rfl,hq,hm,hmp,hQ⟩:=hrel
  have hll:l.length=q:=by have:=zit hmp.o;rw[b3_] at this;omega
  obtain⟨Y,hrow,hY⟩:=hQ.o.row;rw[hll] at hrow;obtain⟨la,lc,rfl⟩:=zf_ hrow
  by_cases hlt:q<fr.length
  ·have hlt':(q:Int)<(fr.length:Int):=by omega
   have hdq:fr[q]?=some fr[q]:=am_ hlt;generalize fr[q]=g at hdq;obtain⟨gg,cap,hgc⟩:=zk_ hrG.o (by omega);cases hgc;obtain⟨T,x,dp,hT,q0,q1,q2,q3⟩:=hcell.o wr hQ.o.fr q g hdq;have hrw:=zb_ hrG.o hQ.o.fr u_;have r0:=zs_ hrw rfl q0;have r1:=zs_ hrw rfl q1;have r2:=zs_ hrw rfl q2;have r3:=zs_ hrw rfl q3;rw[bo_] at r0 r1 r2 r3;have hlet:=hsm.o g (ak_ hdq);have hgty:=hsub.o q g hdq;have FA:=(Fr.refl wr (λ _=>False)).alloc (.cells #[.int .i64 (g.place:Int),.int .u8 (g.letter:Int),.iface T x,.pointer dp] 220);have BE:=q_ (Blk.new wr #[.int .i64 (g.place:Int),.int .u8 (g.letter:Int),.iface T x,.pointer dp] 220);have hQa:=q_ (hQ.o.call FA);obtain⟨k0',k1',k2',k3'⟩:=hQa.o.b0.d4;obtain⟨i0',i1',i2',i3'⟩:=hQa.o.b1.d4;have hC:=hMd.o _ (hQ.o.fr.trans FA u_) q g g.place T x dp hdq (hT.fr FA u_) q3;have hbB:=hQ.o.bB;have hmem:=q_ (ak_ hdq);replace hdq:=q_ hdq;replace hgty:=q_ hgty;replace hlet:=q_ hlet;clear hrw hT q0 q1 q2 q3
   cases hrd:R g with
   | none=>
    rw[hrd] at hC;have hr:=q_ (show mapO R fr=none from zc2 hrd hmem.o);replace hC:=q_ hC;clear hrow hY hrd FA
    go_wp2_with (first
     |(go_at_call 195;refine hC.o.mono ?_;rintro e w1 ⟨v1,ev1,rfl,hf1,hv1,hE1⟩;subst hv1;obtain⟨eT,ex,rfl⟩:=hE1.iface;have n1:=(hf1.blk BE.o id).c1;replace hE1:=q_ hE1;replace hf1:=q_ hf1)
     |(go_at_call 190;refine(zch hlet.o).mono ?_;rintro e w2 hW2;have hE2:=q_ (λ v (he:e=.returned v)=>hE1.o.wrap hW2 (hf1.o.size) he);obtain⟨g2,tx2,rfl,hg2,hb2,hf2⟩:=hW2;replace hf2:=q_ hf2;clear hb2))
    try go_ret
    rw[Q_.o,hr.o];exact⟨_,_,rfl,(hQa.o.fr.trans hf1.o u_).trans hf2.o u_,rfl,(hE2.o _ rfl).less hQa.o.fr.size⟩
   | some x1=>
    rw[hrd] at hC;have hmp':=q_ (show mapO R (fr.take (q+1))=some (l++[x1]) by rw[ba_,hdq.o];exact zc0 hrd hmp.o);replace hC:=q_ hC;have hY':=q_ (λ i d (e:l[i]?=some d)=>(hY i d e).fr FA u_);have hrow':=q_ (zb_ hrow FA u_);obtain⟨ti,hi1,hi2,hi3,hi4⟩:=info_parts zbu;clear hrd hY hrow FA
    go_wp2_with (first
     |(go_at_call 195;refine hC.o.mono ?_;rintro e w1 ⟨v1,ev1,rfl,hf1,hv1,hD1⟩;subst hv1;obtain⟨dT,dx,rfl⟩:=hD1.iface;have Q1:=hQa.o.call hf1;have hb1:=Q1.bB;have hrow1:=q_ (zb_ hrow'.o hf1 u_);have hD1':=q_ (hD1.mono (Q:=λ g=>(g<k0\/w.heap.size+2<=g)/\(Value.slice la q lc).ownBlock≠some g) (λ g _ hg=>⟨by have:=hQa.o.bB;omega,λ e=>by have:=hrow'.o.lt g e;have:=hk0.o;omega⟩));have hY1:=q_ (λ i d (e:l[i]?=some d)=>(hY'.o i d e).fr hf1 u_);replace Q1:=q_ Q1;clear hD1 hf1)
     |(at_builtin;go_must (refine wpList_append_own_at _ rfl _ _ 176 rfl (w.heap.size+2) 94 ti _ 1 16 zro hi1 hi2 hi3 hi4 rfl (by decide) (.slice la q lc) q ((List.range q).flatMap λ i=>[Y i]) rfl ?hown _ 1 1 [.iface dT dx] rfl rfl (yh_ _ #[.iface dT dx] _ _ ?nn) ?one ?b1 ?b2 ?b3 ?_)
       case hown=>exact World.ownsRow.alloc hrow1.o _
       case nn=>simp
       case one=>simp[Value.oneCell']
       case b1=>unfold maxLen;omega
       case b2=>omega
       case b3=>simp;omega
       intro v5 w5 ho5 hg5 hn5 hl5
       have Q5:=Q1.o.item (d:=x1) hY1.o (by rw[hll,hgty.o];exact hD1'.o) hg5 (by rw[hll];exact ho5) hl5
       obtain⟨g5,cap5,rfl⟩:=zk_ ho5 (by omega)
       clear hg5 hl5 hn5 ho5
       replace Q5:=q_ Q5))
    go_roundg (fr.length+1-(q+1))
    case measure=>omega
    case rel=>exact⟨q+1,l++[x1],by simp,hlt,l_,hmp',Q5⟩
  ·have hlt':¬ ((q:Int)<(fr.length:Int)):=by omega
   have hr:=q_ (show mapO R fr=some l by have:=hmp.o;rwa[a3_ (by omega)] at this);clear hrow hY hmp
   go_wp2_with fail
   try go_ret
   rw[Q_.o,hr.o];exact⟨_,_,rfl,hQ.o.fr,rfl,hQ.o.done (.inr ⟨rfl,rfl⟩)⟩
open Go.RowKit
theorem zeu {w:World}{Q:Nat->Prop}{er:Nat->Option PB}{k0:Nat}{nt:TypeId}{nx:Value}{lr:List (Nat×Nat)}{o:Option (Nat×Nat)}{pr l:Nat}{p2:Int}{fa:Option Addr}{fn fc:Nat}{a:Option Addr}{rv u:Value}(hE:w.cell? ⟨6,0,none⟩=some (.iface nt nx)) (ho:w.ownsRow 0 217 2 rv lr.length (yg_ lr)) (hu:UnkV w Q o u) (hl:lr.length<=300) (her:er c=some (.enum lr o)) (hsm:∀ q∈lr,zn_ q.1=true) :
 Calls prog 145 #[.agg #[.int .i64 p,.slice fa fn fc,.pointer a,.int .i64 p2,rv,u],.iface 189 (.agg #[.int .u8 (l:Int),.int .i64 (n:Int)])] w (y2_ er (.leaf c pr) k0 w nt nx ((rdsS lr o l).map λ (q:Nat)=>DT.mk 101 (q:Int) noB [] [])):=by
 obtain⟨POST,Q_⟩:∃ R,H_ (R=y2_ er (.leaf c pr) k0 w nt nx ((rdsS lr o l).map λ (q:Nat)=>DT.mk 101 (q:Int) noB [] [])):=⟨_,rfl⟩;rw[<- Q_.o];obtain⟨ra,rc,rfl⟩:=zf_ ho;obtain⟨ud,rfl⟩:=hu.ptr;have hRd:=q_ (λ W (hW:Fr w W (λ _=>False))=>zqu (p:=p2) (c:=l) (zb_ ho hW u_) (hu.fr hW u_) hl);obtain⟨wz,hwz⟩:∃ W,W=(w.alloc (.cells #[.int .i64 p,.slice fa fn fc,.pointer a,.int .i64 p2,.slice ra lr.length rc,.pointer ud] 283)).alloc (.cells #[.int .u8 (l:Int),.int .i64 (n:Int)] 189):=⟨_,rfl⟩
 have Fz:Fr w wz (λ _=>False):=by rw[hwz];exact((Fr.refl w (λ _=>False)).alloc _).alloc _
 have B0:Blk wz w.heap.size [.int .i64 p,.slice fa fn fc,.pointer a,.int .i64 p2,.slice ra lr.length rc,.pointer ud] 283:=by
  rw[hwz];exact(Blk.new w #[.int .i64 p,.slice fa fn fc,.pointer a,.int .i64 p2,.slice ra lr.length rc,.pointer ud] 283).alloc _
 have hErr:=q_ (λ W (hW:Fr w W (λ _=>False))=>show W.cell? ⟨6,0,none⟩=some (.iface nt nx) from(World.cell?_of_block (a:=⟨6,0,none⟩) (hW.block _ (World.block_lt_of_cell? w ⟨6,0,none⟩ hE) id)).trans hE);replace B0:=q_ B0;replace Fz:=q_ Fz;replace hwz:=q_ hwz;have ay:=zcl
 cases hq:rdsS lr o l with
 | none=>
  rw[hq] at Q_ hRd;clear ho hu hE hq her hsm
  go_in
  go_wp2_with (go_at_call 194;rw[<- hwz.o];refine(hRd.o _ Fz.o).mono ?_;rintro e w1 ⟨rfl,hf1⟩;simp only[optV,Option.getD_none,cb_];have F1:=q_ (Fz.o.trans hf1 u_);have he1:=hErr.o w1 F1.o;clear hf1)
  go_quiet (fail)
  go_wp2_with fail
  try go_ret
  rw[Q_.o];exact⟨_,_,rfl,F1.o.still (ze_.drewN _ _),rfl,.base⟩
 | some q=>
  rw[hq] at Q_ hRd
  obtain⟨⟨lq,pq⟩,hlq⟩:∃ e,lr[q]?=some e:=by
   have key:∀ x,(lr.map Prod.fst).findIdx? (λ y=>y==x)=some q->∃ e,lr[q]?=some e:=λ x h=>by
    have:=(List.findIdx?_eq_some_iff_findIdx_eq.1 h).1;rw[List.length_map] at this;exact⟨_,am_ this⟩
   unfold rdsS at hq;split at hq
   ·rename_i h;cases hq;exact key _ h
   ·split at hq
    ·cases hq
    ·exact key _ hq
  have hlt:q<lr.length:=(ao_.1 hlq).1
  have hqi:(q:Int)<(lr.length:Int):=by omega
  have hq0:¬ ((q:Int)<0):=by omega
  obtain⟨gg,cap,hgc⟩:=zk_ ho (by omega);cases hgc;have hc:=q_ (λ W (hW:Fr w W (λ _=>False))=>zs_ (zb_ ho hW u_) rfl (xp_ hlq).2);have hsmall:=hsm _ (ak_ hlq)
  have hsy:=q_ (show symL er (.leaf c pr) q=lq by
   simp only[symL,her,aq_,a4_,hlq,a2_,b0_])
  clear ho hu hE hq her hsm hErr
  go_in
  go_wp2_with (go_at_call 194;rw[<- hwz.o];refine(hRd.o _ Fz.o).mono ?_;rintro e w1 ⟨rfl,hf1⟩;simp only[optV,b0_,Option.isSome_some];have F1:=q_ (Fz.o.trans hf1 u_);have m4:=(hf1.blk B0.o id).c4;have m5:=hc.o w1 F1.o;clear hf1)
  try go_ret
  rw[Q_.o];refine⟨_,_,rfl,F1.o,rfl,.flat (.sym q lq (by omega)) (λ n' l' e=>?_)⟩;simp only[Value.iface.injEq,Value.agg.injEq,true_and] at e;have e0:=congrArg (λ x:Array Value=>x[0]?) e;have e1:=congrArg (λ x:Array Value=>x[1]?) e;simp only[List.getElem?_toArray,aa_,ac_,ad_,Value.int.injEq,true_and] at e0 e1
  obtain rfl:q=n':=by omega
  obtain rfl:lq=l':=by omega
  refine⟨hsy.o,?_⟩;simp only[zn_,a9_,decide_eq_true_eq] at hsmall;omega
end Go.Proofs.YthmjjpkjgjklmaaGreatDoor
