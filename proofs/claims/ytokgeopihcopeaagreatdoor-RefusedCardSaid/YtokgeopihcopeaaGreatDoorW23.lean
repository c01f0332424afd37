import Derived.Test.YtokgeopihcopeaaGreatDoorW22
set_option linter.unusedVariables false
set_option maxHeartbeats 16000000
set_option maxRecDepth 100000
set_option linter.defProp false
set_option linter.unusedSimpArgs false
open Go.Proofs.Tryz
namespace Go.Proofs.YtokgeopihcopeaaGreatDoor
open Go.RowKit
variable {nt:Av}{nx sv sv' lv0 b:Ax}{Q P:Az}{s s':BA}{w0:Aw}{ds ds':Ar}{xs xs' zs:Ay}{f n c:Nat}{Y0:Ai}{α β:Type}{p:Int}
section
variable {w:Aw} {sa ra:Am} {sn sc rn rc:Nat} {sT rT aT bT dT:Av} {sx rx ax bx dx:Ax}
def Wf{R:Bt}{N:Ex}(y:∀W,Fr w W N_->Calls prog 86 #[.agg #[.slice sa sn sc,.iface sT sx,.slice ra rn rc,.iface rT rx],.iface aT ax,.iface bT bx] W (λe w'=>∃T u,e=.returned (.iface T u)/\Fr W w' N_/\N (.iface T u) w'))(hB:∀W T u,Fr w W N_->N (.iface T u) W->Calls prog 85 #[.agg #[.slice sa sn sc,.iface sT sx,.slice ra rn rc,.iface rT rx],.iface T u,.iface dT dx] W (λe w'=>∃v m,e=.returned (.tuple #[v,m])/\Fr W w' N_/\R (.returned (.tuple #[v,m])) w')):Calls prog 48 #[.agg #[.slice sa sn sc,.iface sT sx,.slice ra rn rc,.iface rT rx],.iface aT ax,.iface bT bx,.iface dT dx] w R:=by
 refine hq_ λm A=>?_;replace y:=zy y;replace hB:=zy hB;obtain⟨j,i⟩:=e_ (w.alloc (.cells #[.slice sa sn sc,.iface sT sx,.slice ra rn rc,.iface rT rx] 83));have k:Fr w j N_:=by rw[i];exact(A_ w N_).alloc _
 have d:Blk j w.heap.size [.slice sa sn sc,.iface sT sx,.slice ra rn rc,.iface rT rx] 83:=by
  rw[i];exact B_ w #[.slice sa sn sc,.iface sT sx,.slice ra rn rc,.iface rT rx] 83
 obtain⟨z,a⟩:∃C:World->Prop,C=λW=>W.cell? ⟨w.heap.size,0,none⟩=some (.slice sa sn sc)/\W.cell? ⟨w.heap.size,1,none⟩=some (.iface sT sx)/\W.cell? ⟨w.heap.size,2,none⟩=some (.slice ra rn rc)/\W.cell? ⟨w.heap.size,3,none⟩=some (.iface rT rx):=⟨_,rfl⟩;have x:=zy (λW (m:Fr j W N_)=>show z W by
  rw[a]
  exact⟨(m.bl d id).cell 0,(m.bl d id).cell 1,(m.bl d id).cell 2,(m.bl d id).cell 3⟩)
 replace k:=zy k;replace i:=zy i;replace a:=zy a;go_in;go_wp2;rw[<- i.o];refine tR_ z ?_;refine zc 0 ?v0 rfl K_ (λ_ _ _ h=>h) K_ ?yv0 ?_;case yv0=>(intro W h;rw[a.o]at h;obtain⟨c0,c1,c2,c3⟩:=h;go_simp<;>rfl)
 refine zc 1 ?v1 rfl K_ (λ_ _ _ h=>h) K_ ?yv1 ?_;case yv1=>(intro W h;rw[a.o]at h;obtain⟨c0,c1,c2,c3⟩:=h;go_simp<;>rfl)
 refine zc 2 ?v2 rfl K_ (λ_ _ _ h=>h) K_ ?yv2 ?_;case yv2=>(intro W h;rw[a.o]at h;obtain⟨c0,c1,c2,c3⟩:=h;go_simp<;>rfl)
 refine zc 3 ?v3 rfl K_ (λ_ _ _ h=>h) K_ ?yv3 ?_;case yv3=>(intro W h;rw[a.o]at h;obtain⟨c0,c1,c2,c3⟩:=h;go_simp<;>rfl)
 refine zc 5 ?v5 rfl K_ (λ_ _ _ h=>h) K_ ?yv5 ?_;case yv5=>(intro W h;rw[a.o]at h;obtain⟨c0,c1,c2,c3⟩:=h;go_simp<;>rfl)
 refine zJ 4 rfl K_ (x.o _ (A_ j _).drew) (λr g=>?_);go_simp;apply(y.o _ k.o.drew).mono;rintro e w1 ⟨a,a,rfl,d,a⟩;have q:=zy ((A_ j N_).drew.trans d u_);replace a:=zy a;refine g _ _ ?_;refine zJ 6 rfl K_ (x.o _ q) (λr g=>?_);go_simp;apply(hB.o _ _ _ (k.o.trans q u_) a).mono;rintro e a ⟨v2,B,rfl,d,a⟩;have i:=zy (q.o.trans d u_);replace a:=zy a;refine g _ _ ?_;refine tY_ 7 ?_;refine tY_ 8 ?_;refine tY_ 9 ?_;refine tY_ 10 ?_;refine yq K_ (x.o _ i) ?_ _;go_wp2;refine bodyPost_ret (v:=.tuple #[v2,B]) (by simp[results,results48,go_sem];try rfl) rfl ?_;rw[A.o];exact a
def ia{r y:PT}{k0:Nat}{er:Au}{o:Option DT}(hn:n<=4000)(hy:yg er y n 0=r)(h:∀W,Fr w W N_->Calls prog 85 #[.agg #[.slice sa sn sc,.iface sT sx,.slice ra rn rc,.iface rT rx],.iface bT bx,.iface dT dx] W (ye er r k0 W nt nx o)):Calls prog 140 #[.agg #[.slice sa sn sc,.iface sT sx,.slice ra rn rc,.iface rT rx],.agg #[I_ n,.iface bT bx],.iface dT dx] w (ye er y k0 w nt nx (o.map λx=>.mk 40 (n:Int) noB [] [x])):=by
 refine hq_ λr m=>?_;have k:=zy (λo r=>((A_ w N_).alloc o).alloc r);have i:Blk ((w.alloc (.cells #[.slice sa sn sc,.iface sT sx,.slice ra rn rc,.iface rT rx] 83)).alloc (.cells #[I_ n,.iface bT bx] 280)) (w.heap.size+1) [I_ n,.iface bT bx] 280:=by
  have h:=B_ (w.alloc (.cells #[.slice sa sn sc,.iface sT sx,.slice ra rn rc,.iface rT rx] 83)) #[I_ n,.iface bT bx] 280;rw[zm]at h;exact h
 replace i:=zy i;replace h:=zy (λW r=>(h W r).mono (λe w' q=>ye.two r q));cases o with
 |none=>
  go_in;go_wp2_with (go_at_call 85;apply(h.o _ (k.o _ _)).mono;rintro e w1 ⟨g,A,v,rfl,a,j,d⟩;subst j;obtain⟨u,z,rfl⟩:=d.iface;replace a:=zy a;replace d:=zy d);try go_ret
  rw[m.o];exact⟨_,_,rfl,a,rfl,d⟩
 |some x=>
  go_in;go_wp2_with (go_at_call 85;apply(h.o _ (k.o _ _)).mono;rintro e w1 ⟨g,A,v,rfl,a,j,d⟩;subst j;obtain⟨u,z,rfl⟩:=d.iface;have j:=(g.bl i id).c0;replace a:=zy a;replace d:=zy d);try go_ret
  rw[m.o];refine⟨_,_,rfl,a,rfl,?_⟩;refine .branch n hn ?_;rw[hy];exact d
end
def dD{w:Aw}{k0:Nat}{sT rT:Av}{sx rx:Ax}{ws:Af}{y j:PT}{d1:DT}{X:Ai}{uv v1:Ax}(a1:MS w0 ds ds')(ih:Xt w0 P Q s s' ds ds' sv sv' xs xs' k0 nt nx sT sx rT rx f)(M:MC w0 P Q s s' ds ds' sv sv' xs xs' k0 nt nx w)(ho:w.ownsRow 0 46 1 uv ws.length ((List.range ws.length).map X))(hX:∀i t,ws[i]?=some t->TyV w P t (X i))(hb:TyV w Q y b)(hn:ws[n]?=some j)(a9:n<=4000)(a4:okT (zx ds) j)(a5:okT (zx ds') y)(fy:vq y)(hd:Dat (zx ds) d1 j)(hv:DaV (zx ds) w (λg=>g<k0) d1 j v1)(h1:ndT d1<=300)(h2:ndT d1<=f):Calls prog 139 #[.agg #[sv,.iface sT sx,sv',.iface rT rx],.agg #[uv,b],.iface 150 (.agg #[I_ n,v1])] w (ye (zx ds') y k0 w nt nx (mkP (zx ds) (zx ds') (xD (zx ds') s') f j y d1)):=by
 obtain⟨Y,K⟩:=y_ (ye (zx ds') y k0 w nt nx (mkP (zx ds) (zx ds') (xD (zx ds') s') f j y d1));rw[<- K.o];have a8:n<ws.length:=(ak_.1 hn).1;obtain⟨g,H,rfl⟩:=zg ho M_;obtain⟨sa,sc,rfl⟩:=zw M.D.row;obtain⟨ra,rc,rfl⟩:=zw M.E.row;obtain⟨bT,bx,rfl⟩:=hb.iface;obtain⟨dT,dx,rfl⟩:=hv.iface;obtain⟨tT,tx,Y⟩:=(hX n j hn).iface;have z:=λW (d:Fr w W N_)=>(ih W j y d1 (X n) _ _ (M.new d) ((hX n j hn).fr d u_) (hb.fr d u_) a4 a5 fy hd (hv.fr d u_) h1 h2).mono (λe w' q=>ye.two d q);rw[Y]at z;have a3:∀W,Fr w W N_->W.cell? ⟨g,n,none⟩=some (.iface tT tx):=λW d=>by
  have:=zr (zj ho d u_) rfl (k:=n) (x:=X n) (by rw[ax_,ce_ a8];rfl);rw[Y]at this;exact this
 have U:=λW (d:Fr w W N_)=>(M.new d).G;have V:=a1.I;have Y:(n:Int)<(ws.length:Int):=M_;have Y:¬((n:Int)<0):=M_;obtain⟨m,hwz⟩:=e_ (((w.alloc (.cells #[.slice sa ds.length sc,.iface sT sx,.slice ra ds'.length rc,.iface rT rx] 83)).alloc (.cells #[S_ g ws.length H,.iface bT bx] 277)).alloc (.cells #[I_ n,.iface dT dx] 150));have F:Fr w m N_:=xk_
 have A:Blk m w.heap.size [.slice sa ds.length sc,.iface sT sx,.slice ra ds'.length rc,.iface rT rx] 83:=by
  rw[hwz];exact((B_ w #[.slice sa ds.length sc,.iface sT sx,.slice ra ds'.length rc,.iface rT rx] 83).alloc _).alloc _
 have O:Blk m (w.heap.size+1) [S_ g ws.length H,.iface bT bx] 277:=by
  rw[hwz];have h:=(B_ (w.alloc (.cells #[.slice sa ds.length sc,.iface sT sx,.slice ra ds'.length rc,.iface rT rx] 83)) #[S_ g ws.length H,.iface bT bx] 277).alloc (.cells #[I_ n,.iface dT dx] 150);rw[zm]at h;exact h
 have B:Blk m (w.heap.size+1+1) [I_ n,.iface dT dx] 150:=by
  rw[hwz];have h:=B_ ((w.alloc (.cells #[.slice sa ds.length sc,.iface sT sx,.slice ra ds'.length rc,.iface rT rx] 83)).alloc (.cells #[S_ g ws.length H,.iface bT bx] 277)) #[I_ n,.iface dT dx] 150;rw[zm,zm]at h;exact h
 obtain⟨S,a⟩:∃C:World->Prop,C=λW=>W.cell? ⟨w.heap.size,0,none⟩=some (.slice sa ds.length sc)/\W.cell? ⟨w.heap.size,1,none⟩=some (.iface sT sx)/\W.cell? ⟨w.heap.size,2,none⟩=some (.slice ra ds'.length rc)/\W.cell? ⟨w.heap.size,3,none⟩=some (.iface rT rx)/\W.cell? ⟨w.heap.size+1,0,none⟩=some (S_ g ws.length H)/\W.cell? ⟨w.heap.size+1,1,none⟩=some (.iface bT bx)/\W.cell? ⟨w.heap.size+1+1,0,none⟩=some (I_ n)/\W.cell? ⟨w.heap.size+1+1,1,none⟩=some (.iface dT dx)/\W.cell? ⟨g,n,none⟩=some (.iface tT tx):=⟨_,rfl⟩;have L:=zy (λW (d:Fr m W N_)=>show S W by
  rw[a]
  exact⟨(d.bl A id).cell 0,(d.bl A id).cell 1,(d.bl A id).cell 2,(d.bl A id).cell 3,(d.bl O id).cell 0,(d.bl O id).cell 1,(d.bl B id).cell 0,(d.bl B id).cell 1,a3 W (F.trans d u_)⟩)
 replace B:=zy B;replace F:=zy F;replace hwz:=zy hwz;replace a:=zy a;replace U:=zy U;replace V:=zy V;generalize mkP (zx ds) (zx ds') (xD (zx ds') s') f j y d1=o at z K;replace z:=zy z;cases o with
 |none=>
  go_in;go_wp2;rw[<- hwz.o];refine tR_ S ?_;refine zc 0 ?v0 rfl K_ (λ_ _ _ h=>h) K_ ?yv0 ?_;case yv0=>(intro W h;rw[a.o]at h;obtain⟨c0,c1,c2,c3,c4,c5,c6,c7,c8⟩:=h;go_simp<;>rfl)
  refine zc 1 ?v1 rfl K_ (λ_ _ _ h=>h) K_ ?yv1 ?_;case yv1=>(intro W h;rw[a.o]at h;obtain⟨c0,c1,c2,c3,c4,c5,c6,c7,c8⟩:=h;go_simp<;>rfl)
  refine zc 2 ?v2 rfl K_ (λ_ _ _ h=>h) K_ ?yv2 ?_;case yv2=>(intro W h;rw[a.o]at h;obtain⟨c0,c1,c2,c3,c4,c5,c6,c7,c8⟩:=h;go_simp<;>rfl)
  refine zc 3 ?v3 rfl K_ (λ_ _ _ h=>h) K_ ?yv3 ?_;case yv3=>(intro W h;rw[a.o]at h;obtain⟨c0,c1,c2,c3,c4,c5,c6,c7,c8⟩:=h;go_simp<;>rfl)
  refine zc 4 ?v4 rfl K_ (λ_ _ _ h=>h) K_ ?yv4 ?_;case yv4=>(intro W h;rw[a.o]at h;obtain⟨c0,c1,c2,c3,c4,c5,c6,c7,c8⟩:=h;go_simp<;>rfl)
  refine zc 5 ?v5 rfl K_ (λ_ _ _ h=>h) K_ ?yv5 ?_;case yv5=>(intro W h;rw[a.o]at h;obtain⟨c0,c1,c2,c3,c4,c5,c6,c7,c8⟩:=h;go_simp<;>rfl)
  refine zc 6 ?v6 rfl K_ (λ_ _ _ h=>h) K_ ?yv6 ?_;case yv6=>(intro W h;rw[a.o]at h;obtain⟨c0,c1,c2,c3,c4,c5,c6,c7,c8⟩:=h;go_simp<;>rfl)
  refine zc 7 ?v7 rfl K_ (λ_ _ _ h=>h) K_ ?yv7 ?_;case yv7=>(intro W h;rw[a.o]at h;obtain⟨c0,c1,c2,c3,c4,c5,c6,c7,c8⟩:=h;go_simp<;>rfl)
  refine zc 8 ?v8 rfl K_ (λ_ _ _ h=>h) K_ ?yv8 ?_;case yv8=>(intro W h;rw[a.o]at h;obtain⟨c0,c1,c2,c3,c4,c5,c6,c7,c8⟩:=h;go_simp<;>rfl)
  refine zc 9 ?v9 rfl K_ (λ_ _ _ h=>h) K_ ?yv9 ?_;case yv9=>(intro W h;rw[a.o]at h;obtain⟨c0,c1,c2,c3,c4,c5,c6,c7,c8⟩:=h;go_simp<;>rfl)
  refine zc 10 ?v10 rfl K_ (λ_ _ _ h=>h) K_ ?yv10 ?_;case yv10=>(intro W h;rw[a.o]at h;obtain⟨c0,c1,c2,c3,c4,c5,c6,c7,c8⟩:=h;go_simp<;>rfl)
  refine zJ 11 rfl K_ (L.o _ (A_ m _).drew) (λT J=>?_);go_simp;apply(z.o _ F.o.drew).mono;rintro e w1 ⟨u,v1,a6,rfl,r,a0,N⟩;subst a0;obtain⟨eT,ex,rfl⟩:=N.iface;have d:=(((A_ m N_).drew.trans u u_).bl B id).cell 0;simp only[aa_]at d;have d:=zy (U.o _ r);replace u:=zy u;replace r:=zy r;replace N:=zy N;refine J _ _ ?_;refine tY_ 12 ?_;refine tY_ 13 ?_;refine tY_ 14 ?_;refine tY_ 15 ?_;refine tY_ 16 ?_;refine yq K_ (L.o _ ((A_ m N_).drew.trans u u_)) ?_ _;go_wp2_with (go_at_call 187;apply(iU V d a9).mono;rintro e d a2;have a7:=zy (λv (he:e=.returned v)=>N.o.wrap a2 (r.o.size) he);obtain⟨d,d,rfl,d,d,Z⟩:=a2;replace Z:=zy Z);try go_ret
  rw[K.o];exact⟨_,_,rfl,r.o.trans Z u_,rfl,a7.o _ rfl⟩
 |some x=>
  go_in;go_wp2;rw[<- hwz.o];refine tR_ S ?_;refine zc 0 ?z0 rfl K_ (λ_ _ _ h=>h) K_ ?yz0 ?_;case yz0=>(intro W h;rw[a.o]at h;obtain⟨c0,c1,c2,c3,c4,c5,c6,c7,c8⟩:=h;go_simp<;>rfl)
  refine zc 1 ?z1 rfl K_ (λ_ _ _ h=>h) K_ ?yz1 ?_;case yz1=>(intro W h;rw[a.o]at h;obtain⟨c0,c1,c2,c3,c4,c5,c6,c7,c8⟩:=h;go_simp<;>rfl)
  refine zc 2 ?z2 rfl K_ (λ_ _ _ h=>h) K_ ?yz2 ?_;case yz2=>(intro W h;rw[a.o]at h;obtain⟨c0,c1,c2,c3,c4,c5,c6,c7,c8⟩:=h;go_simp<;>rfl)
  refine zc 3 ?z3 rfl K_ (λ_ _ _ h=>h) K_ ?yz3 ?_;case yz3=>(intro W h;rw[a.o]at h;obtain⟨c0,c1,c2,c3,c4,c5,c6,c7,c8⟩:=h;go_simp<;>rfl)
  refine zc 4 ?z4 rfl K_ (λ_ _ _ h=>h) K_ ?yz4 ?_;case yz4=>(intro W h;rw[a.o]at h;obtain⟨c0,c1,c2,c3,c4,c5,c6,c7,c8⟩:=h;go_simp<;>rfl)
  refine zc 5 ?z5 rfl K_ (λ_ _ _ h=>h) K_ ?yz5 ?_;case yz5=>(intro W h;rw[a.o]at h;obtain⟨c0,c1,c2,c3,c4,c5,c6,c7,c8⟩:=h;go_simp<;>rfl)
  refine zc 6 ?z6 rfl K_ (λ_ _ _ h=>h) K_ ?yz6 ?_;case yz6=>(intro W h;rw[a.o]at h;obtain⟨c0,c1,c2,c3,c4,c5,c6,c7,c8⟩:=h;go_simp<;>rfl)
  refine zc 7 ?z7 rfl K_ (λ_ _ _ h=>h) K_ ?yz7 ?_;case yz7=>(intro W h;rw[a.o]at h;obtain⟨c0,c1,c2,c3,c4,c5,c6,c7,c8⟩:=h;go_simp<;>rfl)
  refine zc 8 ?z8 rfl K_ (λ_ _ _ h=>h) K_ ?yz8 ?_;case yz8=>(intro W h;rw[a.o]at h;obtain⟨c0,c1,c2,c3,c4,c5,c6,c7,c8⟩:=h;go_simp<;>rfl)
  refine zc 9 ?z9 rfl K_ (λ_ _ _ h=>h) K_ ?yz9 ?_;case yz9=>(intro W h;rw[a.o]at h;obtain⟨c0,c1,c2,c3,c4,c5,c6,c7,c8⟩:=h;go_simp<;>rfl)
  refine zc 10 ?z10 rfl K_ (λ_ _ _ h=>h) K_ ?yz10 ?_;case yz10=>(intro W h;rw[a.o]at h;obtain⟨c0,c1,c2,c3,c4,c5,c6,c7,c8⟩:=h;go_simp<;>rfl)
  refine zJ 11 rfl K_ (L.o _ (A_ m _).drew) (λT J=>?_);go_simp;apply(z.o _ F.o.drew).mono;rintro e w1 ⟨u,v1,a6,rfl,r,a0,N⟩;subst a0;obtain⟨eT,ex,rfl⟩:=N.iface;replace u:=zy u;replace r:=zy r;replace N:=zy N;refine J _ _ ?_;refine tY_ 12 ?_;refine tY_ 13 ?_;refine tY_ 14 ?_;refine tY_ 15 ?_;refine tY_ 16 ?_;refine yq K_ (L.o _ ((A_ m N_).drew.trans u u_)) ?_ _;go_wp2;try go_ret
  rw[K.o];exact⟨_,_,rfl,r,rfl,N⟩
def gO{g:α->Option β}{a:α}{b:β}(hb:g a=some b):∀{l:List α}{m:List β},vm g l=some m->vm g (l++[a])=some (m++[b])
 | [],m,h=>by simp only[vm,af_]at h;subst h;simp[vm,hb]
 |x::r,m,h=>by
  unfold vm at h;split at h
  .cases h
  .rename_i c hc;split at h
   .cases h
   .rename_i d hl;simp only[af_]at h;subst h;rw[bk_];unfold vm;rw[hc,gO hb hl];rfl
def gR{g:α->Option β}{a:α}(hn:g a=none):∀{l:List α},a∈l->vm g l=none
 | [],h=>by cases h
 |x::r,h=>by
  unfold vm;rcases aq_.1 h with rfl|h
  .rw[hn]
  .rw[gR hn h];split<;>rfl
def lI{g:α->Option β}{l:List α}{m:List β}(h:vm g l=some m):m.length=l.length:=(oz h).1
structure ML(er:Au)(k0:Nat)(cs0:Ay)(ct0:Av)(cs1:Ay)(ct1:Av)(t:PT)(w:Aw)(lv:Ax)(l:Ae)(W:Aw):Prop where
 fr:Fr w W N_
 b0:Blk W w.heap.size cs0 ct0
 b1:Blk W (w.heap.size+1) cs1 ct1
 bB:w.heap.size+2<=W.heap.size
 row:jY er W (w.heap.size+2) (λg=>(g<k0\/w.heap.size+2<=g)/\lv.ownBlock≠some g) t lv l
section
variable {er:Au} {k0:Nat} {cs0 cs1:Ay} {ct0 ct1:Av} {t:PT} {w W W':Aw} {lv:Ax} {l:Ae}
def ML.call(Q:ML er k0 cs0 ct0 cs1 ct1 t w lv l W)(hf:Fr W W' N_):ML er k0 cs0 ct0 cs1 ct1 t w lv l W':=
 ⟨Q.fr.trans hf u_,hf.bl Q.b0 id,hf.bl Q.b1 id,al_ Q.bB hf.size,Q.row.fr hf u_ u_⟩
def cq22_{p:Prop}(h:p:=by
 have j:=Q.bB;have m:(W.alloc o).heap.size=W.heap.size+1:=by simp
 (first|(have:=cc1)|(obtain⟨Y0,a,_⟩:=Q.row));have d:Fr W w5 (λg=>lv.ownBlock=some g):=((A_ W _).alloc o).gw hg (λk e _=>e);have i:∀g,lv.ownBlock=some g->w.heap.size+2<=g:=λg e=>(a.lt g e).1;(first|(have:=cc1;refine⟨Q.fr.trans d (λx hx e=>absurd (i x e) M_),d.bl Q.b0 (λe=>o1_ (i _ e)),d.bl Q.b1 (λe=>o1_ (i _ e)),al_ j d.size,_,by rw[ag_,ao_];exact ho,qe.growJ hY hd hk d ?_⟩)|(refine⟨Q.fr.trans d (λx hx e=>absurd (i x e) M_),d.bl Q.b0 (λe=>o1_ (i _ e)),d.bl Q.b1 (λe=>o1_ (i _ e)),al_ j d.size,jY.growJ hY hd d ?_ ho⟩));rcases hl with e|e
 .exact .inl e
 .exact .inr ⟨_,e,M_⟩):p:=h
def ML.item(Q:ML er k0 cs0 ct0 cs1 ct1 t w lv l W){o:Obj}{w5:Aw}{v5 v:Ax}{d:DT}{Y:Ai}(hY:∀i d,l[i]?=some d->DaV er W (λg=>(g<k0\/w.heap.size+2<=g)/\lv.ownBlock≠some g) d (yg er t 0 i) (Y i))(hd:DaV er W (λg=>(g<k0\/w.heap.size+2<=g)/\lv.ownBlock≠some g) d (yg er t 0 l.length) v)(hg:(W.alloc o).grownBy w5 lv.ownBlock)(ho:w5.ownsRow (w.heap.size+2) 52 1 v5 (l.length+1) (((List.range l.length).flatMap λi=>[Y i])++[v]))(hl:v5.ownBlock=lv.ownBlock\/v5.ownBlock=some (W.alloc o).heap.size):ML er k0 cs0 ct0 cs1 ct1 t w v5 (l++[d]) w5:=by
 exact cq22_
def ML.done(Q:ML er k0 cs0 ct0 cs1 ct1 t w lv l W){T:Av}(hc:(c=91/\T=144)\/(c=114/\T=152)):DaV er W (λg=>g<k0\/w.heap.size<=g) (.mk c 0 noB [] l) t (.iface T lv):=
 Q.row.dat (λg _ hg=>M_) (λg e=>by obtain⟨_,a,_⟩:=Q.row;have:=(a.lt g e).1;show g<k0\/w.heap.size<=g;omega) hc
end
def cwlE1_{p:Prop}(h:p:=by
 rw[hrd]at hC;(first|(have:=cc1;have hr:=zy (show vm R fr=none from gR hrd hmem.o))|(have hr:=zy (show vm R l0=none from gR hrd hmem.o)));replace hC:=zy hC;(first|(have:=cc2;clear hrow hY hrd)|(clear hrow hY hrd FA));go_wp2_with (first
  |((first|go_at_call 48|go_at_call 192);apply hC.o.mono;rintro e w1 ⟨v1,ev1,rfl,hf1,hv1,a⟩;subst hv1;obtain⟨j,j,rfl⟩:=a.iface;(first|(have:=cc1;have j:=(hf1.bl BE.o id).c1)|(have:=cc2;have j:=zy (hGd.o _ (hQ.o.fr.trans hf1 u_)))|(have j:=zy (hGd.o _ (hQa.o.fr.trans hf1 u_));have n0:=(hf1.bl BE.o id).c0));replace a:=zy a;replace hf1:=zy hf1)
  |((first|go_at_call 178|go_at_call 181|go_at_call 174);(first|(have:=cc1;apply(oJ hlet.o).mono)|(have:=cc2;apply(YB hI.o j.o M_).mono)|(apply(ni hI.o j.o hkz).mono));rintro e j r;have m:=zy (λv (he:e=.returned v)=>a.o.wrap r (hf1.o.size) he);obtain⟨a,a,rfl,a,a,k⟩:=r;replace k:=zy k;clear a))
 try go_ret
 rw[Q_.o,hr.o];(first|(have:=cc2;exact⟨_,_,rfl,(hQ.o.fr.trans hf1.o u_).trans k.o u_,rfl,(m.o _ rfl).ls hQ.o.fr.size⟩)|(exact⟨_,_,rfl,(hQa.o.fr.trans hf1.o u_).trans k.o u_,rfl,(m.o _ rfl).ls hQa.o.fr.size⟩))):p:=h
def lE{w:Aw}{k0:Nat}{sT rT:Av}{sx rx:Ax}{u u':PT}{p':Nat}{l0:Ae}{a:Ax}(F:MS w0 ds ds')(K:Xt w0 P Q s s' ds ds' sv sv' xs xs' k0 nt nx sT sx rT rx f)(M:MC w0 P Q s s' ds ds' sv sv' xs xs' k0 nt nx w)(ha:TyV w P u a)(hb:TyV w Q u' b)(L:okT (zx ds) u)(N:okT (zx ds') u')(fy:vq u')(ho:w.ownsRow 0 52 1 lv0 l0.length ((List.range l0.length).flatMap λi=>[Y0 i]))(hd:∀d∈l0,Dat (zx ds) d u)(hv:∀i d,l0[i]?=some d->DaV (zx ds) w (λg=>g<k0) d u (Y0 i))(h1:za l0<=299)(O:za l0<=f):Calls prog 189 #[.agg #[sv,.iface sT sx,sv',.iface rT rx],.agg #[a,b],lv0] w (ye (zx ds') (.wrap 91 p' u') k0 w nt nx ((vm (mkP (zx ds) (zx ds') (xD (zx ds') s') f u u') l0).map λl=>.mk 91 0 noB [] l)):=by
 obtain⟨a8,Q_⟩:=y_ (ye (zx ds') (.wrap 91 p' u') k0 w nt nx ((vm (mkP (zx ds) (zx ds') (xD (zx ds') s') f u u') l0).map λl=>.mk 91 0 noB [] l));rw[<- Q_.o];obtain⟨sa,sc,rfl⟩:=zw M.D.row;obtain⟨ra,rc,rfl⟩:=zw M.E.row;obtain⟨d9,e1,rfl⟩:=zw ho;obtain⟨aT,ax,rfl⟩:=ha.iface;obtain⟨bT,bx,rfl⟩:=hb.iface;have B:=zy (λW (j:Fr w W N_) i d v (hi:l0[i]?=some d) (a7:Y0 i=v)=>K W u u' d _ _ v (M.new j) (ha.fr j u_) (hb.fr j u_) L N fy (hd d (ai_ hi)) (a7▸(hv i d hi).fr j u_) (o1_ ((xJ hi).2)) (o1_ ((xJ hi).2)));have hGd:=zy (λW (j:Fr w W N_)=>(M.new j).G);have hI:=zy F.I;have hk0:=zy M.k;have b7:l0.length<=300:=by have:=xR l0;omega
 generalize U:mkP (zx ds) (zx ds') (xD (zx ds') s') f u u'=R at B Q_;obtain⟨wz,y⟩:=e_ ((w.alloc (.cells #[.slice sa ds.length sc,.iface sT sx,.slice ra ds'.length rc,.iface rT rx] 83)).alloc (.cells #[.iface aT ax,.iface bT bx] 282));have start:ML (zx ds') k0 [.slice sa ds.length sc,.iface sT sx,.slice ra ds'.length rc,.iface rT rx] 83 [.iface aT ax,.iface bT bx] 282 (.wrap 91 p' u') w (L_) [] wz:=by
  rw[y];refine⟨((A_ w N_).alloc _).alloc _,(B_ w #[.slice sa ds.length sc,.iface sT sx,.slice ra ds'.length rc,.iface rT rx] 83).alloc _,?_,by rw[zm,zm];omega,jY.nil _ _ _ _ _⟩;have h:=B_ (w.alloc (.cells #[.slice sa ds.length sc,.iface sT sx,.slice ra ds'.length rc,.iface rT rx] 83)) #[.iface aT ax,.iface bT bx] 282;rw[zm]at h;exact h
 have C:∀i d,(hi:l0[i]?=some d)->∃T x,Y0 i=.iface T x:=λi d hi=>(hv i d hi).iface;replace start:=zy start;replace y:=zy y;replace ho:=zy ho;replace C:=zy C;have hsub:∀i,yg (zx ds') (.wrap 91 p' u') 0 i=u':=λi=>rfl;generalize zx ds'=er at B Q_ start hsub;replace hsub:=zy hsub;go_in;go_wp2;rw[<- y.o];go_loopg [8,15] (l0.length+1) (λm v8 v W=>∃(q:Nat) (l:List DT),v=I_ q/\q<=l0.length/\l0.length+1-q<=m/\H_ (vm R (l0.take q)=some l)/\H_ (ML er k0 [.slice sa ds.length sc,.iface sT sx,.slice ra ds'.length rc,.iface rT rx] 83 [.iface aT ax,.iface bT bx] 282 (.wrap 91 p' u') w v8 l W));case atStart=>exact⟨0,[],rfl,am_ _,M_,zy rfl,zy start⟩
 case round=>
  obtain⟨q,l,rfl,hq,hm,hmp,hQ⟩:=hrel;have hll:l.length=q:=by have:=lI hmp;rw[b9_]at this;omega
  obtain⟨Y,hrow,hY⟩:=hQ.o.row;rw[hll]at hrow;obtain⟨la,lc,rfl⟩:=zw hrow;by_cases hlt:q<l0.length
  .have a3:(q:Int)<(l0.length:Int):=M_;have hdq:l0[q]?=some l0[q]:=aj_ hlt;generalize l0[q]=d at hdq;obtain⟨g,a9,X⟩:=zg ho M_;cases X;obtain⟨T,x,hx⟩:=C.o q d hdq;have e0:wr.cell? ⟨g,q,none⟩=some (.iface T x):=by
    rw[<- hx];exact qQ (zj ho hQ.o.fr u_) hlt
   obtain⟨d2,d6,d7,d8⟩:=hQ.o.b0.d4;have b8:=hQ.o.b1.c0;have b9:=hQ.o.b1.c1;have hC:=B.o wr hQ.o.fr q d _ hdq hx;have b6:=hQ.o.bB;have hmem:=zy (ai_ hdq);replace hdq:=zy hdq;cases hrd:R d with
   |none=>
    have cc2:=Nat;exact cwlE1_
   |some x1=>
    rw[hrd]at hC;have a4:=zy (show vm R (l0.take (q+1))=some (l++[x1]) by rw[a8_,hdq.o];exact gO hrd hmp);replace hC:=zy hC;replace hY:=zy hY;replace hrow:=zy hrow;obtain⟨ti,Z,a0,a1,a2⟩:=info_parts qP;go_wp2_with (first
     |(go_at_call 48;apply hC.o.mono;rintro e w1 ⟨v1,ev1,rfl,hf1,hv1,A⟩;subst hv1;obtain⟨dT,dx,rfl⟩:=A.iface;have r:=hQ.o.call hf1;have b5:=r.bB;have a6:=zy (zj hrow hf1 u_);have S:=zy (A.mono (Q:=λg=>(g<k0\/w.heap.size+2<=g)/\(Value.slice la q lc).ownBlock≠some g) (λg _ hg=>⟨M_,λe=>by have:=hrow.o.lt g e;have:=hk0.o;omega⟩));have V:=zy (λi d (e:l[i]?=some d)=>(hY.o i d e).fr hf1 u_);replace r:=zy r)
     |(at_builtin;go_must (refine wpList_append_own_at _ rfl _ _ 144 rfl (w.heap.size+2) 52 ti _ 1 16 sF Z a0 a1 a2 rfl D_ (.slice la q lc) q ((List.range q).flatMap λi=>[Y i]) rfl ?hown _ 1 1 [.iface dT dx] rfl rfl (zK _ #[.iface dT dx] _ _ ?nn) ?one ?b1 ?b2 ?b3 ?_)
       case hown=>exact World.ownsRow.alloc a6 _
       case nn=>simp
       case one=>simp[Value.oneCell']
       case b1=>unfold maxLen;omega
       case b2=>omega
       case b3=>simp;omega
       intro v5 w5 ho5 H a5 J
       have z:=r.o.item (d:=x1) V (by rw[hsub.o];exact S) H z9_ J
       obtain⟨g5,b4,rfl⟩:=zg ho5 M_
       replace z:=zy z))
    go_roundg (l0.length+1-(q+1));case measure=>omega
    case rel=>exact⟨q+1,l++[x1],by simp,hlt,l_,a4,z⟩
  .have a3:¬((q:Int)<(l0.length:Int)):=M_;have hr:=zy (show vm R l0=some l by have:=hmp.o;rwa[bc_ M_]at this);go_wp2;try go_ret
   rw[Q_.o,hr.o];exact⟨_,_,rfl,hQ.o.fr,rfl,hQ.o.done (.inl ⟨rfl,rfl⟩)⟩
structure MLm(er:Au)(k0:Nat)(cs0:Ay)(ct0:Av)(cs1:Ay)(ct1:Av)(t:PT)(w:Aw)(lv:Ax)(l:Ag)(W:Aw):Prop where
 fr:Fr w W N_
 b0:Blk W w.heap.size cs0 ct0
 b1:Blk W (w.heap.size+1) cs1 ct1
 bB:w.heap.size+2<=W.heap.size
 row:∃ys,W.ownsRow (w.heap.size+2) 201 2 lv l.length ys/\qe er W (λg=>(g<k0\/w.heap.size+2<=g)/\lv.ownBlock≠some g) t l ys
section
variable {er:Au} {k0:Nat} {cs0 cs1:Ay} {ct0 ct1:Av} {t:PT} {w W W':Aw} {lv:Ax} {l:Ag}
def MLm.call(Q:MLm er k0 cs0 ct0 cs1 ct1 t w lv l W)(hf:Fr W W' N_):MLm er k0 cs0 ct0 cs1 ct1 t w lv l W':=
 ⟨Q.fr.trans hf u_,hf.bl Q.b0 id,hf.bl Q.b1 id,al_ Q.bB hf.size,by obtain⟨ys,a,b⟩:=Q.row;exact⟨ys,zj a hf u_,b.fr hf u_⟩⟩
def MLm.item(Q:MLm er k0 cs0 ct0 cs1 ct1 t w lv l W){o:Obj}{w5:Aw}{v5 v:Ax}{d:DT}{key:BA}{ys:Ay}(a:W.ownsRow (w.heap.size+2) 201 2 lv l.length ys)(hY:qe er W (λg=>(g<k0\/w.heap.size+2<=g)/\lv.ownBlock≠some g) t l ys)(hk:key.size<=4000)(hd:DaV er W (λg=>(g<k0\/w.heap.size+2<=g)/\lv.ownBlock≠some g) d (yg er t 0 l.length) v)(hg:(W.alloc o).grownBy w5 lv.ownBlock)(ho:w5.ownsRow (w.heap.size+2) 201 2 v5 (l.length+1) (ys++[.string key,v]))(hl:v5.ownBlock=lv.ownBlock\/v5.ownBlock=some (W.alloc o).heap.size):MLm er k0 cs0 ct0 cs1 ct1 t w v5 (l++[(key,d)]) w5:=by
 have cc1:=Nat
 exact cq22_
def MLm.done(Q:MLm er k0 cs0 ct0 cs1 ct1 t w lv l W):DaV er W (λg=>g<k0\/w.heap.size<=g) (.mk 123 0 noB (l.map Prod.fst) (l.map Prod.snd)) t (.iface 147 lv):=by
 obtain⟨ys,a,b⟩:=Q.row;exact b.dat a (λg _ hg=>M_) (λg e=>by have:=(a.lt g e).1;show g<k0\/w.heap.size<=g;omega)
end
def cwdN1_{p:Prop}(h:p:=by
 rw[hrd]at hC
 first
  |have:=cc1
   have B:=zy (show vm R (fr.take (q+1))=some (l++[x1]) by rw[a8_,hdq.o];exact gO hrd hmp.o)
  |have B:=zy (show vm R (l0.take (q+1))=some ((l++[(key,x1)]).map Prod.snd)/\(l++[(key,x1)]).map Prod.fst=ks.take (q+1) by
    rw[a8_,hdq.o,a8_,hkq.o,bf_,bf_,hmp.o.2]
    exact⟨gO hrd hmp.o.1,rfl⟩)
 replace hC:=zy hC;(first|(have:=cc1;have m:=zy (λi d (e:l[i]?=some d)=>(hY i d e).fr FA u_))|(have m:=zy (hY.fr FA u_)));have r:=zy (zj hrow FA u_);(first|(have:=cc1;obtain⟨ti,v,x,y,z⟩:=info_parts qP)|(obtain⟨ti,v,x,y,z⟩:=info_parts bH));clear hrd hY hrow FA;go_wp2_with (first
  |((first|go_at_call 48|go_at_call 192);apply hC.o.mono;rintro e w1 ⟨v1,ev1,rfl,hf1,hv1,k⟩;subst hv1;obtain⟨dT,dx,rfl⟩:=k.iface;have a:=hQa.o.call hf1;have C:=a.bB;(first|(have:=cc1)|(have n0:=(hf1.bl BE.o id).c0));have D:=zy (zj r.o hf1 u_);have C:=zy (k.mono (Q:=λg=>(g<k0\/w.heap.size+2<=g)/\(Value.slice la q lc).ownBlock≠some g) (λg _ hg=>⟨o1_ hQa.o.bB,λe=>by have:=r.o.lt g e;have:=hk0.o;omega⟩));(first|(have:=cc1;have r:=zy (λi d (e:l[i]?=some d)=>(m.o i d e).fr hf1 u_))|(have r:=zy (m.o.fr hf1 u_)));replace a:=zy a;clear k hf1)
  |(at_builtin;go_must ((first|(have:=cc1;refine wpList_append_own_at _ rfl _ _ 152 rfl (w.heap.size+2) 52 ti _ 1 16 Zi v x y z rfl D_ (.slice la q lc) q ((List.range q).flatMap λi=>[Y i]) rfl ?hown _ 1 1 [.iface dT dx] rfl rfl (zK _ #[.iface dT dx] _ _ ?nn) ?one ?b1 ?b2 ?b3 ?_)|(refine wpList_append_own_at _ rfl _ _ 147 rfl (w.heap.size+2) 201 ti _ 2 32 lj v x y z rfl D_ (.slice la q lc) q ys rfl ?hown _ 1 1 [.string key,.iface dT dx] rfl rfl (zK _ #[.string key,.iface dT dx] _ _ ?nn) ?one ?b1 ?b2 ?b3 ?_)))
    case hown=>exact World.ownsRow.alloc D.o _
    case nn=>simp
    case one=>simp[Value.oneCell']
    case b1=>unfold maxLen;omega
    case b2=>omega
    case b3=>simp;omega
    intro k k ho5 u E A
    (first|(have:=cc1;have j:=a.o.item (d:=x1) r.o (by rw[hll,hgty.o];exact C.o) u z9_ A)|(have j:=a.o.item (d:=x1) (by rw[hll];exact D.o) r.o hkz (by rw[hsub.o];exact C.o) u z9_ A))
    obtain⟨a,a,rfl⟩:=zg ho5 M_
    clear u A E ho5
    replace j:=zy j))
 (first|(have:=cc1;go_roundg (fr.length+1-(q+1)))|(go_roundg (l0.length+1-(q+1))));case measure=>omega
 case rel=>(first|(have:=cc1;exact⟨q+1,l++[x1],by simp,hlt,l_,B,j⟩)|(exact⟨q+1,l++[(key,x1)],by simp,hlt,l_,B,j⟩))):p:=h
def dN{w:Aw}{k0:Nat}{sT rT:Av}{sx rx:Ax}{u u':PT}{p':Nat}{l0:Ae}{ks:Dq}{a:Ax}(B:MS w0 ds ds')(C:Xt w0 P Q s s' ds ds' sv sv' xs xs' k0 nt nx sT sx rT rx f)(M:MC w0 P Q s s' ds ds' sv sv' xs xs' k0 nt nx w)(ha:TyV w P u a)(hb:TyV w Q u' b)(F:okT (zx ds) u)(H:okT (zx ds') u')(fy:vq u')(j:ks.length=l0.length)(A:∀k∈ks,k.size<=4000)(ho:w.ownsRow 0 201 2 lv0 l0.length ((List.range l0.length).flatMap λi=>[.string (ks.getD i noB),Y0 i]))(hd:∀d∈l0,Dat (zx ds) d u)(hv:∀i d,l0[i]?=some d->DaV (zx ds) w (λg=>g<k0) d u (Y0 i))(h1:za l0<=299)(J:za l0<=f):Calls prog 190 #[.agg #[sv,.iface sT sx,sv',.iface rT rx],.agg #[a,b],lv0] w (ye (zx ds') (.wrap 123 p' u') k0 w nt nx ((vm (mkP (zx ds) (zx ds') (xD (zx ds') s') f u u') l0).map λl=>.mk 123 0 noB ks l)):=by
 obtain⟨j,Q_⟩:=y_ (ye (zx ds') (.wrap 123 p' u') k0 w nt nx ((vm (mkP (zx ds) (zx ds') (xD (zx ds') s') f u u') l0).map λl=>.mk 123 0 noB ks l));rw[<- Q_.o];obtain⟨sa,sc,rfl⟩:=zw M.D.row;obtain⟨ra,rc,rfl⟩:=zw M.E.row;obtain⟨j,j,rfl⟩:=zw ho;obtain⟨aT,ax,rfl⟩:=ha.iface;obtain⟨bT,bx,rfl⟩:=hb.iface;have y:=zy (λW (j:Fr w W N_) i d v (hi:l0[i]?=some d) (O:Y0 i=v)=>C W u u' d _ _ v (M.new j) (ha.fr j u_) (hb.fr j u_) F H fy (hd d (ai_ hi)) (O▸(hv i d hi).fr j u_) (o1_ ((xJ hi).2)) (o1_ ((xJ hi).2)));have hGd:=zy (λW (j:Fr w W N_)=>(M.new j).G);have hI:=zy B.K;have hk0:=zy M.k;have j:l0.length<=300:=by have:=xR l0;omega
 generalize L:mkP (zx ds) (zx ds') (xD (zx ds') s') f u u'=R at y Q_;obtain⟨S,r⟩:=e_ ((w.alloc (.cells #[.slice sa ds.length sc,.iface sT sx,.slice ra ds'.length rc,.iface rT rx] 83)).alloc (.cells #[.iface aT ax,.iface bT bx] 282));have start:MLm (zx ds') k0 [.slice sa ds.length sc,.iface sT sx,.slice ra ds'.length rc,.iface rT rx] 83 [.iface aT ax,.iface bT bx] 282 (.wrap 123 p' u') w (L_) [] S:=by
  rw[r];refine⟨((A_ w N_).alloc _).alloc _,(B_ w #[.slice sa ds.length sc,.iface sT sx,.slice ra ds'.length rc,.iface rT rx] 83).alloc _,?_,by rw[zm,zm];omega,[],World.ownsRow_nil _ _ _ _,qe.nil _ _ _ _⟩;have h:=B_ (w.alloc (.cells #[.slice sa ds.length sc,.iface sT sx,.slice ra ds'.length rc,.iface rT rx] 83)) #[.iface aT ax,.iface bT bx] 282;rw[zm]at h;exact h
 have z:∀i d,(hi:l0[i]?=some d)->∃T x,Y0 i=.iface T x:=λi d hi=>(hv i d hi).iface;replace start:=zy start;replace r:=zy r;replace ho:=zy ho;replace z:=zy z;replace A:=zy A;have hsub:∀i,yg (zx ds') (.wrap 123 p' u') 0 i=u':=λi=>rfl;generalize zx ds'=er at y Q_ start hsub;replace hsub:=zy hsub;go_in;go_wp2;rw[<- r.o];go_loopg [8,15] (l0.length+1) (λm j v W=>∃(q:Nat) (l:List (BA×DT)),v=I_ q/\q<=l0.length/\l0.length+1-q<=m/\H_ (vm R (l0.take q)=some (l.map Prod.snd)/\l.map Prod.fst=ks.take q)/\H_ (MLm er k0 [.slice sa ds.length sc,.iface sT sx,.slice ra ds'.length rc,.iface rT rx] 83 [.iface aT ax,.iface bT bx] 282 (.wrap 123 p' u') w j l W));case atStart=>exact⟨0,[],rfl,am_ _,M_,zy ⟨rfl,rfl⟩,zy start⟩
 case round=>
  obtain⟨q,l,rfl,j,hm,hmp,hQ⟩:=hrel;have hll:l.length=q:=by have:=lI hmp.o.1;rw[b9_,bu_]at this;omega
  obtain⟨ys,hrow,hY⟩:=hQ.o.row;rw[hll]at hrow;obtain⟨la,lc,rfl⟩:=zw hrow;by_cases hlt:q<l0.length
  .have N:(q:Int)<(l0.length:Int):=M_;have hdq:l0[q]?=some l0[q]:=aj_ hlt;generalize l0[q]=d at hdq;obtain⟨g,j,j⟩:=zg ho M_;cases j;obtain⟨T,x,hx⟩:=z.o q d hdq;obtain⟨I,j⟩:=bQ (K:=λi=>ks.getD i noB) (zj ho hQ.o.fr u_) hlt;rw[hx]at j;have hkq:ks[q]?=some (ks.getD q noB):=by rw[as_,aj_ M_];rfl
   have hkz:=A.o _ (ai_ hkq);generalize ks.getD q noB=key at I hkq hkz;have FA:=(A_ wr N_).alloc (.cells #[.string key,.iface T x] 201);have BE:=zy (B_ wr #[.string key,.iface T x] 201);have hQa:=zy (hQ.o.call FA);obtain⟨j,j,j,j⟩:=hQa.o.b0.d4;have j:=hQa.o.b1.c0;have j:=hQa.o.b1.c1;have hC:=y.o _ (hQ.o.fr.trans FA u_) q d _ hdq hx;have j:=hQ.o.bB;have hmem:=zy (ai_ hdq);replace hdq:=zy hdq;replace hkq:=zy hkq;cases hrd:R d with
   |none=>
    exact cwlE1_
   |some x1=>
    exact cwdN1_
  .have N:¬((q:Int)<(l0.length:Int)):=M_;have hr:=zy (show vm R l0=some (l.map Prod.snd)/\l.map Prod.fst=ks by have:=hmp.o;rw[bc_ M_,bc_ M_]at this;exact this);go_wp2;try go_ret
   rw[Q_.o,hr.o.1];refine⟨_,_,rfl,hQ.o.fr,rfl,?_⟩;have:=hQ.o.done;rw[hr.o.2]at this;exact this
def XT:∀{fw:List PF}{c i:Nat},vV fw c=some i->∃h,fw[i]?=some h
 | [],c,i,h=>by simp[vV]at h
 |f::fw,c,i,h=>by
  unfold vV at h;rw[a0_,List.findIdx?_cons]at h;split at h
  .simp only[af_]at h;subst h;exact⟨f,rfl⟩
  .cases a:(fw.map PF.letter).findIdx? (λx=>x==c) with
   |none=>rw[a]at h;cases h
   |some q=>
    rw[a]at h;simp only[by_,af_]at h;subst h;obtain⟨h,d⟩:=XT (fw:=fw) a;exact⟨h,by simpa using d⟩
def DvM(k0:Nat)(w:Aw)(er:Au)(s:BA)(g:PF)(dv:Ax):Prop:=
 match g.dflt with
 |none=>dv=.pointer none
 |some (a,e)=>∃gb x d,dv=P_ gb/\Blk w gb [I_ a,.string (s.extract a e),x] 198/\ym er true g.ty (s.extract a e)=some d/\DaV er w (λb=>b<k0) d g.ty x
def DvM.fr{k0:Nat}{w w':Aw}{er:Au}{g:PF}{dv:Ax}(h:DvM k0 w er s g dv)(hf:Fr w w' N_):DvM k0 w' er s g dv:=by
 unfold DvM at h⊢;split
 .rename_i hd;rw[hd]at h;exact h
 .rename_i hd;rw[hd]at h;obtain⟨a,x,d,h1,e,i,j⟩:=h;exact⟨a,x,d,h1,hf.bl e id,i,j.fr hf u_⟩
def MC.dvm{w:Aw}{k0:Nat}(M:MC w0 P Q s s' ds ds' sv sv' xs xs' k0 nt nx w){fr:An}{q:Nat}{rv:Ax}(hz:ZV ds' xs' (.recd fr) (.iface 231 (.agg #[I_ q,rv])))(ho:w.ownsRow 0 194 4 rv fr.length zs)(z:xG w Q s' fr zs):∀i g dd,fr[i]?=some g->zs[4*i+3]?=some dd->DvM k0 w (zx ds') s' g dd:=λi g dd hi o=>by
 obtain⟨blk,h1,C,u⟩:=M.F;obtain⟨k,d,hk,hb,hx⟩:=hz;have v:=h1 k d q fr rv zs hk hb hx ho i g dd hi o;have hm:g∈zk ds':=by
  unfold zk;refine cd_.2 ⟨d,ai_ hk,?_⟩;rw[hb];exact ai_ hi
 unfold DvM;split
 .rename_i h;obtain⟨a,b,c,j,D,E,q3,r,y⟩:=z i g hi;have m:=y.2.2.2;rw[h]at m;rw[o]at r;cases r;exact m
 .rename_i a e h;obtain⟨x,j,r1,A,B⟩:=u g hm a e h;exact⟨blk a,x,j,v a e h,A,r1,B⟩
def dS{w:Aw}{k0:Nat}{sT rT:Av}{sx rx:Ax}{fw:An}{g:PF}{dl:Ae}{a5:Ax}{pl:Nat}{I:Av}{tx:Ax}{F:Am}(ih:Xt w0 P Q s s' ds ds' sv sv' xs xs' k0 nt nx sT sx rT rx f)(M:MC w0 P Q s s' ds ds' sv sv' xs xs' k0 nt nx w)(K:xh w P s fw a5 zs)(hl:fw.length<=300)(b6:dl.length=fw.length)(ht:TyV w Q g.ty (.iface I tx))(H:DvM k0 w (zx ds') s' g (.pointer F))(a3:∀h∈fw,okT (zx ds) h.ty)(a4:okT (zx ds') g.ty)(fy:vq g.ty)(ho:w.ownsRow 0 52 1 lv0 dl.length ((List.range dl.length).flatMap λi=>[Y0 i]))(hd:∀(i:Nat) (d:DT) (h:PF),dl[i]?=some d->fw[i]?=some h->Dat (zx ds) d h.ty/\DaV (zx ds) w (λg=>g<k0) d h.ty (Y0 i))(h1:za dl<=299)(h2:za dl<=f):Calls prog 192 #[.agg #[sv,.iface sT sx,sv',.iface rT rx],.agg #[Z_ p,a5],.agg #[I_ pl,U_ g.letter,.iface I tx,.pointer F],lv0] w (ye (zx ds') g.ty k0 w nt nx (mkF (mkP (zx ds) (zx ds') (xD (zx ds') s') f) (xD (zx ds') s') fw dl g)):=by
 obtain⟨b5,y⟩:=y_ (ye (zx ds') g.ty k0 w nt nx (mkF (mkP (zx ds) (zx ds') (xD (zx ds') s') f) (xD (zx ds') s') fw dl g));rw[<- y.o];obtain⟨sa,sc,rfl⟩:=zw M.D.row;obtain⟨ra,rc,rfl⟩:=zw M.E.row;obtain⟨b7,b8,rfl⟩:=zw ho;obtain⟨G,S,rfl⟩:=zw K.row;have L:=zy (λW (j:Fr w W N_)=>eH (p:=p) (c:=g.letter) (K.fr j u_) hl);obtain⟨V,hwz⟩:=e_ (((w.alloc (.cells #[.slice sa ds.length sc,.iface sT sx,.slice ra ds'.length rc,.iface rT rx] 83)).alloc (.cells #[Z_ p,.slice G fw.length S] 231)).alloc (.cells #[I_ pl,U_ g.letter,.iface I tx,.pointer F] 194));have r:Fr w V N_:=xk_
 have J:Blk V w.heap.size [.slice sa ds.length sc,.iface sT sx,.slice ra ds'.length rc,.iface rT rx] 83:=by
  rw[hwz];exact((B_ w #[.slice sa ds.length sc,.iface sT sx,.slice ra ds'.length rc,.iface rT rx] 83).alloc _).alloc _
 have X:Blk V (w.heap.size+1) [Z_ p,.slice G fw.length S] 231:=by
  rw[hwz];have h:=(B_ (w.alloc (.cells #[.slice sa ds.length sc,.iface sT sx,.slice ra ds'.length rc,.iface rT rx] 83)) #[Z_ p,.slice G fw.length S] 231).alloc (.cells #[I_ pl,U_ g.letter,.iface I tx,.pointer F] 194);rw[zm]at h;exact h
 have B:Blk V (w.heap.size+1+1) [I_ pl,U_ g.letter,.iface I tx,.pointer F] 194:=by
  rw[hwz];have h:=B_ ((w.alloc (.cells #[.slice sa ds.length sc,.iface sT sx,.slice ra ds'.length rc,.iface rT rx] 83)).alloc (.cells #[Z_ p,.slice G fw.length S] 231)) #[I_ pl,U_ g.letter,.iface I tx,.pointer F] 194;rw[zm,zm]at h;exact h
 have Z:=zy (λW (j:Fr w W N_)=>(M.new j).err);cases u:vV fw g.letter with
 |some i=>
  obtain⟨h,O⟩:=XT u;have G:i<fw.length:=(ak_.1 O).1;obtain⟨d,T⟩:∃d,dl[i]?=some d:=⟨_,aj_ M_⟩;obtain⟨e1,Y⟩:=hd i d h T O;have U:mkF (mkP (zx ds) (zx ds') (xD (zx ds') s') f) (xD (zx ds') s') fw dl g=mkP (zx ds) (zx ds') (xD (zx ds') s') f h.ty g.ty d:=by
   unfold mkF;rw[u];simp only[O,T]
  rw[U]at y;obtain⟨G,cf,a9⟩:=zg K.row M_;cases a9;obtain⟨gr,cr,b4⟩:=zg ho M_;cases b4;obtain⟨uT,ux,dq,_,_,a1,_,a7,_⟩:=K.cells O;obtain⟨vT,vx,a2⟩:=Y.iface;have hu:=zy (λW (j:Fr w W N_)=>show W.cell? ⟨G,i*4+2,none⟩=some (.iface uT ux) from by
   have e:W.cell? ⟨G,i*4+2,none⟩=w.cell? ⟨G,i*4+2,none⟩:=World.cell?_of_block (a:=⟨G,i*4+2,none⟩) (j.block G (World.block_lt_of_cell? w ⟨G,i*4+2,none⟩ a1) id)
   rw[e,a1])
  have hr:=zy (λW (j:Fr w W N_)=>show W.cell? ⟨gr,i,none⟩=some (.iface vT vx) from by
   rw[<- a2]
   exact qQ (zj ho j u_) M_)
  have N:=λW (j:Fr w W N_)=>(ih W h.ty g.ty d _ _ _ (M.new j) (a7.fr j u_) (ht.fr j u_) (a3 h (ai_ O)) a4 fy e1 (Y.fr j u_) (o1_ ((xJ T).2)) (o1_ ((xJ T).2))).mono (λe w' q=>And.intro (ye.two j q).1 (ye.two j q).2.tup);rw[a2]at N;replace N:=zy N;obtain⟨CL,m⟩:∃C:World->Prop,C=λW=>W.cell? ⟨w.heap.size,0,none⟩=some (.slice sa ds.length sc)/\W.cell? ⟨w.heap.size,1,none⟩=some (.iface sT sx)/\W.cell? ⟨w.heap.size,2,none⟩=some (.slice ra ds'.length rc)/\W.cell? ⟨w.heap.size,3,none⟩=some (.iface rT rx)/\W.cell? ⟨w.heap.size+1,1,none⟩=some (S_ G fw.length S)/\W.cell? ⟨w.heap.size+1+1,2,none⟩=some (.iface I tx)/\W.cell? ⟨G,i*4+2,none⟩=some (.iface uT ux)/\W.cell? ⟨gr,i,none⟩=some (.iface vT vx):=⟨_,rfl⟩;have hC:=zy (λW (j:Fr V W N_)=>show CL W by
   rw[m]
   exact⟨(j.bl J id).cell 0,(j.bl J id).cell 1,(j.bl J id).cell 2,(j.bl J id).cell 3,(j.bl X id).cell 1,(j.bl B id).cell 2,hu.o W (r.trans j u_),hr.o W (r.trans j u_)⟩)
  have G:(i:Int)<(fw.length:Int):=M_;have G:(i:Int)<(dl.length:Int):=M_;have G:¬((i:Int)<0):=M_;replace u:=zy u;replace r:=zy r;replace hwz:=zy hwz;replace m:=zy m;generalize mkP (zx ds) (zx ds') (xD (zx ds') s') f h.ty g.ty d=o at N y;generalize g.letter=gl at L hwz u⊢;generalize g.ty=gt at N y;go_in;go_wp2_with (go_at_call 213;rw[<- hwz.o];apply(L.o _ r).mono;rintro e w1 ⟨rfl,A⟩;rw[u.o];simp only[gv,b6_,Option.isSome_some];have z:=zy A);refine tR_ CL ?_;refine zc 0 ?v0 rfl K_ (λ_ _ _ h=>h) K_ ?yv0 ?_;case yv0=>(intro W h;rw[m.o]at h;obtain⟨c0,c1,c2,c3,c4,c5,c6,c7⟩:=h;go_simp<;>rfl)
  refine zc 1 ?v1 rfl K_ (λ_ _ _ h=>h) K_ ?yv1 ?_;case yv1=>(intro W h;rw[m.o]at h;obtain⟨c0,c1,c2,c3,c4,c5,c6,c7⟩:=h;go_simp<;>rfl)
  refine zc 2 ?v2 rfl K_ (λ_ _ _ h=>h) K_ ?yv2 ?_;case yv2=>(intro W h;rw[m.o]at h;obtain⟨c0,c1,c2,c3,c4,c5,c6,c7⟩:=h;go_simp<;>rfl)
  refine zc 3 ?v3 rfl K_ (λ_ _ _ h=>h) K_ ?yv3 ?_;case yv3=>(intro W h;rw[m.o]at h;obtain⟨c0,c1,c2,c3,c4,c5,c6,c7⟩:=h;go_simp<;>rfl)
  refine zc 4 ?v4 rfl K_ (λ_ _ _ h=>h) K_ ?yv4 ?_;case yv4=>(intro W h;rw[m.o]at h;obtain⟨c0,c1,c2,c3,c4,c5,c6,c7⟩:=h;go_simp<;>rfl)
  refine zc 5 ?v5 rfl K_ (λ_ _ _ h=>h) K_ ?yv5 ?_;case yv5=>(intro W h;rw[m.o]at h;obtain⟨c0,c1,c2,c3,c4,c5,c6,c7⟩:=h;go_simp<;>rfl)
  refine zc 6 ?v6 rfl K_ (λ_ _ _ h=>h) K_ ?yv6 ?_;case yv6=>(intro W h;rw[m.o]at h;obtain⟨c0,c1,c2,c3,c4,c5,c6,c7⟩:=h;go_simp<;>rfl)
  refine zc 7 ?v7 rfl K_ (λ_ _ _ h=>h) K_ ?yv7 ?_;case yv7=>(intro W h;rw[m.o]at h;obtain⟨c0,c1,c2,c3,c4,c5,c6,c7⟩:=h;go_simp<;>rfl)
  refine zc 8 ?v8 rfl K_ (λ_ _ _ h=>h) K_ ?yv8 ?_;case yv8=>(intro W h;rw[m.o]at h;obtain⟨c0,c1,c2,c3,c4,c5,c6,c7⟩:=h;go_simp<;>rfl)
  refine zc 9 ?v9 rfl K_ (λ_ _ _ h=>h) K_ ?yv9 ?_;case yv9=>(intro W h;rw[m.o]at h;obtain⟨c0,c1,c2,c3,c4,c5,c6,c7⟩:=h;go_simp<;>rfl)
  refine zc 10 ?v10 rfl K_ (λ_ _ _ h=>h) K_ ?yv10 ?_;case yv10=>(intro W h;rw[m.o]at h;obtain⟨c0,c1,c2,c3,c4,c5,c6,c7⟩:=h;go_simp<;>rfl)
  refine zc 11 ?v11 rfl K_ (λ_ _ _ h=>h) K_ ?yv11 ?_;case yv11=>(intro W h;rw[m.o]at h;obtain⟨c0,c1,c2,c3,c4,c5,c6,c7⟩:=h;go_simp<;>rfl)
  refine zc 12 ?v12 rfl K_ (λ_ _ _ h=>h) K_ ?yv12 ?_;case yv12=>(intro W h;rw[m.o]at h;obtain⟨c0,c1,c2,c3,c4,c5,c6,c7⟩:=h;go_simp<;>rfl)
  refine zJ 13 rfl K_ (hC.o _ z.o.drew) (λK1 a6=>?_);go_simp;apply(N.o _ (r.o.trans z.o.drew u_)).mono;rintro e m ⟨a0,v2,a8,rfl,m⟩;replace a0:=zy a0;replace m:=zy m;refine a6 _ _ ?_;refine tY_ 14 ?_;refine tY_ 15 ?_;refine tY_ 16 ?_;refine tY_ 17 ?_;refine yq K_ ?cl ?_ _;case cl=>exact hC.o _ (z.o.drew.trans (a0) u_)
  go_wp2;refine bodyPost_ret (v:=.tuple #[v2,a8]) (by simp[results,results192,go_sem];try rfl) rfl ?_;rw[y.o];exact m
 |none=>
  have U:mkF (mkP (zx ds) (zx ds') (xD (zx ds') s') f) (xD (zx ds') s') fw dl g=xD (zx ds') s' g:=by
   unfold mkF;rw[u]
  rw[U]at y;replace u:=zy u;replace B:=zy B;cases m:g.dflt with
  |none=>
   rw[show xD (zx ds') s' g=none by unfold xD;rw[m]]at y;unfold DvM at H;rw[m]at H;obtain rfl:F=none:=by simpa using H
   replace r:=zy r;replace hwz:=zy hwz;generalize g.letter=gl at L hwz u B⊢;generalize g.ty=gt at y;go_in;go_wp2_with (go_at_call 213;rw[<- hwz.o];apply(L.o _ r).mono;rintro e w1 ⟨rfl,A⟩;rw[u.o];simp only[gv,Option.getD_none,cc_];have Y:=(A.bl B id).c3;have z:=zy (r.o.trans A u_);have G:=Z.o w1 z);go_quiet (fail);go_wp2;try go_ret
   rw[y.o];exact⟨_,_,rfl,z.o.si (zq.drewN _ _),rfl,.base⟩
  |some ae=>
   obtain⟨a,e⟩:=ae;unfold DvM at H;rw[m]at H;obtain⟨G,x,d,O,hb,T,hx⟩:=H;obtain rfl:F=some ⟨G,0,none⟩:=by simpa using O
   rw[show xD (zx ds') s' g=some d by unfold xD;rw[m];exact T]at y;obtain⟨F,F,rfl⟩:=hx.iface;have N:=zy (λW (j:Fr w W N_)=>hx.fr j u_);have hk:=M.k;replace hb:=zy hb;replace r:=zy r;replace hwz:=zy hwz;generalize g.letter=gl at L hwz u B⊢;generalize g.ty=gt at y N;go_in;go_wp2_with (go_at_call 213;rw[<- hwz.o];apply(L.o _ r).mono;rintro e w1 ⟨rfl,A⟩;rw[u.o];simp only[gv,Option.getD_none,cc_];have Y:=(A.bl B id).c3;have z:=zy (r.o.trans A u_);have j:=(z.o.bl hb id).c2);try go_ret
   rw[y.o];exact⟨_,_,rfl,z,rfl,(N.o _ z).mono (λb _ hb=>.inl hb)⟩
def uM{w:Aw}{k0:Nat}{sT rT:Av}{sx rx:Ax}{fw fr:An}{pr:Nat}{dl:Ae}{y:Ay}{U S:Ax}{p2:Int}(ih:Xt w0 P Q s s' ds ds' sv sv' xs xs' k0 nt nx sT sx rT rx f)(M:MC w0 P Q s s' ds ds' sv sv' xs xs' k0 nt nx w)(L:xh w P s fw U zs)(G:xh w Q s' fr S y)(hl:fw.length<=300)(a7:fr.length<=300)(Z:dl.length=fw.length)(a1:zx ds' c=some (.recd fr))(O:∀g∈fr,zl g.letter=true)(a0:∀i g dd,fr[i]?=some g->y[4*i+3]?=some dd->DvM k0 w (zx ds') s' g dd)(a3:∀h∈fw,okT (zx ds) h.ty)(a4:∀g∈fr,okT (zx ds') g.ty)(fy:∀g∈fr,vq g.ty)(ho:w.ownsRow 0 52 1 lv0 dl.length ((List.range dl.length).flatMap λi=>[Y0 i]))(hd:∀(i:Nat) (d:DT) (h:PF),dl[i]?=some d->fw[i]?=some h->Dat (zx ds) d h.ty/\DaV (zx ds) w (λg=>g<k0) d h.ty (Y0 i))(h1:za dl<=299)(X:za dl<=f):Calls prog 143 #[.agg #[sv,.iface sT sx,sv',.iface rT rx],.agg #[Z_ p,U,Z_ p2,S],.iface 152 lv0] w (ye (zx ds') (.leaf c pr) k0 w nt nx ((vm (mkF (mkP (zx ds) (zx ds') (xD (zx ds') s') f) (xD (zx ds') s') fw dl) fr).map λl=>.mk 114 0 noB [] l)):=by
 obtain⟨S,Q_⟩:=y_ (ye (zx ds') (.leaf c pr) k0 w nt nx ((vm (mkF (mkP (zx ds) (zx ds') (xD (zx ds') s') f) (xD (zx ds') s') fw dl) fr).map λl=>.mk 114 0 noB [] l));rw[<- Q_.o];have N:=zy (λW (u:Fr w W N_) i (g:PF) pl T x j (hi:fr[i]?=some g) (r:TyV W Q g.ty (.iface T x)) (hz:y[4*i+3]?=some (.pointer j))=>dS (p:=p) (pl:=pl) ih (M.new u) (L.fr u u_) hl Z r ((a0 i g _ hi hz).fr u) a3 (a4 g (ai_ hi)) (fy g (ai_ hi)) (zj ho u u_) (λi d h a b=>⟨(hd i d h a b).1,(hd i d h a b).2.fr u u_⟩) h1 X);have hk0:=zy M.k;have a5:=zy (λW (u:Fr w W N_) i (g:PF) (hi:fr[i]?=some g)=>show ∃T x j,TyV W Q g.ty (.iface T x)/\y[4*i]?=some (I_ g.place)/\y[4*i+1]?=some (U_ g.letter)/\y[4*i+2]?=some (.iface T x)/\y[4*i+3]?=some (.pointer j) from by
  obtain⟨a,b,y,d,I,J,q3,q4,rfl,rfl,r,F⟩:=G.V i g hi
  obtain⟨T,x,rfl⟩:=r.iface
  obtain⟨K,rfl⟩:∃K,d=.pointer K:=by
   unfold DfV at F
   split at F
   .exact⟨_,F⟩
   .obtain⟨g',y,_,e,_⟩:=F;exact⟨_,e⟩
  exact⟨T,x,K,r.fr u u_,I,J,q3,q4⟩)
 have a2:=zy G.row;obtain⟨sa,sc,rfl⟩:=zw M.D.row;obtain⟨ra,rc,rfl⟩:=zw M.E.row;obtain⟨u,u,rfl⟩:=zw ho;obtain⟨z,A,rfl⟩:=zw L.row;obtain⟨B,C,rfl⟩:=zw G.row;generalize hR:mkF (mkP (zx ds) (zx ds') (xD (zx ds') s') f) (xD (zx ds') s') fw dl=R at N Q_;obtain⟨wz,H⟩:=e_ ((w.alloc (.cells #[.slice sa ds.length sc,.iface sT sx,.slice ra ds'.length rc,.iface rT rx] 83)).alloc (.cells #[Z_ p,.slice z fw.length A,Z_ p2,.slice B fr.length C] 288));have start:ML (zx ds') k0 [.slice sa ds.length sc,.iface sT sx,.slice ra ds'.length rc,.iface rT rx] 83 [Z_ p,.slice z fw.length A,Z_ p2,.slice B fr.length C] 288 (.leaf c pr) w (L_) [] wz:=by
  rw[H];refine⟨((A_ w N_).alloc _).alloc _,(B_ w #[.slice sa ds.length sc,.iface sT sx,.slice ra ds'.length rc,.iface rT rx] 83).alloc _,?_,by rw[zm,zm];omega,jY.nil _ _ _ _ _⟩;have h:=B_ (w.alloc (.cells #[.slice sa ds.length sc,.iface sT sx,.slice ra ds'.length rc,.iface rT rx] 83)) #[Z_ p,.slice z fw.length A,Z_ p2,.slice B fr.length C] 288;rw[zm]at h;exact h
 have hsub:∀i g,fr[i]?=some g->yg (zx ds') (.leaf c pr) 0 i=g.ty:=λi g hi=>by
  simp only[yg,a1,as_,ax_,hi,by_,b6_]
 replace start:=zy start;replace H:=zy H;replace hsub:=zy hsub;replace O:=zy O;clear ih M L G a3 a4 fy hd a0 h1 X hR ho a1 Z;generalize zx ds'=er at N Q_ start hsub;go_in;go_wp2;rw[<- H.o];go_loopg [10,27] (fr.length+1) (λm u v W=>∃(q:Nat) (l:List DT),v=I_ q/\q<=fr.length/\fr.length+1-q<=m/\H_ (vm R (fr.take q)=some l)/\H_ (ML er k0 [.slice sa ds.length sc,.iface sT sx,.slice ra ds'.length rc,.iface rT rx] 83 [Z_ p,.slice z fw.length A,Z_ p2,.slice B fr.length C] 288 (.leaf c pr) w u l W));case atStart=>exact⟨0,[],rfl,am_ _,M_,zy rfl,zy start⟩
 case round=>
  clear start;obtain⟨q,l,rfl,u,hm,hmp,hQ⟩:=hrel;have hll:l.length=q:=by have:=lI hmp;rw[b9_]at this;omega
  obtain⟨Y,hrow,hY⟩:=hQ.o.row;rw[hll]at hrow;obtain⟨la,lc,rfl⟩:=zw hrow;by_cases hlt:q<fr.length
  .have a6:(q:Int)<(fr.length:Int):=M_;have hdq:fr[q]?=some fr[q]:=aj_ hlt;generalize fr[q]=g at hdq;obtain⟨u,u,u⟩:=zg a2 M_;cases u;obtain⟨T,x,j,r,y,I,J,q3⟩:=a5.o wr hQ.o.fr q g hdq;have u:=zj a2 hQ.o.fr u_;have r0:=zr u rfl y;have r1:=zr u rfl I;have z:=zr u rfl J;have A:=zr u rfl q3;rw[bh_]at r0 r1 z A;have hlet:=O.o g (ai_ hdq);have hgty:=hsub.o q g hdq;have FA:=(A_ wr N_).alloc (.cells #[I_ g.place,U_ g.letter,.iface T x,.pointer j] 194);have BE:=zy (B_ wr #[I_ g.place,U_ g.letter,.iface T x,.pointer j] 194);have hQa:=zy (hQ.o.call FA);obtain⟨z,z,z,z⟩:=hQa.o.b0.d4;obtain⟨z,z,z,z⟩:=hQa.o.b1.d4;have hC:=N.o _ (hQ.o.fr.trans FA u_) q g g.place T x j hdq (r.fr FA u_) q3;have j:=hQ.o.bB;have hmem:=zy (ai_ hdq);replace hdq:=zy hdq;replace hgty:=zy hgty;replace hlet:=zy hlet;clear u r y I J q3;cases hrd:R g with
   |none=>
    have cc1:=Nat;exact cwlE1_
   |some x1=>
    have cc1:=Nat;exact cwdN1_
  .have a6:¬((q:Int)<(fr.length:Int)):=M_;have hr:=zy (show vm R fr=some l by have:=hmp.o;rwa[bc_ M_]at this);clear hrow hY hmp;go_wp2;try go_ret
   rw[Q_.o,hr.o];exact⟨_,_,rfl,hQ.o.fr,rfl,hQ.o.done (.inr ⟨rfl,rfl⟩)⟩
def uB{w:Aw}{er:Au}{k0:Nat}{lr:As}{o:Ac}{pr l:Nat}{p2:Int}{fa:Am}{fn fc:Nat}{a:Am}{rv u:Ax}(r:w.cell? ⟨6,0,none⟩=some (.iface nt nx))(ho:w.ownsRow 0 191 2 rv lr.length (zE lr))(hu:qb w Q o u)(hl:lr.length<=300)(B:er c=some (.enum lr o))(C:∀q∈lr,zl q.1=true):Calls prog 142 #[.agg #[Z_ p,.slice fa fn fc,.pointer a,Z_ p2,rv,u],.iface 154 (.agg #[U_ l,I_ n])] w (ye er (.leaf c pr) k0 w nt nx ((qh lr o l).map λ(q:Nat)=>DT.mk 101 (q:Int) noB [] [])):=by
 obtain⟨O,m⟩:=y_ (ye er (.leaf c pr) k0 w nt nx ((qh lr o l).map λ(q:Nat)=>DT.mk 101 (q:Int) noB [] []));rw[<- m.o];obtain⟨ra,rc,rfl⟩:=zw ho;obtain⟨E,rfl⟩:=hu.ptr;have v:=zy (λW (i:Fr w W N_)=>rl (p:=p2) (c:=l) (zj ho i u_) (hu.fr i u_) hl);obtain⟨G,hwz⟩:=e_ ((w.alloc (.cells #[Z_ p,.slice fa fn fc,.pointer a,Z_ p2,.slice ra lr.length rc,.pointer E] 285)).alloc (.cells #[U_ l,I_ n] 154));have g:Fr w G N_:=y9_
 have A:Blk G w.heap.size [Z_ p,.slice fa fn fc,.pointer a,Z_ p2,.slice ra lr.length rc,.pointer E] 285:=by
  rw[hwz];exact(B_ w #[Z_ p,.slice fa fn fc,.pointer a,Z_ p2,.slice ra lr.length rc,.pointer E] 285).alloc _
 have F:=zy (λW (i:Fr w W N_)=>show W.cell? ⟨6,0,none⟩=some (.iface nt nx) from(World.cell?_of_block (a:=⟨6,0,none⟩) (i.block _ (World.block_lt_of_cell? w ⟨6,0,none⟩ r) id)).trans r);replace A:=zy A;replace g:=zy g;replace hwz:=zy hwz;cases d:qh lr o l with
 |none=>
  rw[d]at m v;go_in;go_wp2_with (go_at_call 191;rw[<- hwz.o];apply(v.o _ g).mono;rintro e w1 ⟨rfl,j⟩;simp only[gv,Option.getD_none,cc_];have k:=zy (g.o.trans j u_);have U:=F.o w1 k);go_quiet (fail);go_wp2;try go_ret
  rw[m.o];exact⟨_,_,rfl,k.o.si (zq.drewN _ _),rfl,.base⟩
 |some q=>
  rw[d]at m v;obtain⟨⟨D,pq⟩,z⟩:∃e,lr[q]?=some e:=by
   have key:∀x,(lr.map Prod.fst).findIdx? (λy=>y==x)=some q->∃e,lr[q]?=some e:=λx h=>by
    have:=(List.findIdx?_eq_some_iff_findIdx_eq.1 h).1;rw[bu_]at this;exact⟨_,aj_ this⟩
   unfold qh at d;split at d
   .rename_i h;cases d;exact key _ h
   .split at d
    .cases d
    .exact key _ d
  have V:q<lr.length:=(ak_.1 z).1;have Y:(q:Int)<(lr.length:Int):=M_;have X:¬((q:Int)<0):=M_;obtain⟨T,S,J⟩:=zg ho M_;cases J;have hc:=zy (λW (i:Fr w W N_)=>zr (zj ho i u_) rfl (xB z).2);have K:=C _ (ai_ z);have L:=zy (show fU er (.leaf c pr) q=D by
   simp only[fU,B,as_,ax_,z,by_,b6_])
  go_in;go_wp2_with (go_at_call 191;rw[<- hwz.o];apply(v.o _ g).mono;rintro e w1 ⟨rfl,j⟩;simp only[gv,b6_,Option.isSome_some];have k:=zy (g.o.trans j u_);have Z:=(j.bl A id).c4;have m5:=hc.o w1 k);try go_ret
  rw[m.o];refine⟨_,_,rfl,k,rfl,.flat (.sym q D M_) (λN M e=>?_)⟩;simp only[Value.iface.injEq,Value.agg.injEq,true_and]at e;have H:=congrArg (λx:Array Value=>x[0]?) e;have I:=congrArg (λx:Array Value=>x[1]?) e;simp only[List.getElem?_toArray,aa_,ab_,af_,Value.int.injEq,true_and]at H I;obtain rfl:q=N:=M_;obtain rfl:D=M:=M_;refine⟨L,?_⟩;simp only[zl,a3_,decide_eq_true_eq]at K;omega
end Go.Proofs.YtokgeopihcopeaaGreatDoor
