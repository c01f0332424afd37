import Derived.Test.YtlmebjdmdogmfaaGreatDoorW22
set_option linter.unusedVariables false
set_option maxHeartbeats 16000000
set_option maxRecDepth 100000
set_option linter.defProp false
set_option linter.unusedSimpArgs false
open Go.Proofs.Tryz
namespace Go.Proofs.YtlmebjdmdogmfaaGreatDoor
open Go.RowKit
variable {Q P:Az}{s s':BA}{ds ds':Ar}{sv sv' v b lv0 a:Ax}{xs xs' zs:Ay}{f c n:Nat}{d:DT}{y x:PT}{Y0:Ai}{ew:Au}{df:Dm}{α β:Type}{p:Int}
def dD{w:Aw}{k0:Nat}{sT rT:Av}{sx rx:Ax}{ws:Af}{r:PT}{d1:DT}{X:Ai}{uv O:Ax}(Z:Xt P Q s s' ds ds' sv sv' xs xs' k0 sT sx rT rx f)(M:MC P Q s s' ds ds' sv sv' xs xs' k0 w)(ho:w.ownsRow 0 46 1 uv ws.length ((List.range ws.length).map X))(hX:∀i t,ws[i]?=some t->TyV w P t (X i))(hb:TyV w Q y b)(hn:ws[n]?=some r)(a0:okT (zx ds) r)(a1:okT (zx ds') y)(fy:vq y)(hd:Dat (zx ds) d1 r)(hv:DaV (zx ds) w (λg=>g<k0) d1 r O)(h1:ndT d1<=300)(h2:ndT d1<=f){z:DT}(hk:mkP (zx ds) (zx ds') (xD (zx ds') s') f r y d1=some z):Calls prog 139 #[.agg #[sv,.iface sT sx,sv',.iface rT rx],.agg #[uv,b],.iface 150 (.agg #[I_ n,O])] w (ye (zx ds') y k0 w z):=by
 obtain⟨L,T⟩:=y_ (ye (zx ds') y k0 w z);rw[<- T.o];have a2:n<ws.length:=(aj_.1 hn).1;obtain⟨g,B,rfl⟩:=zg ho M_;obtain⟨sa,sc,rfl⟩:=zw M.D.row;obtain⟨ra,rc,rfl⟩:=zw M.E.row;obtain⟨bT,bx,rfl⟩:=hb.iface;obtain⟨dT,dx,rfl⟩:=hv.iface;obtain⟨tT,tx,L⟩:=(hX n r hn).iface;have H:=λW (j:Fr w W N_)=>(Z W r y d1 z (X n) _ _ (M.new j) ((hX n r hn).fr j u_) (hb.fr j u_) a0 a1 fy hd (hv.fr j u_) h1 h2 hk).mono (λe w' q=>ye.two j q);rw[L]at H;have Y:∀W,Fr w W N_->W.cell? ⟨g,n,none⟩=some (.iface tT tx):=λW j=>by
  have:=zr (zj ho j u_) rfl (k:=n) (x:=X n) (by rw[av_,cb_ a2];rfl);rw[L]at this;exact this
 have r:(n:Int)<(ws.length:Int):=M_;have r:¬((n:Int)<0):=M_;obtain⟨u,hwz⟩:=e_ (((w.alloc (.cells #[.slice sa ds.length sc,.iface sT sx,.slice ra ds'.length rc,.iface rT rx] 83)).alloc (.cells #[S_ g ws.length B,.iface bT bx] 277)).alloc (.cells #[I_ n,.iface dT dx] 150));have F:Fr w u N_:=xm_
 have A:Blk u w.heap.size [.slice sa ds.length sc,.iface sT sx,.slice ra ds'.length rc,.iface rT rx] 83:=by
  rw[hwz];exact((B_ w #[.slice sa ds.length sc,.iface sT sx,.slice ra ds'.length rc,.iface rT rx] 83).alloc _).alloc _
 have I:Blk u (w.heap.size+1) [S_ g ws.length B,.iface bT bx] 277:=by
  rw[hwz];have h:=(B_ (w.alloc (.cells #[.slice sa ds.length sc,.iface sT sx,.slice ra ds'.length rc,.iface rT rx] 83)) #[S_ g ws.length B,.iface bT bx] 277).alloc (.cells #[I_ n,.iface dT dx] 150);rw[zm]at h;exact h
 have J:Blk u (w.heap.size+1+1) [I_ n,.iface dT dx] 150:=by
  rw[hwz];have h:=B_ ((w.alloc (.cells #[.slice sa ds.length sc,.iface sT sx,.slice ra ds'.length rc,.iface rT rx] 83)).alloc (.cells #[S_ g ws.length B,.iface bT bx] 277)) #[I_ n,.iface dT dx] 150;rw[zm,zm]at h;exact h
 obtain⟨S,m⟩:∃C:World->Prop,C=λW=>W.cell? ⟨w.heap.size,0,none⟩=some (.slice sa ds.length sc)/\W.cell? ⟨w.heap.size,1,none⟩=some (.iface sT sx)/\W.cell? ⟨w.heap.size,2,none⟩=some (.slice ra ds'.length rc)/\W.cell? ⟨w.heap.size,3,none⟩=some (.iface rT rx)/\W.cell? ⟨w.heap.size+1,0,none⟩=some (S_ g ws.length B)/\W.cell? ⟨w.heap.size+1,1,none⟩=some (.iface bT bx)/\W.cell? ⟨w.heap.size+1+1,0,none⟩=some (I_ n)/\W.cell? ⟨w.heap.size+1+1,1,none⟩=some (.iface dT dx)/\W.cell? ⟨g,n,none⟩=some (.iface tT tx):=⟨_,rfl⟩;have U:=zy (λW (j:Fr u W N_)=>show S W by
  rw[m]
  exact⟨(j.bl A id).cell 0,(j.bl A id).cell 1,(j.bl A id).cell 2,(j.bl A id).cell 3,(j.bl I id).cell 0,(j.bl I id).cell 1,(j.bl J id).cell 0,(j.bl J id).cell 1,Y W (F.trans j u_)⟩)
 replace F:=zy F;replace hwz:=zy hwz;replace m:=zy m;replace H:=zy H;go_in;go_wp2;rw[<- hwz.o];refine tR_ S ?_;refine zc 0 ?z0 rfl K_ (λ_ _ _ h=>h) K_ ?yz0 ?_;case yz0=>(intro W h;rw[m.o]at h;obtain⟨c0,c1,c2,c3,c4,c5,c6,c7,c8⟩:=h;go_simp<;>rfl)
 refine zc 1 ?z1 rfl K_ (λ_ _ _ h=>h) K_ ?yz1 ?_;case yz1=>(intro W h;rw[m.o]at h;obtain⟨c0,c1,c2,c3,c4,c5,c6,c7,c8⟩:=h;go_simp<;>rfl)
 refine zc 2 ?z2 rfl K_ (λ_ _ _ h=>h) K_ ?yz2 ?_;case yz2=>(intro W h;rw[m.o]at h;obtain⟨c0,c1,c2,c3,c4,c5,c6,c7,c8⟩:=h;go_simp<;>rfl)
 refine zc 3 ?z3 rfl K_ (λ_ _ _ h=>h) K_ ?yz3 ?_;case yz3=>(intro W h;rw[m.o]at h;obtain⟨c0,c1,c2,c3,c4,c5,c6,c7,c8⟩:=h;go_simp<;>rfl)
 refine zc 4 ?z4 rfl K_ (λ_ _ _ h=>h) K_ ?yz4 ?_;case yz4=>(intro W h;rw[m.o]at h;obtain⟨c0,c1,c2,c3,c4,c5,c6,c7,c8⟩:=h;go_simp<;>rfl)
 refine zc 5 ?z5 rfl K_ (λ_ _ _ h=>h) K_ ?yz5 ?_;case yz5=>(intro W h;rw[m.o]at h;obtain⟨c0,c1,c2,c3,c4,c5,c6,c7,c8⟩:=h;go_simp<;>rfl)
 refine zc 6 ?z6 rfl K_ (λ_ _ _ h=>h) K_ ?yz6 ?_;case yz6=>(intro W h;rw[m.o]at h;obtain⟨c0,c1,c2,c3,c4,c5,c6,c7,c8⟩:=h;go_simp<;>rfl)
 refine zc 7 ?z7 rfl K_ (λ_ _ _ h=>h) K_ ?yz7 ?_;case yz7=>(intro W h;rw[m.o]at h;obtain⟨c0,c1,c2,c3,c4,c5,c6,c7,c8⟩:=h;go_simp<;>rfl)
 refine zc 8 ?z8 rfl K_ (λ_ _ _ h=>h) K_ ?yz8 ?_;case yz8=>(intro W h;rw[m.o]at h;obtain⟨c0,c1,c2,c3,c4,c5,c6,c7,c8⟩:=h;go_simp<;>rfl)
 refine zc 9 ?z9 rfl K_ (λ_ _ _ h=>h) K_ ?yz9 ?_;case yz9=>(intro W h;rw[m.o]at h;obtain⟨c0,c1,c2,c3,c4,c5,c6,c7,c8⟩:=h;go_simp<;>rfl)
 refine zc 10 ?z10 rfl K_ (λ_ _ _ h=>h) K_ ?yz10 ?_;case yz10=>(intro W h;rw[m.o]at h;obtain⟨c0,c1,c2,c3,c4,c5,c6,c7,c8⟩:=h;go_simp<;>rfl)
 refine zJ 11 rfl K_ (U.o _ (A_ u _).drew) (λK1 V=>?_);go_simp;apply(H.o _ F.o.drew).mono;rintro e w1 ⟨N,O,rfl,K,G⟩;obtain⟨j,j,rfl⟩:=G.iface;replace N:=zy N;replace K:=zy K;replace G:=zy G;refine V _ _ ?_;refine tY_ 12 ?_;refine tY_ 13 ?_;refine tY_ 14 ?_;refine tY_ 15 ?_;refine tY_ 16 ?_;refine yq K_ (U.o _ ((A_ u N_).drew.trans N u_)) ?_ _;go_wp2;try go_ret
 rw[T.o];exact⟨_,rfl,K,G⟩
def gO{g:α->Option β}{a:α}{b:β}(hb:g a=some b):∀{l:List α}{m:List β},vm g l=some m->vm g (l++[a])=some (m++[b])
 | [],m,h=>by simp only[vm,af_]at h;subst h;simp[vm,hb]
 |x::r,m,h=>by
  unfold vm at h;split at h
  .cases h
  .rename_i c hc;split at h
   .cases h
   .rename_i e hl;simp only[af_]at h;subst h;rw[bm_];unfold vm;rw[hc,gO hb hl];rfl
def bK{g:α->Option β}:∀{l:List α}{m:List β},vm g l=some m->∀a∈l,∃b,g a=some b
 | [],_,_,a,h=>by cases h
 |x::r,m,h,a,ha=>by
  unfold vm at h;split at h
  .cases h
  .rename_i c hc;split at h
   .cases h
   .rename_i e hl;rcases ao_.1 ha with rfl|ha
    .exact⟨c,hc⟩
    .exact bK hl a ha
def lI{g:α->Option β}{l:List α}{m:List β}(h:vm g l=some m):m.length=l.length:=(oz h).1
structure ML(er:Au)(k0:Nat)(cs0:Ay)(ct0:Av)(cs1:Ay)(ct1:Av)(t:PT)(w:Aw)(lv:Ax)(l:Ae)(W:Aw):Prop where
 fr:Fr w W N_
 b0:Blk W w.heap.size cs0 ct0
 b1:Blk W (w.heap.size+1) cs1 ct1
 bB:w.heap.size+2<=W.heap.size
 row:jY er W (w.heap.size+2) (λg=>(g<k0\/w.heap.size+2<=g)/\lv.ownBlock≠some g) t lv l
section
variable {er:Au} {k0:Nat} {cs0 cs1:Ay} {ct0 ct1:Av} {t:PT} {w W W':Aw} {lv:Ax} {l:Ae}
def ML.call(Q:ML er k0 cs0 ct0 cs1 ct1 t w lv l W)(hf:Fr W W' N_):ML er k0 cs0 ct0 cs1 ct1 t w lv l W':=
 ⟨Q.fr.trans hf u_,hf.bl Q.b0 id,hf.bl Q.b1 id,ak_ Q.bB hf.size,Q.row.fr hf u_ u_⟩
def cq21_{p:Prop}(h:p:=by
 have m:=Q.bB;have q:(W.alloc o).heap.size=W.heap.size+1:=by simp
 (first|(have:=cc1)|(obtain⟨Y0,a,_⟩:=Q.row));have i:Fr W w5 (λg=>lv.ownBlock=some g):=((A_ W _).alloc o).gw hg (λk e _=>e);have j:∀g,lv.ownBlock=some g->w.heap.size+2<=g:=λg e=>(a.lt g e).1;(first|(have:=cc1;refine⟨Q.fr.trans i (λx hx e=>absurd (j x e) M_),i.bl Q.b0 (λe=>o1_ (j _ e)),i.bl Q.b1 (λe=>o1_ (j _ e)),ak_ m i.size,_,by rw[ag_,ap_];exact ho,qe.growJ hY hd hk i ?_⟩)|(refine⟨Q.fr.trans i (λx hx e=>absurd (j x e) M_),i.bl Q.b0 (λe=>o1_ (j _ e)),i.bl Q.b1 (λe=>o1_ (j _ e)),ak_ m i.size,jY.growJ hY hd i ?_ ho⟩));rcases hl with e|e
 .exact .inl e
 .exact .inr ⟨_,e,M_⟩):p:=h
def ML.item(Q:ML er k0 cs0 ct0 cs1 ct1 t w lv l W){o:Obj}{w5:Aw}{v5:Ax}{Y:Ai}(hY:∀i d,l[i]?=some d->DaV er W (λg=>(g<k0\/w.heap.size+2<=g)/\lv.ownBlock≠some g) d (yg er t 0 i) (Y i))(hd:DaV er W (λg=>(g<k0\/w.heap.size+2<=g)/\lv.ownBlock≠some g) d (yg er t 0 l.length) v)(hg:(W.alloc o).grownBy w5 lv.ownBlock)(ho:w5.ownsRow (w.heap.size+2) 52 1 v5 (l.length+1) (((List.range l.length).flatMap λi=>[Y i])++[v]))(hl:v5.ownBlock=lv.ownBlock\/v5.ownBlock=some (W.alloc o).heap.size):ML er k0 cs0 ct0 cs1 ct1 t w v5 (l++[d]) w5:=by
 exact cq21_
def ML.done(Q:ML er k0 cs0 ct0 cs1 ct1 t w lv l W){T:Av}(hc:(c=91/\T=144)\/(c=114/\T=152)):DaV er W (λg=>g<k0\/w.heap.size<=g) (.mk c 0 noB [] l) t (.iface T lv):=
 Q.row.dat (λg _ hg=>M_) (λg e=>by obtain⟨_,a,_⟩:=Q.row;have:=(a.lt g e).1;show g<k0\/w.heap.size<=g;omega) hc
end
def lE{w:Aw}{k0:Nat}{sT rT:Av}{sx rx:Ax}{u u':PT}{p':Nat}{j:Ae}(ih:Xt P Q s s' ds ds' sv sv' xs xs' k0 sT sx rT rx f)(M:MC P Q s s' ds ds' sv sv' xs xs' k0 w)(ha:TyV w P u a)(hb:TyV w Q u' b)(a3:okT (zx ds) u)(a4:okT (zx ds') u')(fy:vq u')(ho:w.ownsRow 0 52 1 lv0 j.length ((List.range j.length).flatMap λi=>[Y0 i]))(hd:∀d∈j,Dat (zx ds) d u)(hv:∀i d,j[i]?=some d->DaV (zx ds) w (λg=>g<k0) d u (Y0 i))(h1:za j<=299)(h2:za j<=f){m0:Ae}(hk:vm (mkP (zx ds) (zx ds') (xD (zx ds') s') f u u') j=some m0):Calls prog 189 #[.agg #[sv,.iface sT sx,sv',.iface rT rx],.agg #[a,b],lv0] w (ye (zx ds') (.wrap 91 p' u') k0 w (.mk 91 0 noB [] m0)):=by
 obtain⟨d7,O⟩:=y_ (ye (zx ds') (.wrap 91 p' u') k0 w (.mk 91 0 noB [] m0));rw[<- O.o];obtain⟨sa,sc,rfl⟩:=zw M.D.row;obtain⟨ra,rc,rfl⟩:=zw M.E.row;obtain⟨f0,f1,rfl⟩:=zw ho;obtain⟨aT,ax,rfl⟩:=ha.iface;obtain⟨bT,bx,rfl⟩:=hb.iface;have V:=zy (λW (F:Fr w W N_) i d v z (hi:j[i]?=some d) (d6:Y0 i=v)=>ih W u u' d z _ _ v (M.new F) (ha.fr F u_) (hb.fr F u_) a3 a4 fy (hd d (ah_ hi)) (d6▸(hv i d hi).fr F u_) (o1_ ((xJ hi).2)) (o1_ ((xJ hi).2)));have b6:=zy M.k;have e3:j.length<=300:=by have:=xR j;omega
 generalize hR:mkP (zx ds) (zx ds') (xD (zx ds') s') f u u'=R at V hk;obtain⟨wz,K⟩:=e_ ((w.alloc (.cells #[.slice sa ds.length sc,.iface sT sx,.slice ra ds'.length rc,.iface rT rx] 83)).alloc (.cells #[.iface aT ax,.iface bT bx] 282));have start:ML (zx ds') k0 [.slice sa ds.length sc,.iface sT sx,.slice ra ds'.length rc,.iface rT rx] 83 [.iface aT ax,.iface bT bx] 282 (.wrap 91 p' u') w (L_) [] wz:=by
  rw[K];refine⟨((A_ w N_).alloc _).alloc _,(B_ w #[.slice sa ds.length sc,.iface sT sx,.slice ra ds'.length rc,.iface rT rx] 83).alloc _,?_,by rw[zm,zm];omega,jY.nil _ _ _ _ _⟩;have h:=B_ (w.alloc (.cells #[.slice sa ds.length sc,.iface sT sx,.slice ra ds'.length rc,.iface rT rx] 83)) #[.iface aT ax,.iface bT bx] 282;rw[zm]at h;exact h
 have X:∀i d,(hi:j[i]?=some d)->∃T x,Y0 i=.iface T x:=λi d hi=>(hv i d hi).iface;replace start:=zy start;replace K:=zy K;replace ho:=zy ho;replace X:=zy X;replace hk:=zy hk;have J:∀i,yg (zx ds') (.wrap 91 p' u') 0 i=u':=λi=>rfl;generalize zx ds'=er at V O start J;replace J:=zy J;go_in;go_wp2;rw[<- K.o];go_loopg [8,15] (j.length+1) (λm v8 v W=>∃(q:Nat) (l:List DT),v=I_ q/\q<=j.length/\j.length+1-q<=m/\H_ (vm R (j.take q)=some l)/\H_ (ML er k0 [.slice sa ds.length sc,.iface sT sx,.slice ra ds'.length rc,.iface rT rx] 83 [.iface aT ax,.iface bT bx] 282 (.wrap 91 p' u') w v8 l W));case atStart=>exact⟨0,[],rfl,al_ _,M_,zy rfl,zy start⟩
 case round=>
  obtain⟨q,l,rfl,hq,hm,I,r⟩:=hrel;have hll:l.length=q:=by have:=lI I;rw[cc_]at this;omega
  obtain⟨Y,B,G⟩:=r.o.row;rw[hll]at B;obtain⟨la,lc,rfl⟩:=zw B;by_cases Z:q<j.length
  .have b7:(q:Int)<(j.length:Int):=M_;have A:j[q]?=some j[q]:=ai_ Z;generalize j[q]=d at A;obtain⟨g,d8,a7⟩:=zg ho M_;cases a7;obtain⟨T,x,hx⟩:=X.o q d A;have e0:wr.cell? ⟨g,q,none⟩=some (.iface T x):=by
    rw[<- hx];exact qQ (zj ho r.o.fr u_) Z
   obtain⟨e6,e7,e8,e9⟩:=r.o.b0.d4;have e4:=r.o.b1.c0;have e5:=r.o.b1.c1;obtain⟨L,a0⟩:=bK hk d (ah_ A);have S:=V.o wr r.o.fr q d _ L A hx a0;have e2:=r.o.bB;replace A:=zy A;have b8:=zy (show vm R (j.take (q+1))=some (l++[L]) by rw[a7_,A.o];exact gO a0 I);replace S:=zy S;replace G:=zy G;replace B:=zy B;obtain⟨ti,a8,a9,b4,b5⟩:=info_parts qP;go_wp2_with (first
    |(go_at_call 48;apply S.o.mono;rintro e w1 ⟨v1,rfl,H,U⟩;obtain⟨dT,dx,rfl⟩:=U.iface;have C:=r.o.call H;have e1:=C.bB;have d2:=zy (zj B H u_);have a5:=zy (U.mono (Q:=λg=>(g<k0\/w.heap.size+2<=g)/\(Value.slice la q lc).ownBlock≠some g) (λg _ hg=>⟨M_,λe=>by have:=B.o.lt g e;have:=b6.o;omega⟩));have a6:=zy (λi d (e:l[i]?=some d)=>(G.o i d e).fr H u_);replace C:=zy C)
    |(at_builtin;go_must (refine wpList_append_own_at _ rfl _ _ 144 rfl (w.heap.size+2) 52 ti _ 1 16 sF a8 a9 b4 b5 rfl D_ (.slice la q lc) q ((List.range q).flatMap λi=>[Y i]) rfl ?hown _ 1 1 [.iface dT dx] rfl rfl (zK _ #[.iface dT dx] _ _ ?nn) ?one ?b1 ?b2 ?b3 ?_)
      case hown=>exact World.ownsRow.alloc d2 _
      case nn=>simp
      case one=>simp[Value.oneCell']
      case b1=>unfold maxLen;omega
      case b2=>omega
      case b3=>simp;omega
      intro v5 w5 ho5 a1 b9 a2
      have N:=C.o.item (d:=L) a6 (by rw[J.o];exact a5) a1 z9_ a2
      obtain⟨g5,d9,rfl⟩:=zg ho5 M_
      replace N:=zy N))
   go_roundg (j.length+1-(q+1));case measure=>omega
   case rel=>exact⟨q+1,l++[L],by simp,Z,l_,b8,N⟩
  .have b7:¬((q:Int)<(j.length:Int)):=M_;obtain rfl:m0=l:=by have:=I.o;rw[bb_ M_,hk.o]at this;cases this;rfl
   go_wp2;try go_ret
   rw[O.o];exact⟨_,rfl,r.o.fr,r.o.done (.inl ⟨rfl,rfl⟩)⟩
structure MLm(er:Au)(k0:Nat)(cs0:Ay)(ct0:Av)(cs1:Ay)(ct1:Av)(t:PT)(w:Aw)(lv:Ax)(l:Ag)(W:Aw):Prop where
 fr:Fr w W N_
 b0:Blk W w.heap.size cs0 ct0
 b1:Blk W (w.heap.size+1) cs1 ct1
 bB:w.heap.size+2<=W.heap.size
 row:∃ys,W.ownsRow (w.heap.size+2) 201 2 lv l.length ys/\qe er W (λg=>(g<k0\/w.heap.size+2<=g)/\lv.ownBlock≠some g) t l ys
section
variable {er:Au} {k0:Nat} {cs0 cs1:Ay} {ct0 ct1:Av} {t:PT} {w W W':Aw} {lv:Ax} {l:Ag}
def MLm.call(Q:MLm er k0 cs0 ct0 cs1 ct1 t w lv l W)(hf:Fr W W' N_):MLm er k0 cs0 ct0 cs1 ct1 t w lv l W':=
 ⟨Q.fr.trans hf u_,hf.bl Q.b0 id,hf.bl Q.b1 id,ak_ Q.bB hf.size,by obtain⟨ys,a,b⟩:=Q.row;exact⟨ys,zj a hf u_,b.fr hf u_⟩⟩
def MLm.item(Q:MLm er k0 cs0 ct0 cs1 ct1 t w lv l W){o:Obj}{w5:Aw}{v5:Ax}{key:BA}{ys:Ay}(a:W.ownsRow (w.heap.size+2) 201 2 lv l.length ys)(hY:qe er W (λg=>(g<k0\/w.heap.size+2<=g)/\lv.ownBlock≠some g) t l ys)(hk:key.size<=4000)(hd:DaV er W (λg=>(g<k0\/w.heap.size+2<=g)/\lv.ownBlock≠some g) d (yg er t 0 l.length) v)(hg:(W.alloc o).grownBy w5 lv.ownBlock)(ho:w5.ownsRow (w.heap.size+2) 201 2 v5 (l.length+1) (ys++[.string key,v]))(hl:v5.ownBlock=lv.ownBlock\/v5.ownBlock=some (W.alloc o).heap.size):MLm er k0 cs0 ct0 cs1 ct1 t w v5 (l++[(key,d)]) w5:=by
 have cc1:=Nat
 exact cq21_
def MLm.done(Q:MLm er k0 cs0 ct0 cs1 ct1 t w lv l W):DaV er W (λg=>g<k0\/w.heap.size<=g) (.mk 123 0 noB (l.map Prod.fst) (l.map Prod.snd)) t (.iface 147 lv):=by
 obtain⟨ys,a,b⟩:=Q.row;exact b.dat a (λg _ hg=>M_) (λg e=>by have:=(a.lt g e).1;show g<k0\/w.heap.size<=g;omega)
end
def cwdN1_{p:Prop}(h:p:=by
 (first|(have:=cc1;have hlt':(q:Int)<(fr.length:Int):=M_)|(have hlt':(q:Int)<(l0.length:Int):=M_));(first|(have:=cc1;have j:fr[q]?=some fr[q]:=ai_ hlt)|(have j:l0[q]?=some l0[q]:=ai_ hlt));(first|(have:=cc1;generalize fr[q]=g at j)|(generalize l0[q]=d at j));(first|(have:=cc1;obtain⟨S,a0,S⟩:=zg hrG.o M_)|(obtain⟨g,a0,S⟩:=zg ho.o M_));cases S;(first|(have:=cc1;obtain⟨T,x,dp,hT,X,q1,q2,q3⟩:=hcell.o wr hQ.o.fr q g j)|(obtain⟨T,x,hx⟩:=hfix.o q d j));(first|(have:=cc1;have r:=zj hrG.o hQ.o.fr u_)|(obtain⟨r,E⟩:=bQ (K:=λi=>ks.getD i noB) (zj ho.o hQ.o.fr u_) hlt));(first|(have:=cc1;have r0:=zr r rfl X)|(rw[hx]at E));(first|(have:=cc1;have r1:=zr r rfl q1)|(have u:ks[q]?=some (ks.getD q noB):=by rw[au_,ai_ M_];rfl))
 (first|(have:=cc1;have r2:=zr r rfl q2)|(have U:=hks.o _ (ah_ u)));(first|(have:=cc1;have E:=zr r rfl q3)|(generalize ks.getD q noB=key at r u U));(first|(have:=cc1;rw[bg_]at r0 r1 r2 E)|(have m:=(A_ wr N_).alloc (.cells #[.string key,.iface T x] 201)));(first|(have:=cc1;have u:=hsub.o q g j;have m:=(A_ wr N_).alloc (.cells #[I_ g.place,U_ g.letter,.iface T x,.pointer dp] 194))|(have Z:=zy (B_ wr #[.string key,.iface T x] 201)));have z:=zy (hQ.o.call m);obtain⟨E,E,E,E⟩:=z.o.b0.d4;(first|(have:=cc1;obtain⟨E,S,a2,a3⟩:=z.o.b1.d4)|(have E:=z.o.b1.c0));(first|(have:=cc1;obtain⟨k,B⟩:=bK hk.o g (ah_ j))|(have S:=z.o.b1.c1));(first|(have:=cc1;have D:=hMd.o _ (hQ.o.fr.trans m u_) q g g.place T x dp j (hT.fr m u_) q3 k B)|(obtain⟨k,B⟩:=bK hk.o d (ah_ j);have D:=hMd.o _ (hQ.o.fr.trans m u_) q d _ k j hx B));have E:=hQ.o.bB;replace j:=zy j;replace u:=zy u;(first|(have:=cc1;clear r hT X q1 q2 q3)|(clear hx))
 first
  |have:=cc1
   have O:=zy (show vm R (fr.take (q+1))=some (l++[k]) by rw[a7_,j.o];exact gO B hmp.o)
  |have O:=zy (show vm R (l0.take (q+1))=some ((l++[(key,k)]).map Prod.snd)/\(l++[(key,k)]).map Prod.fst=ks.take (q+1) by
    rw[a7_,j.o,a7_,u.o,bd_,bd_,hmp.o.2]
    exact⟨gO B hmp.o.1,rfl⟩)
 replace D:=zy D;(first|(have:=cc1;have G:=zy (λi d (e:l[i]?=some d)=>(hY i d e).fr m u_))|(have G:=zy (hY.fr m u_)));have V:=zy (zj hrow m u_);(first|(have:=cc1;obtain⟨ti,I,J,L,M⟩:=info_parts qP)|(obtain⟨ti,I,J,L,M⟩:=info_parts bH));clear B hY hrow m;go_wp2_with (first
  |((first|go_at_call 48|go_at_call 192);apply D.o.mono;rintro e w1 ⟨j,rfl,A,F⟩;obtain⟨dT,dx,rfl⟩:=F.iface;have j:=z.o.call A;have m:=j.bB;(first|(have:=cc1)|(have m:=(A.bl Z.o id).c0));have B:=zy (zj V.o A u_);have r:=zy (F.mono (Q:=λg=>(g<k0\/w.heap.size+2<=g)/\(Value.slice la q lc).ownBlock≠some g) (λg _ hg=>⟨o1_ z.o.bB,λe=>by have:=V.o.lt g e;have:=hk0.o;omega⟩));(first|(have:=cc1;have m:=zy (λi d (e:l[i]?=some d)=>(G.o i d e).fr A u_))|(have m:=zy (G.o.fr A u_)));replace j:=zy j;clear F A)
  |(at_builtin;go_must ((first|(have:=cc1;refine wpList_append_own_at _ rfl _ _ 152 rfl (w.heap.size+2) 52 ti _ 1 16 Zi I J L M rfl D_ (.slice la q lc) q ((List.range q).flatMap λi=>[Y i]) rfl ?hown _ 1 1 [.iface dT dx] rfl rfl (zK _ #[.iface dT dx] _ _ ?nn) ?one ?b1 ?b2 ?b3 ?_)|(refine wpList_append_own_at _ rfl _ _ 147 rfl (w.heap.size+2) 201 ti _ 2 32 lj I J L M rfl D_ (.slice la q lc) q ys rfl ?hown _ 1 1 [.string key,.iface dT dx] rfl rfl (zK _ #[.string key,.iface dT dx] _ _ ?nn) ?one ?b1 ?b2 ?b3 ?_)))
    case hown=>exact World.ownsRow.alloc B.o _
    case nn=>simp
    case one=>simp[Value.oneCell']
    case b1=>unfold maxLen;omega
    case b2=>omega
    case b3=>simp;omega
    intro z z ho5 H a1 N
    (first|(have:=cc1;have C:=j.o.item (d:=k) m.o (by rw[hll,u.o];exact r.o) H z9_ N)|(have C:=j.o.item (d:=k) (by rw[hll];exact B.o) m.o U (by rw[hsub.o];exact r.o) H z9_ N))
    obtain⟨j,j,rfl⟩:=zg ho5 M_
    clear H N a1 ho5
    replace C:=zy C))
 (first|(have:=cc1;go_roundg (fr.length+1-(q+1)))|(go_roundg (l0.length+1-(q+1))));case measure=>omega
 case rel=>(first|(have:=cc1;exact⟨q+1,l++[k],by simp,hlt,l_,O,C⟩)|(exact⟨q+1,l++[(key,k)],by simp,hlt,l_,O,C⟩))):p:=h
def dN{w:Aw}{k0:Nat}{sT rT:Av}{sx rx:Ax}{u u':PT}{p':Nat}{l0:Ae}{ks:Dq}(C:Xt P Q s s' ds ds' sv sv' xs xs' k0 sT sx rT rx f)(M:MC P Q s s' ds ds' sv sv' xs xs' k0 w)(ha:TyV w P u a)(hb:TyV w Q u' b)(F:okT (zx ds) u)(G:okT (zx ds') u')(fy:vq u')(j:ks.length=l0.length)(hks:∀k∈ks,k.size<=4000)(ho:w.ownsRow 0 201 2 lv0 l0.length ((List.range l0.length).flatMap λi=>[.string (ks.getD i noB),Y0 i]))(hd:∀d∈l0,Dat (zx ds) d u)(hv:∀i d,l0[i]?=some d->DaV (zx ds) w (λg=>g<k0) d u (Y0 i))(h1:za l0<=299)(B:za l0<=f){m0:Ae}(hk:vm (mkP (zx ds) (zx ds') (xD (zx ds') s') f u u') l0=some m0):Calls prog 190 #[.agg #[sv,.iface sT sx,sv',.iface rT rx],.agg #[a,b],lv0] w (ye (zx ds') (.wrap 123 p' u') k0 w (.mk 123 0 noB ks m0)):=by
 obtain⟨j,A⟩:=y_ (ye (zx ds') (.wrap 123 p' u') k0 w (.mk 123 0 noB ks m0));rw[<- A.o];obtain⟨sa,sc,rfl⟩:=zw M.D.row;obtain⟨ra,rc,rfl⟩:=zw M.E.row;obtain⟨j,j,rfl⟩:=zw ho;obtain⟨aT,ax,rfl⟩:=ha.iface;obtain⟨bT,bx,rfl⟩:=hb.iface;have hMd:=zy (λW (j:Fr w W N_) i d v z (hi:l0[i]?=some d) (I:Y0 i=v)=>C W u u' d z _ _ v (M.new j) (ha.fr j u_) (hb.fr j u_) F G fy (hd d (ah_ hi)) (I▸(hv i d hi).fr j u_) (o1_ ((xJ hi).2)) (o1_ ((xJ hi).2)));have hk0:=zy M.k;have j:l0.length<=300:=by have:=xR l0;omega
 generalize H:mkP (zx ds) (zx ds') (xD (zx ds') s') f u u'=R at hMd hk;obtain⟨J,r⟩:=e_ ((w.alloc (.cells #[.slice sa ds.length sc,.iface sT sx,.slice ra ds'.length rc,.iface rT rx] 83)).alloc (.cells #[.iface aT ax,.iface bT bx] 282));have start:MLm (zx ds') k0 [.slice sa ds.length sc,.iface sT sx,.slice ra ds'.length rc,.iface rT rx] 83 [.iface aT ax,.iface bT bx] 282 (.wrap 123 p' u') w (L_) [] J:=by
  rw[r];refine⟨((A_ w N_).alloc _).alloc _,(B_ w #[.slice sa ds.length sc,.iface sT sx,.slice ra ds'.length rc,.iface rT rx] 83).alloc _,?_,by rw[zm,zm];omega,[],World.ownsRow_nil _ _ _ _,qe.nil _ _ _ _⟩;have h:=B_ (w.alloc (.cells #[.slice sa ds.length sc,.iface sT sx,.slice ra ds'.length rc,.iface rT rx] 83)) #[.iface aT ax,.iface bT bx] 282;rw[zm]at h;exact h
 have hfix:∀i d,(hi:l0[i]?=some d)->∃T x,Y0 i=.iface T x:=λi d hi=>(hv i d hi).iface;replace start:=zy start;replace r:=zy r;replace ho:=zy ho;replace hfix:=zy hfix;replace hks:=zy hks;replace hk:=zy hk;have hsub:∀i,yg (zx ds') (.wrap 123 p' u') 0 i=u':=λi=>rfl;generalize zx ds'=er at hMd A start hsub;replace hsub:=zy hsub;go_in;go_wp2;rw[<- r.o];go_loopg [8,15] (l0.length+1) (λm j v W=>∃(q:Nat) (l:List (BA×DT)),v=I_ q/\q<=l0.length/\l0.length+1-q<=m/\H_ (vm R (l0.take q)=some (l.map Prod.snd)/\l.map Prod.fst=ks.take q)/\H_ (MLm er k0 [.slice sa ds.length sc,.iface sT sx,.slice ra ds'.length rc,.iface rT rx] 83 [.iface aT ax,.iface bT bx] 282 (.wrap 123 p' u') w j l W));case atStart=>exact⟨0,[],rfl,al_ _,M_,zy ⟨rfl,rfl⟩,zy start⟩
 case round=>
  obtain⟨q,l,rfl,j,hm,hmp,hQ⟩:=hrel;have hll:l.length=q:=by have:=lI hmp.o.1;rw[cc_,br_]at this;omega
  obtain⟨ys,hrow,hY⟩:=hQ.o.row;rw[hll]at hrow;obtain⟨la,lc,rfl⟩:=zw hrow;by_cases hlt:q<l0.length
  .exact cwdN1_
  .have hlt':¬((q:Int)<(l0.length:Int)):=M_;have hr:=zy (show l.map Prod.snd=m0/\l.map Prod.fst=ks by have:=hmp.o;rw[bb_ M_,bb_ M_,hk.o]at this;obtain⟨h1,B⟩:=this;cases h1;exact⟨rfl,B⟩);go_wp2;try go_ret
   rw[A.o];refine⟨_,rfl,hQ.o.fr,?_⟩;have:=hQ.o.done;rw[hr.o.1,hr.o.2]at this;exact this
def XT:∀{fw:List PF}{c i:Nat},vV fw c=some i->∃h,fw[i]?=some h
 | [],c,i,h=>by simp[vV]at h
 |f::fw,c,i,h=>by
  unfold vV at h;rw[aw_,List.findIdx?_cons]at h;split at h
  .simp only[af_]at h;subst h;exact⟨f,rfl⟩
  .cases e:(fw.map PF.letter).findIdx? (λx=>x==c) with
   |none=>rw[e]at h;cases h
   |some q=>
    rw[e]at h;simp only[bc_,af_]at h;subst h;obtain⟨h,g⟩:=XT (fw:=fw) e;exact⟨h,by simpa using g⟩
def DvM(k0:Nat)(w:Aw)(er:Au)(s:BA)(g:PF)(dv:Ax):Prop:=
 match g.dflt with
 |none=>dv=.pointer none
 |some (a,e)=>∃gb x d,dv=P_ gb/\Blk w gb [I_ a,.string (s.extract a e),x] 198/\ym er true g.ty (s.extract a e)=some d/\DaV er w (λb=>b<k0) d g.ty x
def DvM.fr{k0:Nat}{w w':Aw}{er:Au}{g:PF}{dv:Ax}(h:DvM k0 w er s g dv)(hf:Fr w w' N_):DvM k0 w' er s g dv:=by
 unfold DvM at h⊢;split
 .rename_i hd;rw[hd]at h;exact h
 .rename_i hd;rw[hd]at h;obtain⟨e,x,d,h1,i,j,k⟩:=h;exact⟨e,x,d,h1,hf.bl i id,j,k.fr hf u_⟩
def MC.dvm{w:Aw}{k0:Nat}(M:MC P Q s s' ds ds' sv sv' xs xs' k0 w){fr:An}{q:Nat}{rv:Ax}(hz:ZV ds' xs' (.recd fr) (.iface 231 (.agg #[I_ q,rv])))(ho:w.ownsRow 0 194 4 rv fr.length zs)(B:xG w Q s' fr zs):∀i g dd,fr[i]?=some g->zs[4*i+3]?=some dd->DvM k0 w (zx ds') s' g dd:=λi g dd hi o=>by
 obtain⟨blk,h1,E,u⟩:=M.F;obtain⟨k,d,hk,hb,hx⟩:=hz;have z:=h1 k d q fr rv zs hk hb hx ho i g dd hi o;have hm:g∈zk ds':=by
  unfold zk;refine b8_.2 ⟨d,ah_ hk,?_⟩;rw[hb];exact ah_ hi
 unfold DvM;split
 .rename_i h;obtain⟨a,b,c,j,G,H,q3,r,A⟩:=B i g hi;have m:=A.2.2.2;rw[h]at m;rw[o]at r;cases r;exact m
 .rename_i a e h;obtain⟨x,j,r1,C,D⟩:=u g hm a e h;exact⟨blk a,x,j,z a e h,C,r1,D⟩
def dS{w:Aw}{k0:Nat}{sT rT:Av}{sx rx:Ax}{fw:An}{g:PF}{dl:Ae}{a5:Ax}{pl:Nat}{F:Av}{tx:Ax}{B:Am}(ih:Xt P Q s s' ds ds' sv sv' xs xs' k0 sT sx rT rx f)(M:MC P Q s s' ds ds' sv sv' xs xs' k0 w)(I:xh w P s fw a5 zs)(hl:fw.length<=300)(b6:dl.length=fw.length)(ht:TyV w Q g.ty (.iface F tx))(X:DvM k0 w (zx ds') s' g (.pointer B))(a3:∀h∈fw,okT (zx ds) h.ty)(a4:okT (zx ds') g.ty)(fy:vq g.ty)(ho:w.ownsRow 0 52 1 lv0 dl.length ((List.range dl.length).flatMap λi=>[Y0 i]))(hd:∀(i:Nat) (d:DT) (h:PF),dl[i]?=some d->fw[i]?=some h->Dat (zx ds) d h.ty/\DaV (zx ds) w (λg=>g<k0) d h.ty (Y0 i))(h1:za dl<=299)(h2:za dl<=f){z:DT}(hk:mkF (mkP (zx ds) (zx ds') (xD (zx ds') s') f) (xD (zx ds') s') fw dl g=some z):Calls prog 192 #[.agg #[sv,.iface sT sx,sv',.iface rT rx],.agg #[Z_ p,a5],.agg #[I_ pl,U_ g.letter,.iface F tx,.pointer B],lv0] w (ye (zx ds') g.ty k0 w z):=by
 obtain⟨b5,L⟩:=y_ (ye (zx ds') g.ty k0 w z);rw[<- L.o];obtain⟨sa,sc,rfl⟩:=zw M.D.row;obtain⟨ra,rc,rfl⟩:=zw M.E.row;obtain⟨b7,b8,rfl⟩:=zw ho;obtain⟨u,N,rfl⟩:=zw I.row;have V:=zy (λW (j:Fr w W N_)=>eH (p:=p) (c:=g.letter) (I.fr j u_) hl);obtain⟨U,hwz⟩:=e_ (((w.alloc (.cells #[.slice sa ds.length sc,.iface sT sx,.slice ra ds'.length rc,.iface rT rx] 83)).alloc (.cells #[Z_ p,.slice u fw.length N] 231)).alloc (.cells #[I_ pl,U_ g.letter,.iface F tx,.pointer B] 194));have r:Fr w U N_:=xm_
 have G:Blk U w.heap.size [.slice sa ds.length sc,.iface sT sx,.slice ra ds'.length rc,.iface rT rx] 83:=by
  rw[hwz];exact((B_ w #[.slice sa ds.length sc,.iface sT sx,.slice ra ds'.length rc,.iface rT rx] 83).alloc _).alloc _
 have Y:Blk U (w.heap.size+1) [Z_ p,.slice u fw.length N] 231:=by
  rw[hwz];have h:=(B_ (w.alloc (.cells #[.slice sa ds.length sc,.iface sT sx,.slice ra ds'.length rc,.iface rT rx] 83)) #[Z_ p,.slice u fw.length N] 231).alloc (.cells #[I_ pl,U_ g.letter,.iface F tx,.pointer B] 194);rw[zm]at h;exact h
 have H:Blk U (w.heap.size+1+1) [I_ pl,U_ g.letter,.iface F tx,.pointer B] 194:=by
  rw[hwz];have h:=B_ ((w.alloc (.cells #[.slice sa ds.length sc,.iface sT sx,.slice ra ds'.length rc,.iface rT rx] 83)).alloc (.cells #[Z_ p,.slice u fw.length N] 231)) #[I_ pl,U_ g.letter,.iface F tx,.pointer B] 194;rw[zm,zm]at h;exact h
 cases m:vV fw g.letter with
 |some i=>
  obtain⟨h,K⟩:=XT m;have u:i<fw.length:=(aj_.1 K).1;obtain⟨d,S⟩:∃d,dl[i]?=some d:=⟨_,ai_ M_⟩;obtain⟨e1,Z⟩:=hd i d h S K;have T:mkF (mkP (zx ds) (zx ds') (xD (zx ds') s') f) (xD (zx ds') s') fw dl g=mkP (zx ds) (zx ds') (xD (zx ds') s') f h.ty g.ty d:=by
   unfold mkF;rw[m];simp only[K,S]
  rw[T]at hk;obtain⟨u,cf,a9⟩:=zg I.row M_;cases a9;obtain⟨gr,cr,b4⟩:=zg ho M_;cases b4;obtain⟨uT,ux,dq,_,_,a1,_,a7,_⟩:=I.cells K;obtain⟨vT,vx,a2⟩:=Z.iface;have hu:=zy (λW (j:Fr w W N_)=>show W.cell? ⟨u,i*4+2,none⟩=some (.iface uT ux) from by
   have e:W.cell? ⟨u,i*4+2,none⟩=w.cell? ⟨u,i*4+2,none⟩:=World.cell?_of_block (a:=⟨u,i*4+2,none⟩) (j.block u (World.block_lt_of_cell? w ⟨u,i*4+2,none⟩ a1) id)
   rw[e,a1])
  have hr:=zy (λW (j:Fr w W N_)=>show W.cell? ⟨gr,i,none⟩=some (.iface vT vx) from by
   rw[<- a2]
   exact qQ (zj ho j u_) M_)
  have O:=λW (j:Fr w W N_)=>(ih W h.ty g.ty d z _ _ _ (M.new j) (a7.fr j u_) (ht.fr j u_) (a3 h (ah_ K)) a4 fy e1 (Z.fr j u_) (o1_ ((xJ S).2)) (o1_ ((xJ S).2)) hk).mono (λe w' q=>And.intro (ye.two j q).1 (ye.two j q).2.tup);rw[a2]at O;replace O:=zy O;obtain⟨CL,k⟩:∃C:World->Prop,C=λW=>W.cell? ⟨w.heap.size,0,none⟩=some (.slice sa ds.length sc)/\W.cell? ⟨w.heap.size,1,none⟩=some (.iface sT sx)/\W.cell? ⟨w.heap.size,2,none⟩=some (.slice ra ds'.length rc)/\W.cell? ⟨w.heap.size,3,none⟩=some (.iface rT rx)/\W.cell? ⟨w.heap.size+1,1,none⟩=some (S_ u fw.length N)/\W.cell? ⟨w.heap.size+1+1,2,none⟩=some (.iface F tx)/\W.cell? ⟨u,i*4+2,none⟩=some (.iface uT ux)/\W.cell? ⟨gr,i,none⟩=some (.iface vT vx):=⟨_,rfl⟩;have hC:=zy (λW (j:Fr U W N_)=>show CL W by
   rw[k]
   exact⟨(j.bl G id).cell 0,(j.bl G id).cell 1,(j.bl G id).cell 2,(j.bl G id).cell 3,(j.bl Y id).cell 1,(j.bl H id).cell 2,hu.o W (r.trans j u_),hr.o W (r.trans j u_)⟩)
  have u:(i:Int)<(fw.length:Int):=M_;have u:(i:Int)<(dl.length:Int):=M_;have u:¬((i:Int)<0):=M_;replace m:=zy m;replace r:=zy r;replace hwz:=zy hwz;replace k:=zy k;generalize g.letter=gl at V hwz m⊢;generalize g.ty=gt at O L;go_in;go_wp2_with (go_at_call 213;rw[<- hwz.o];apply(V.o _ r).mono;rintro e w1 ⟨rfl,J⟩;rw[m.o];simp only[gv,b5_,Option.isSome_some];have A:=zy J);refine tR_ CL ?_;refine zc 0 ?v0 rfl K_ (λ_ _ _ h=>h) K_ ?yv0 ?_;case yv0=>(intro W h;rw[k.o]at h;obtain⟨c0,c1,c2,c3,c4,c5,c6,c7⟩:=h;go_simp<;>rfl)
  refine zc 1 ?v1 rfl K_ (λ_ _ _ h=>h) K_ ?yv1 ?_;case yv1=>(intro W h;rw[k.o]at h;obtain⟨c0,c1,c2,c3,c4,c5,c6,c7⟩:=h;go_simp<;>rfl)
  refine zc 2 ?v2 rfl K_ (λ_ _ _ h=>h) K_ ?yv2 ?_;case yv2=>(intro W h;rw[k.o]at h;obtain⟨c0,c1,c2,c3,c4,c5,c6,c7⟩:=h;go_simp<;>rfl)
  refine zc 3 ?v3 rfl K_ (λ_ _ _ h=>h) K_ ?yv3 ?_;case yv3=>(intro W h;rw[k.o]at h;obtain⟨c0,c1,c2,c3,c4,c5,c6,c7⟩:=h;go_simp<;>rfl)
  refine zc 4 ?v4 rfl K_ (λ_ _ _ h=>h) K_ ?yv4 ?_;case yv4=>(intro W h;rw[k.o]at h;obtain⟨c0,c1,c2,c3,c4,c5,c6,c7⟩:=h;go_simp<;>rfl)
  refine zc 5 ?v5 rfl K_ (λ_ _ _ h=>h) K_ ?yv5 ?_;case yv5=>(intro W h;rw[k.o]at h;obtain⟨c0,c1,c2,c3,c4,c5,c6,c7⟩:=h;go_simp<;>rfl)
  refine zc 6 ?v6 rfl K_ (λ_ _ _ h=>h) K_ ?yv6 ?_;case yv6=>(intro W h;rw[k.o]at h;obtain⟨c0,c1,c2,c3,c4,c5,c6,c7⟩:=h;go_simp<;>rfl)
  refine zc 7 ?v7 rfl K_ (λ_ _ _ h=>h) K_ ?yv7 ?_;case yv7=>(intro W h;rw[k.o]at h;obtain⟨c0,c1,c2,c3,c4,c5,c6,c7⟩:=h;go_simp<;>rfl)
  refine zc 8 ?v8 rfl K_ (λ_ _ _ h=>h) K_ ?yv8 ?_;case yv8=>(intro W h;rw[k.o]at h;obtain⟨c0,c1,c2,c3,c4,c5,c6,c7⟩:=h;go_simp<;>rfl)
  refine zc 9 ?v9 rfl K_ (λ_ _ _ h=>h) K_ ?yv9 ?_;case yv9=>(intro W h;rw[k.o]at h;obtain⟨c0,c1,c2,c3,c4,c5,c6,c7⟩:=h;go_simp<;>rfl)
  refine zc 10 ?v10 rfl K_ (λ_ _ _ h=>h) K_ ?yv10 ?_;case yv10=>(intro W h;rw[k.o]at h;obtain⟨c0,c1,c2,c3,c4,c5,c6,c7⟩:=h;go_simp<;>rfl)
  refine zc 11 ?v11 rfl K_ (λ_ _ _ h=>h) K_ ?yv11 ?_;case yv11=>(intro W h;rw[k.o]at h;obtain⟨c0,c1,c2,c3,c4,c5,c6,c7⟩:=h;go_simp<;>rfl)
  refine zc 12 ?v12 rfl K_ (λ_ _ _ h=>h) K_ ?yv12 ?_;case yv12=>(intro W h;rw[k.o]at h;obtain⟨c0,c1,c2,c3,c4,c5,c6,c7⟩:=h;go_simp<;>rfl)
  refine zJ 13 rfl K_ (hC.o _ A.o.drew) (λK1 a6=>?_);go_simp;apply(O.o _ (r.o.trans A.o.drew u_)).mono;rintro e k ⟨a0,v2,a8,rfl,k⟩;replace a0:=zy a0;replace k:=zy k;refine a6 _ _ ?_;refine tY_ 14 ?_;refine tY_ 15 ?_;refine tY_ 16 ?_;refine tY_ 17 ?_;refine yq K_ ?cl ?_ _;case cl=>exact hC.o _ (A.o.drew.trans (a0) u_)
  go_wp2;refine bodyPost_ret (v:=.tuple #[v2,a8]) (by simp[results,results192,go_sem];try rfl) rfl ?_;rw[L.o];exact k
 |none=>
  have T:mkF (mkP (zx ds) (zx ds') (xD (zx ds') s') f) (xD (zx ds') s') fw dl g=xD (zx ds') s' g:=by
   unfold mkF;rw[m]
  rw[T]at hk;replace m:=zy m;replace H:=zy H;cases k:g.dflt with
  |none=>unfold xD at hk;rw[k]at hk;cases hk
  |some ae=>
   obtain⟨a,e⟩:=ae;unfold DvM at X;rw[k]at X;obtain⟨u,x,d,O,hb,S,hx⟩:=X;obtain rfl:B=some ⟨u,0,none⟩:=by simpa using O
   obtain rfl:d=z:=by unfold xD at hk;rw[k]at hk;exact Option.some.inj (S.symm.trans hk)
   obtain⟨u,u,rfl⟩:=hx.iface;have K:=zy (λW (j:Fr w W N_)=>hx.fr j u_);replace hb:=zy hb;replace r:=zy r;replace hwz:=zy hwz;generalize g.letter=gl at V hwz m H⊢;generalize g.ty=gt at L K;go_in;go_wp2_with (go_at_call 213;rw[<- hwz.o];apply(V.o _ r).mono;rintro e w1 ⟨rfl,J⟩;rw[m.o];simp only[gv,Option.getD_none,Option.isSome_none];have j:=(J.bl H id).c3;have A:=zy (r.o.trans J u_);have j:=(A.o.bl hb id).c2);try go_ret
   rw[L.o];exact⟨_,rfl,A,(K.o _ A).mono (λb _ hb=>.inl hb)⟩
def uM{w:Aw}{k0:Nat}{sT rT:Av}{sx rx:Ax}{fw fr:An}{pr:Nat}{dl:Ae}{r:Ay}{N L:Ax}{p2:Int}(Z:Xt P Q s s' ds ds' sv sv' xs xs' k0 sT sx rT rx f)(M:MC P Q s s' ds ds' sv sv' xs xs' k0 w)(K:xh w P s fw N zs)(G:xh w Q s' fr L r)(hl:fw.length<=300)(a2:fr.length<=300)(S:dl.length=fw.length)(X:zx ds' c=some (.recd fr))(U:∀i g dd,fr[i]?=some g->r[4*i+3]?=some dd->DvM k0 w (zx ds') s' g dd)(a0:∀h∈fw,okT (zx ds) h.ty)(a1:∀g∈fr,okT (zx ds') g.ty)(fy:∀g∈fr,vq g.ty)(ho:w.ownsRow 0 52 1 lv0 dl.length ((List.range dl.length).flatMap λi=>[Y0 i]))(hd:∀(i:Nat) (d:DT) (h:PF),dl[i]?=some d->fw[i]?=some h->Dat (zx ds) d h.ty/\DaV (zx ds) w (λg=>g<k0) d h.ty (Y0 i))(h1:za dl<=299)(O:za dl<=f){m0:Ae}(hk:vm (mkF (mkP (zx ds) (zx ds') (xD (zx ds') s') f) (xD (zx ds') s') fw dl) fr=some m0):Calls prog 143 #[.agg #[sv,.iface sT sx,sv',.iface rT rx],.agg #[Z_ p,N,Z_ p2,L],.iface 152 lv0] w (ye (zx ds') (.leaf c pr) k0 w (.mk 114 0 noB [] m0)):=by
 obtain⟨L,I⟩:=y_ (ye (zx ds') (.leaf c pr) k0 w (.mk 114 0 noB [] m0));rw[<- I.o];have hMd:=zy (λW (j:Fr w W N_) i (g:PF) pl T x dp (hi:fr[i]?=some g) (hT:TyV W Q g.ty (.iface T x)) (hz:r[4*i+3]?=some (.pointer dp)) z=>dS (z:=z) (p:=p) (pl:=pl) Z (M.new j) (K.fr j u_) hl S hT ((U i g _ hi hz).fr j) a0 (a1 g (ah_ hi)) (fy g (ah_ hi)) (zj ho j u_) (λi d h a b=>⟨(hd i d h a b).1,(hd i d h a b).2.fr j u_⟩) h1 O);have hk0:=zy M.k;have hcell:=zy (λW (j:Fr w W N_) i (g:PF) (hi:fr[i]?=some g)=>show ∃T x dp,TyV W Q g.ty (.iface T x)/\r[4*i]?=some (I_ g.place)/\r[4*i+1]?=some (U_ g.letter)/\r[4*i+2]?=some (.iface T x)/\r[4*i+3]?=some (.pointer dp) from by
  obtain⟨a,b,r,d,q1,q2,q3,q4,rfl,rfl,hT,F⟩:=G.V i g hi
  obtain⟨T,x,rfl⟩:=hT.iface
  obtain⟨J,rfl⟩:∃J,d=.pointer J:=by
   unfold DfV at F
   split at F
   .exact⟨_,F⟩
   .obtain⟨g',r,_,e,_⟩:=F;exact⟨_,e⟩
  exact⟨T,x,J,hT.fr j u_,q1,q2,q3,q4⟩)
 have hrG:=zy G.row;obtain⟨sa,sc,rfl⟩:=zw M.D.row;obtain⟨ra,rc,rfl⟩:=zw M.E.row;obtain⟨j,j,rfl⟩:=zw ho;obtain⟨u,A,rfl⟩:=zw K.row;obtain⟨B,C,rfl⟩:=zw G.row;generalize hR:mkF (mkP (zx ds) (zx ds') (xD (zx ds') s') f) (xD (zx ds') s') fw dl=R at hMd hk;obtain⟨wz,H⟩:=e_ ((w.alloc (.cells #[.slice sa ds.length sc,.iface sT sx,.slice ra ds'.length rc,.iface rT rx] 83)).alloc (.cells #[Z_ p,.slice u fw.length A,Z_ p2,.slice B fr.length C] 288));have start:ML (zx ds') k0 [.slice sa ds.length sc,.iface sT sx,.slice ra ds'.length rc,.iface rT rx] 83 [Z_ p,.slice u fw.length A,Z_ p2,.slice B fr.length C] 288 (.leaf c pr) w (L_) [] wz:=by
  rw[H];refine⟨((A_ w N_).alloc _).alloc _,(B_ w #[.slice sa ds.length sc,.iface sT sx,.slice ra ds'.length rc,.iface rT rx] 83).alloc _,?_,by rw[zm,zm];omega,jY.nil _ _ _ _ _⟩;have h:=B_ (w.alloc (.cells #[.slice sa ds.length sc,.iface sT sx,.slice ra ds'.length rc,.iface rT rx] 83)) #[Z_ p,.slice u fw.length A,Z_ p2,.slice B fr.length C] 288;rw[zm]at h;exact h
 have hsub:∀i g,fr[i]?=some g->yg (zx ds') (.leaf c pr) 0 i=g.ty:=λi g hi=>by
  simp only[yg,X,au_,av_,hi,bc_,b5_]
 replace start:=zy start;replace H:=zy H;replace hsub:=zy hsub;replace hk:=zy hk;clear Z M K G a0 a1 fy hd U h1 O hR ho X S;generalize zx ds'=er at hMd I start hsub;go_in;go_wp2;rw[<- H.o];go_loopg [10,27] (fr.length+1) (λm j v W=>∃(q:Nat) (l:List DT),v=I_ q/\q<=fr.length/\fr.length+1-q<=m/\H_ (vm R (fr.take q)=some l)/\H_ (ML er k0 [.slice sa ds.length sc,.iface sT sx,.slice ra ds'.length rc,.iface rT rx] 83 [Z_ p,.slice u fw.length A,Z_ p2,.slice B fr.length C] 288 (.leaf c pr) w j l W));case atStart=>exact⟨0,[],rfl,al_ _,M_,zy rfl,zy start⟩
 case round=>
  clear start;obtain⟨q,l,rfl,j,hm,hmp,hQ⟩:=hrel;have hll:l.length=q:=by have:=lI hmp;rw[cc_]at this;omega
  obtain⟨Y,hrow,hY⟩:=hQ.o.row;rw[hll]at hrow;obtain⟨la,lc,rfl⟩:=zw hrow;by_cases hlt:q<fr.length
  .have cc1:=Nat;exact cwdN1_
  .have hlt':¬((q:Int)<(fr.length:Int)):=M_;obtain rfl:m0=l:=by have:=hmp.o;rw[bb_ M_,hk.o]at this;cases this;rfl
   clear hrow hY hmp;go_wp2;try go_ret
   rw[I.o];exact⟨_,rfl,hQ.o.fr,hQ.o.done (.inr ⟨rfl,rfl⟩)⟩
def uB{w:Aw}{er:Au}{k0:Nat}{lr:As}{o:Ac}{pr l:Nat}{p2:Int}{fa:Am}{fn fc:Nat}{a:Am}{rv u:Ax}(ho:w.ownsRow 0 191 2 rv lr.length (zE lr))(hu:qb w Q o u)(hl:lr.length<=300)(E:er c=some (.enum lr o))(F:∀q∈lr,zl q.1=true){q:Nat}(g:qh lr o l=some q):Calls prog 142 #[.agg #[Z_ p,.slice fa fn fc,.pointer a,Z_ p2,rv,u],.iface 154 (.agg #[U_ l,I_ n])] w (ye er (.leaf c pr) k0 w (DT.mk 101 (q:Int) noB [] [])):=by
 obtain⟨O,C⟩:=y_ (ye er (.leaf c pr) k0 w (DT.mk 101 (q:Int) noB [] []));rw[<- C.o];obtain⟨ra,rc,rfl⟩:=zw ho;obtain⟨A,rfl⟩:=hu.ptr;have D:=zy (λW (j:Fr w W N_)=>rl (p:=p2) (c:=l) (zj ho j u_) (hu.fr j u_) hl);obtain⟨G,hwz⟩:=e_ ((w.alloc (.cells #[Z_ p,.slice fa fn fc,.pointer a,Z_ p2,.slice ra lr.length rc,.pointer A] 285)).alloc (.cells #[U_ l,I_ n] 154));have i:Fr w G N_:=ya_
 have m:Blk G w.heap.size [Z_ p,.slice fa fn fc,.pointer a,Z_ p2,.slice ra lr.length rc,.pointer A] 285:=by
  rw[hwz];exact(B_ w #[Z_ p,.slice fa fn fc,.pointer a,Z_ p2,.slice ra lr.length rc,.pointer A] 285).alloc _
 replace m:=zy m;replace i:=zy i;replace hwz:=zy hwz;rw[g]at D;obtain⟨⟨z,pq⟩,k⟩:∃e,lr[q]?=some e:=by
  have key:∀x,(lr.map Prod.fst).findIdx? (λy=>y==x)=some q->∃e,lr[q]?=some e:=λx h=>by
   have:=(List.findIdx?_eq_some_iff_findIdx_eq.1 h).1;rw[br_]at this;exact⟨_,ai_ this⟩
  unfold qh at g;split at g
  .rename_i h;cases g;exact key _ h
  .split at g
   .cases g
   .exact key _ g
 have U:q<lr.length:=(aj_.1 k).1;have X:(q:Int)<(lr.length:Int):=M_;have V:¬((q:Int)<0):=M_;obtain⟨T,S,J⟩:=zg ho M_;cases J;have hc:=zy (λW (j:Fr w W N_)=>zr (zj ho j u_) rfl (xB k).2);have K:=F _ (ah_ k);have L:=zy (show fU er (.leaf c pr) q=z by
  simp only[fU,E,au_,av_,k,bc_,b5_])
 go_in;go_wp2_with (go_at_call 191;rw[<- hwz.o];apply(D.o _ i).mono;rintro e w1 ⟨rfl,r⟩;simp only[gv,b5_,Option.isSome_some];have B:=zy (i.o.trans r u_);have Y:=(r.bl m id).c4;have Z:=hc.o w1 B);try go_ret
 rw[C.o];refine⟨_,rfl,B,.flat (.sym q z M_) (λN M e=>?_)⟩;simp only[Value.iface.injEq,Value.agg.injEq,true_and]at e;have H:=congrArg (λx:Array Value=>x[0]?) e;have I:=congrArg (λx:Array Value=>x[1]?) e;simp only[List.getElem?_toArray,aa_,ab_,af_,Value.int.injEq,true_and]at H I;obtain rfl:q=N:=M_;obtain rfl:z=M:=M_;refine⟨L,?_⟩;simp only[zl,az_,decide_eq_true_eq]at K;omega
section
variable {w:Aw} {sa ra:Am} {sn sc rn rc:Nat} {sT rT aT bT dT:Av} {sx rx ax bx dx:Ax}
def cq24_{p:Prop}(h:p:=by
 refine hq_ λm j=>?_;have i:=zy (λo k=>((A_ w N_).alloc o).alloc k);replace h:=zy h;go_in;go_wp2_with ((first|go_at_call 189|go_at_call 190);apply(h.o _ (i.o _ _)).mono;rintro e w1 ⟨v,q,rfl,g⟩;replace g:=zy g);try go_ret
 rw[j.o];exact g.o):p:=h
def uU{R:Bt}{la:Am}{ln lc:Nat}(h:∀W,Fr w W N_->Calls prog 189 #[.agg #[.slice sa sn sc,.iface sT sx,.slice ra rn rc,.iface rT rx],.agg #[.iface aT ax,.iface bT bx],.slice la ln lc] W (λe w'=>∃v ev,e=.returned (.tuple #[v,ev])/\R (.returned (.tuple #[v,ev])) w')):Calls prog 141 #[.agg #[.slice sa sn sc,.iface sT sx,.slice ra rn rc,.iface rT rx],.agg #[.iface aT ax,.iface bT bx],.iface 144 (.slice la ln lc)] w R:=by
 exact cq24_
def cX{R:Bt}{la:Am}{ln lc:Nat}(h:∀W,Fr w W N_->Calls prog 190 #[.agg #[.slice sa sn sc,.iface sT sx,.slice ra rn rc,.iface rT rx],.agg #[.iface aT ax,.iface bT bx],.slice la ln lc] W (λe w'=>∃v ev,e=.returned (.tuple #[v,ev])/\R (.returned (.tuple #[v,ev])) w')):Calls prog 141 #[.agg #[.slice sa sn sc,.iface sT sx,.slice ra rn rc,.iface rT rx],.agg #[.iface aT ax,.iface bT bx],.iface 147 (.slice la ln lc)] w R:=by
 have cc1:=Nat
 exact cq24_
end
def Kw{er:Au}{w:Aw}{K L:Az}{R:Dp}{p:Nat}(hc:zi c=true)(hm:xi ew er (.leaf c p) y=true)(hd:Dat ew d (.leaf c p))(hv:DaV ew w K d (.leaf c p) v):∃x,mkB R ew er df (.leaf c p) y d=some x/\DaV er w L x y v:=by
 cases y with
 |wrap c' p' u'=>simp[xi]at hm
 |alts p' l'=>simp[xi]at hm
 |leaf c' p'=>
  simp only[xi,i_ hc,ax_,beq_iff_eq,az_]at hm;have g:∀{x:DT},qx x v->kdD x≠101->DaV er w L x (.leaf c' p') v:=λh hk=>.flat h (λn l e=>absurd e (h.nosym hk n l));have one:kdD d≠40->kdD d≠91->kdD d≠114->kdD d≠123->kdD d≠101->(c'=108->kdD d=108)->∃x,mkB R ew er df (.leaf c p) (.leaf c' p') d=some x/\DaV er w L x (.leaf c' p') v:=λh1 i j m o q=>by
   refine⟨d,?_,g (hv.leaf h1 i j m) o⟩;obtain⟨k,n,tx,ks,ds⟩:=d;simp only[mkB,i_ hc];split
   .rename_i h;rw[show(108:Nat)=k from(q h).symm]
   .rfl
  cases hd with
  |null=>exact one D_ D_ D_ D_ D_ (λh=>M_)
  |bool hq=>exact one xc_ xc_ xc_ xc_ xc_ (λh=>M_)
  |num h0 h1=>
   rcases hm with rfl|⟨_,rfl⟩
   .exact one xc_ xc_ xc_ xc_ xc_ (λh=>M_)
   .refine⟨_,by simp only[mkB,i_ hc,if_true],g ((hv.leaf xc_ xc_ xc_ xc_).long rfl) xc_⟩
  |long h0 h1=>exact one xc_ xc_ xc_ xc_ xc_ (λh=>by simp[kdD])
  |text hx h1=>exact one xc_ xc_ xc_ xc_ xc_ (λh=>M_)
  |bytes he hb' hx=>rw[hc]at hb';cases hb'
  |sym he hb' hn=>rw[hc]at hb';cases hb'
  |recd he hb' hl hh=>rw[hc]at hb';cases hb'
def tO{w:Aw}{k0:Nat}{sT rT:Av}{sx rx:Ax}{m:Ax}(N:MS ds ds')(U:Xt P Q s s' ds ds' sv sv' xs xs' k0 sT sx rT rx f)(M:MC P Q s s' ds ds' sv sv' xs xs' k0 w)(h:MtV w P Q s s' (zx ds) (zx ds') (ZV ds' xs') x y m)(a0:okT (zx ds) x)(a1:okT (zx ds') y)(fy:vq y)(hd:Dat (zx ds) d x)(hv:DaV (zx ds) w (λg=>g<k0) d x v)(h1:ndT d<=300)(O:ndT d<=f+1){z:DT}(a4:xi (zx ds) (zx ds') x y=true)(r:mkB (mkP (zx ds) (zx ds') (xD (zx ds') s') f) (zx ds) (zx ds') (xD (zx ds') s') x y d=some z):Calls prog 85 #[.agg #[sv,.iface sT sx,sv',.iface rT rx],m,v] w (ye (zx ds') y k0 w z):=by
 obtain⟨sa,sc,B⟩:=zw M.D.row;obtain⟨ra,rc,A⟩:=zw M.E.row;obtain⟨vT,vx,a6⟩:=hv.iface;cases h with
 |never hm=>rw[hm]at a4;cases a4
 |same hc hm=>
  obtain⟨z',hz,b9⟩:=Kw (L:=λg=>g<k0) (R:=mkP (zx ds) (zx ds') (xD (zx ds') s') f) (df:=xD (zx ds') s') hc hm hd hv;obtain rfl:z'=z:=Option.some.inj (hz.symm.trans r);subst B A a6;apply mG.mono;rintro e w' ⟨rfl,hf⟩;exact⟨_,rfl,hf,(b9.fr hf u_).mono (λg _ hg=>.inl hg)⟩
 |items hc ha hb=>
  rename_i c p p' t t' a b;unfold okT at a0 a1;unfold vq at fy;obtain⟨aT,ax,rfl⟩:=ha.iface;obtain⟨bT,bx,rfl⟩:=hb.iface;cases hd with
  |list hl hds=>
   rename_i Z;rw[yN]at h1 O;simp only[mkB]at r;obtain⟨m0,I,rfl⟩:=b4_.1 r
   .obtain⟨lv,Y0,H,ho,G⟩:=hv.row_inv rfl (.inl rfl);rw[i_ rfl]at H;subst H;obtain⟨la,lc,rfl⟩:=zw ho;have C:=λW (j:Fr w W N_)=>(lE (sT:=sT) (rT:=rT) (sx:=sx) (rx:=rx) (p':=p') U (M.new j) (ha.fr j u_) (hb.fr j u_) a0.2 a1.2 fy (zj ho j u_) hds (λi d e=>(G i d e).fr j u_) M_ M_ I);have S:=λW (j:Fr w W N_)=>uU (w:=W) (sa:=sa) (sn:=ds.length) (sc:=sc) (ra:=ra) (rn:=ds'.length) (rc:=rc) (sT:=sT) (rT:=rT) (sx:=sx) (rx:=rx) (aT:=aT) (ax:=ax) (bT:=bT) (bx:=bx) (la:=la) (ln:=Z.length) (lc:=lc) (λV (F:Fr W V N_)=>by
     rw[<- B,<- A]
     exact(C V (j.trans F u_)).mono (λe w' q=>(q.pre (j.trans F u_)).tup))
    subst B A;exact(gm (λW j=>(S W j).mono (λe w' q=>q.tup)))
  |map hl hk hrs hds=>
   rename_i ks Z;rw[yN]at h1 O;simp only[mkB]at r;obtain⟨m0,I,rfl⟩:=b4_.1 r
   .obtain⟨lv,Y0,rfl,b4,b5,ho,G⟩:=hv.map_inv rfl;obtain⟨la,lc,rfl⟩:=zw ho;have C:=λW (j:Fr w W N_)=>(dN (sT:=sT) (rT:=rT) (sx:=sx) (rx:=rx) (p':=p') U (M.new j) (ha.fr j u_) (hb.fr j u_) a0.2 a1.2 fy b4 b5 (zj ho j u_) hds (λi d e=>(G i d e).fr j u_) M_ M_ I);have S:=λW (j:Fr w W N_)=>cX (w:=W) (sa:=sa) (sn:=ds.length) (sc:=sc) (ra:=ra) (rn:=ds'.length) (rc:=rc) (sT:=sT) (rT:=rT) (sx:=sx) (rx:=rx) (aT:=aT) (ax:=ax) (bT:=bT) (bx:=bx) (la:=la) (ln:=Z.length) (lc:=lc) (λV (F:Fr W V N_)=>by
     rw[<- B,<- A]
     exact(C V (j.trans F u_)).mono (λe w' q=>(q.pre (j.trans F u_)).tup))
    subst B A;exact(gm (λW j=>(S W j).mono (λe w' q=>q.tup)))
 |body hc hx hy ha hb hz hm hs=>
  rename_i c p p' X Y a b;have k:=xM hc;have T:¬zi c=true:=by rw[k];decide
  have a3:=N.g c X hx;have K:=N.g' c Y hy;cases hm with
  |never h=>exact absurd hs h
  |same=>
   cases hd with
   |null=>exact absurd rfl (xg k).1
   |bool _=>exact absurd rfl (xg k).2.1
   |num _ _=>exact absurd rfl (xg k).2.2.1
   |long _ _=>exact absurd rfl (xg k).2.2.2.1
   |text _ _=>exact absurd rfl (xg k).2.2.2.2
   |sym he _ _=>rw[hx]at he;cases he
   |recd he _ _ _=>rw[hx]at he;cases he
   |bytes he _ hlt=>
    have J:mkB (mkP (zx ds) (zx ds') (xD (zx ds') s') f) (zx ds) (zx ds') (xD (zx ds') s') (.leaf c p) (.leaf c p') (.mk 102 0 ‹BA› [] [])=some (.mk 102 0 ‹BA› [] []):=by
     simp only[mkB,n_ T,hx,hy]
    obtain rfl:=Option.some.inj (J.symm.trans r);have a2:=hv.leaf xc_ xc_ xc_ xc_;subst B A a6;apply mG.mono;rintro e w' ⟨rfl,hf⟩;exact⟨_,rfl,hf,.flat a2 (λn l e=>absurd e (a2.nosym xc_ n l))⟩
  |syms=>
   rename_i lw lr ow or' pp a8 u qq a7 u';cases hd with
   |null=>exact absurd rfl (xg k).1
   |bool _=>exact absurd rfl (xg k).2.1
   |num _ _=>exact absurd rfl (xg k).2.2.1
   |long _ _=>exact absurd rfl (xg k).2.2.2.1
   |text _ _=>exact absurd rfl (xg k).2.2.2.2
   |bytes he _ _=>rw[hx]at he;cases he
   |recd he _ _ _=>rw[hx]at he;cases he
   |sym he _hb hn=>
    rename_i n l o;rw[hx]at he;cases he;have J:mkB (mkP (zx ds) (zx ds') (xD (zx ds') s') f) (zx ds) (zx ds') (xD (zx ds') s') (.leaf c p) (.leaf c p') (.mk 101 (n:Int) noB [] [])=(qh lr or' ((lw.map Prod.fst).getD n 0)).map (λ(q:Nat)=>DT.mk 101 (q:Int) noB [] []):=by
     simp only[mkB,n_ T,hx,hy,bx_]
    rw[J]at r;obtain⟨q0,a5,rfl⟩:=b4_.1 r
    .obtain⟨l',rfl,b8,d2⟩:=hv.sym_inv rfl
     .have b6:(lw.map Prod.fst).getD n 0=l':=by
       rw[<- b8];simp only[fU,hx]
      rw[b6]at a5;cases ha with
      |enum pa hoa hPa hua=>
       cases hb with
       |enum pb hob hPb hub=>
        obtain⟨fa,fc,rfl⟩:=zw hoa;obtain⟨ga,gc,rfl⟩:=zw hob;obtain⟨ud,rfl⟩:=hua.ptr;obtain⟨d6,rfl⟩:=hub.ptr;have C:=λW (j:Fr w W N_)=>uB (w:=W) (k0:=k0) (pr:=p') (n:=n) (l:=l') (p:=(pa:Int)) (p2:=(pb:Int)) (fa:=fa) (fn:=lw.length) (fc:=fc) (a:=ud) (zj hob j u_) (hub.fr j u_) K.1.1 hy K.1.2.1 a5;subst B A;exact uC (λW j=>(C W j).mono (λe w' q=>(q.pre j).tup))
  |flds=>
   rename_i fw fr pp a8 qq a7;cases hd with
   |null=>exact absurd rfl (xg k).1
   |bool _=>exact absurd rfl (xg k).2.1
   |num _ _=>exact absurd rfl (xg k).2.2.1
   |long _ _=>exact absurd rfl (xg k).2.2.2.1
   |text _ _=>exact absurd rfl (xg k).2.2.2.2
   |bytes he _ _=>rw[hx]at he;cases he
   |sym he _ _=>rw[hx]at he;cases he
   |recd he _hb hl hh=>
    rename_i fs dl;rw[hx]at he;cases he;rw[yN]at h1 O;have J:mkB (mkP (zx ds) (zx ds') (xD (zx ds') s') f) (zx ds) (zx ds') (xD (zx ds') s') (.leaf c p) (.leaf c p') (.mk 114 0 noB [] dl)=(vm (mkF (mkP (zx ds) (zx ds') (xD (zx ds') s') f) (xD (zx ds') s') fw dl) fr).map (λl=>.mk 114 0 noB [] l):=by
     simp only[mkB,n_ T,hx,hy]
    rw[J]at r;obtain⟨m0,I,rfl⟩:=b4_.1 r
    .obtain⟨lv,Y0,H,ho,G⟩:=hv.row_inv rfl (.inr rfl);rw[n_ D_]at H;subst H;cases ha with
     |recd pa hoa hPa hVa=>
      cases hb with
      |recd pb hob hPb hVb=>
       have a9:=λW (j:Fr w W N_)=>(M.new j).dvm hz (zj hob j u_) (hVb.fr j u_);have hF:=(⟨hoa,hPa,hVa⟩:xh w P s fw a8 _);have hG:=(⟨hob,hPb,hVb⟩:xh w Q s' fr a7 _);obtain⟨la,lc,rfl⟩:=zw ho;obtain⟨fa,fc,rfl⟩:=zw hoa;obtain⟨ga,gc,rfl⟩:=zw hob;have b7:∀(i:Nat) (h:PF),fw[i]?=some h->yg (zx ds) (.leaf c p) 0 i=h.ty:=λi h hi=>by
        simp only[yg,hx,au_,av_,hi,bc_,b5_]
       have C:=λW (j:Fr w W N_)=>uM (sT:=sT) (rT:=rT) (sx:=sx) (rx:=rx) (pr:=p') (p:=(pa:Int)) (p2:=(pb:Int)) U (M.new j) (hF.fr j u_) (hG.fr j u_) a3.1.1 K.1.1 hl hy (a9 W j) a3.2 K.2 (N.f' c fr hy).2 (zj ho j u_) (λi d h hi hf=>⟨hh i d h.ty hi zn_,by
        have:=(G i d hi).fr j u_
        rw[b7 i h hf]at this
        exact this⟩) M_ M_ I
       subst B A;exact cV (λW j=>(C W j).mono (λe w' q=>(q.pre j).tup))
def Wy{er:Au}(fx:vJ x)(fy:vJ y):mkP ew er df (f+1) x y d=if xi ew er x y=true then mkB (mkP ew er df f) ew er df x y d else none:=by
 cases x with
 |alts p l=>exact fx.elim
 |leaf c p=>
  cases y with
  |alts p l=>exact fy.elim
  |leaf c p=>rfl
  |wrap c p u=>rfl
 |wrap c p u=>
  cases y with
  |alts p l=>exact fy.elim
  |leaf c p=>rfl
  |wrap c p u=>rfl
def Wz{er:Au}{p:Nat}{rs:Af}(fx:vJ x):mkP ew er df (f+1) x (.alts p rs) d=match xZ ew er x rs 0 none with
 |none=>none
 |some k=>match rs[k]? with|none=>none|some r1=>(mkB (mkP ew er df f) ew er df x r1 d).map (λx=>.mk 40 (k:Int) noB [] [x]):=by
 cases x with
 |alts p l=>exact fx.elim
 |leaf c p=>rfl
 |wrap c p u=>rfl
def FW{er:Au}{p:Nat}{ws:Af}{w1:PT}{d1:DT}(h:ws[n]?=some w1):mkP ew er df (f+1) (.alts p ws) y (.mk 40 (n:Int) noB [] [d1])=mkP ew er df f w1 y d1:=by
 show(match ws[(n:Int).toNat]?,[d1] with|some w1,d1::_=>mkP ew er df f w1 y d1|_,_=>none)=_;rw[bx_,h]
def bY(d:DT):0<ndT d:=by
 obtain⟨k,n,tx,ks,ds⟩:=d;rw[yN];omega
def FG{k0:Nat}{sT rT:Av}{sx rx:Ax}(U:MS ds ds'):∀f,Xt P Q s s' ds ds' sv sv' xs xs' k0 sT sx rT rx f:=by
 intro f;induction f with
 |zero=>intro w x y d z a b v _ _ _ _ _ _ _ _ _ h;have:=bY d;omega
 |succ f ih=>
  intro w x y d z a b v M ha hb A B fy hd hv h1 o hz;have a1:=λW (j:Fr w W N_)=>(aO (sT:=sT) (rT:=rT) (sx:=sx) (rx:=rx) (M.new j).D (M.new j).E (ha.fr j u_) (hb.fr j u_) A B fy).mono (λe w' (q:∃v,e=.returned v/\Fr W w' N_/\MeV w' P Q s s' (zx ds) (zx ds') (ZV ds' xs') x y v)=>show ∃T u,e=.returned (.iface T u)/\Fr W w' N_/\MeV w' P Q s s' (zx ds) (zx ds') (ZV ds' xs') x y (.iface T u) by
   obtain⟨v,h1,o,Y⟩:=q
   obtain⟨T,u,rfl⟩:=Y.iface
   exact⟨T,u,h1,o,Y⟩)
  obtain⟨sa,sc,R⟩:=zw M.D.row;obtain⟨ra,rc,L⟩:=zw M.E.row;obtain⟨aT,ax,rfl⟩:=ha.iface;obtain⟨bT,bx,rfl⟩:=hb.iface;obtain⟨vT,vx,rfl⟩:=hv.iface;have hB:∀W T u,Fr w W N_->MeV W P Q s s' (zx ds) (zx ds') (ZV ds' xs') x y (.iface T u)->Calls prog 85 #[.agg #[sv,.iface sT sx,sv',.iface rT rx],.iface T u,.iface vT vx] W (ye (zx ds') y k0 W z):=by
   intro W T u j C;have G:=M.new j;have S:=hv.fr j u_;generalize hm:Value.iface T u=mv at C⊢;cases C with
   |outb X ho hX hb1 _=>
    rename_i p ws uv b1 b5;unfold okT at A;have I:=vI A.2;cases hd with
    |alts hn hl hd1=>
     rename_i n F d1;rw[yN]at h1 o;simp only[za]at h1 o;rw[FW hl]at hz
     .obtain⟨b6,v1,a7,J⟩:=S.branch_inv rfl;have O:yg (zx ds) (.alts p ws) n 0=F:=by
       show ws.getD n (.leaf 0 0)=F;rw[au_,hl];rfl
      rw[O]at J;obtain⟨ua,uc,a5⟩:=zw ho;obtain⟨a9,b4,a3⟩:=hb1.iface;obtain⟨b7,b8,a6⟩:=J.iface;have H:=λV (g:Fr W V N_)=>dD (sT:=sT) (rT:=rT) (sx:=sx) (rx:=rx) ih (G.new g) (zj ho g u_) (λi t h=>(hX i t h).fr g u_) (hb1.fr g u_) hl (I F (ah_ hl)).2 B fy hd1 (J.fr g u_) M_ M_ hz;rw[a7];subst R L a5 a3 a6;exact io (λV g=>(H V g).mono (λe w' q=>(q.pre g).tup))
   |into fx h=>
    rename_i p rs;unfold okT at B;unfold vq at fy;have I:=vI B.2;rw[Wz fx]at hz;cases hk:xZ (zx ds) (zx ds') x rs 0 none with
    |none=>rw[hk]at hz;cases hz
    |some k=>
     rw[hk]at h hz;obtain⟨r,T1,F,hr,rfl,K,a2⟩:=h;have Z:=ah_ hr;have a4:k<=4000:=by have:=(aj_.1 hr).1;omega
     simp only[hr]at hz;obtain⟨z0,a8,rfl⟩:=b4_.1 hz;have H:=λV (g:Fr W V N_)=>tO (sT:=sT) (rT:=rT) (sx:=sx) (rx:=rx) U ih (G.new g) (a2.fr g u_ u_) A (I r Z).2 (kU fy.2 r Z) hd (S.fr g u_) h1 o K a8;have O:yg (zx ds') (.alts p rs) k 0=r:=by
      show rs.getD k (.leaf 0 0)=r;rw[au_,hr];rfl
     subst R L;exact oy (λV g=>(ia a4 O (λa0 hU=>H a0 (g.trans hU u_))).mono (λe w' q=>(q.pre g).tup))
   |flat fx fy' h=>
    rw[Wy fx fy']at hz;split at hz
    .rename_i K;exact tO (sT:=sT) (rT:=rT) (sx:=sx) (rx:=rx) U ih G h A B fy hd S h1 o K hz
    .cases hz
  subst R L;exact Wf (N:=λm W=>MeV W P Q s s' (zx ds) (zx ds') (ZV ds' xs') x y m) a1 (λW T u j C=>(hB W T u j C).mono (λe w' q=>by
   obtain⟨v,ev,he,hq⟩:=(q.pre j).tup
   exact⟨v,ev,he,(ye.two j q).1,hq⟩))
def Wg{w:Aw}{k0:Nat}(j:MS ds ds')(M:MC P Q s s' ds ds' sv sv' xs xs' k0 w)(ha:TyV w P x a)(hb:TyV w Q y b)(m:okT (zx ds) x)(r:okT (zx ds') y)(fy:vq y)(hd:Dat (zx ds) d x)(hv:DaV (zx ds) w (λg=>g<k0) d x v)(h1:ndT d<=300){z:DT}(hz:mkP (zx ds) (zx ds') (xD (zx ds') s') 300 x y d=some z):Calls prog 28 #[.agg #[sv,a],.agg #[sv',b],v] w (ye (zx ds') y k0 w z):=by
 obtain⟨h,k⟩:=y_ (ye (zx ds') y k0 w z);rw[<- k.o];obtain⟨aT,ax,rfl⟩:=ha.iface;obtain⟨bT,bx,rfl⟩:=hb.iface;have i:=λW (h:Fr w W N_)=>(FG (P:=P) (Q:=Q) (xs:=xs) (xs':=xs') (s:=s) (s':=s') (sv:=sv) (sv':=sv') (k0:=k0) (sT:=aT) (sx:=ax) (rT:=bT) (rx:=bx) j 300 W x y d z _ _ v (M.new h) (ha.fr h u_) (hb.fr h u_) m r fy hd (hv.fr h u_) h1 h1 hz).mono (λe w' q=>(q.pre h).tup);obtain⟨sa,sc,rfl⟩:=zw M.D.row;obtain⟨ra,rc,rfl⟩:=zw M.E.row;obtain⟨h,h,rfl⟩:=hv.iface;replace i:=zy i;have h:=zy (λo u=>((A_ w N_).alloc o).alloc u);go_in;go_wp2_with (go_at_call 48;apply(i.o _ (h.o _ _)).mono;rintro e w1 ⟨h,h,rfl,h⟩;replace h:=zy h);try go_ret
 rw[k.o];exact h
end Go.Proofs.YtlmebjdmdogmfaaGreatDoor
