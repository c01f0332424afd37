import Derived.Test.YtamhgejdkclmdaaGreatDoorW22
import Derived.Maps.OwnSet
import Derived.Laws.OwnMore
set_option maxHeartbeats 16000000
set_option maxRecDepth 100000
set_option linter.defProp false
set_option linter.unusedSimpArgs false
set_option linter.unusedVariables false
open Go.Proofs.Tryz
namespace Go.Proofs.YtamhgejdkclmdaaGreatDoor
open Go.RowKit
variable {t y x:PT}{s s' bs:BA}{ds ds':Aq}{er ew e:Au}{n k0 f c p b:Nat}{d:DT}{sv sv' v:Ax}{df:Dd}{Q P S:Az}{xs xs':Ay}{A:Bb}{D:DataW Unit}{β:Type}{W1:Aw}
def uB{w:Aw}{sT rT:Av}{sx rx:Ax}{fw fr:An}{pr:Nat}{dl:Ae}{zs r:Ay}{O:Ah}{X U a3:Ax}{p p2:Int}(ih:Xc P Q s s' ds ds' sv sv' xs xs' k0 sT sx rT rx f)(M:MC P Q s s' ds ds' sv sv' xs xs' k0 w)(N:xu w P s fw X zs)(H:xu w Q s' fr U r)(hl:fw.length<=300)(a6:fr.length<=300)(a0:dl.length=fw.length)(a2:zx ds' c=some (.recd fr))(a1:∀i g dd,fr[i]?=some g->r[4*i+3]?=some dd->DvM k0 w (zx ds') s' g dd)(a4:∀h∈fw,okT (zx ds) h.ty)(a5:∀g∈fr,okT (zx ds') g.ty)(fy:∀g∈fr,xA g.ty)(ho:w.ownsRow 0 64 1 a3 dl.length ((List.range dl.length).flatMap λi=>[O i]))(hd:∀(i:Nat) (d:DT) (h:PF),dl[i]?=some d->fw[i]?=some h->Dat (zx ds) d h.ty/\DaV (zx ds) w (λg=>g<k0) d h.ty (O i))(h1:zY dl<=299)(Z:zY dl<=f){m0:Ae}(hk:xo (mkF (mkP (zx ds) (zx ds') (yE (zx ds') s') f) (yE (zx ds') s') fw dl) fr=some m0):Calls prog 122 #[.agg #[sv,.iface sT sx,sv',.iface rT rx],.agg #[Z_ p,X,Z_ p2,U],.iface 155 a3] w (yh (zx ds') (.leaf c pr) k0 w (.mk 114 0 noB [] m0)):=by
 obtain⟨O,K⟩:=y_ (yh (zx ds') (.leaf c pr) k0 w (.mk 114 0 noB [] m0));rw[<- K.o];have hMd:=zy (λW (j:Fr w W N_) i (g:PF) pl T x dp (hi:fr[i]?=some g) (hT:TyV W Q g.ty (.iface T x)) (hz:r[4*i+3]?=some (.pointer dp)) z=>tz (z:=z) (p:=p) (pl:=pl) ih (M.new j) (N.fr j u_) hl a0 hT ((a1 i g _ hi hz).fr j) a4 (a5 g (ag_ hi)) (fy g (ag_ hi)) (zj ho j u_) (λi d h a b=>⟨(hd i d h a b).1,(hd i d h a b).2.fr j u_⟩) h1 Z);have hk0:=zy M.k;have hcell:=zy (λW (j:Fr w W N_) i (g:PF) (hi:fr[i]?=some g)=>show ∃T x dp,TyV W Q g.ty (.iface T x)/\r[4*i]?=some (I_ g.place)/\r[4*i+1]?=some (U_ g.letter)/\r[4*i+2]?=some (.iface T x)/\r[4*i+3]?=some (.pointer dp) from by
  obtain⟨a,b,r,d,q1,q2,q3,q4,rfl,rfl,hT,G⟩:=H.V i g hi
  obtain⟨T,x,rfl⟩:=hT.iface
  obtain⟨L,rfl⟩:∃L,d=.pointer L:=by
   unfold DfV at G
   split at G
   .exact⟨_,G⟩
   .obtain⟨g',r,_,e,_⟩:=G;exact⟨_,e⟩
  exact⟨T,x,L,hT.fr j u_,q1,q2,q3,q4⟩)
 have hrG:=zy H.row;obtain⟨sa,sc,rfl⟩:=zw M.D.row;obtain⟨ra,rc,rfl⟩:=zw M.E.row;obtain⟨j,j,rfl⟩:=zw ho;obtain⟨u,B,rfl⟩:=zw N.row;obtain⟨C,F,rfl⟩:=zw H.row;generalize hR:mkF (mkP (zx ds) (zx ds') (yE (zx ds') s') f) (yE (zx ds') s') fw dl=R at hMd hk;obtain⟨wz,J⟩:=e_ ((w.alloc (.cells #[.slice sa ds.length sc,.iface sT sx,.slice ra ds'.length rc,.iface rT rx] 91)).alloc (.cells #[Z_ p,.slice u fw.length B,Z_ p2,.slice C fr.length F] 278));have start:ML (zx ds') k0 [.slice sa ds.length sc,.iface sT sx,.slice ra ds'.length rc,.iface rT rx] 91 [Z_ p,.slice u fw.length B,Z_ p2,.slice C fr.length F] 278 (.leaf c pr) w (L_) [] wz:=by
  rw[J];refine⟨((A_ w N_).alloc _).alloc _,(B_ w #[.slice sa ds.length sc,.iface sT sx,.slice ra ds'.length rc,.iface rT rx] 91).alloc _,?_,by rw[zc,zc];omega,jX.nil _ _ _ _ _⟩;have h:=B_ (w.alloc (.cells #[.slice sa ds.length sc,.iface sT sx,.slice ra ds'.length rc,.iface rT rx] 91)) #[Z_ p,.slice u fw.length B,Z_ p2,.slice C fr.length F] 278;rw[zc]at h;exact h
 have hsub:∀i g,fr[i]?=some g->zD (zx ds') (.leaf c pr) 0 i=g.ty:=λi g hi=>by
  simp only[zD,a2,aw_,as_,hi,bh_,b8_]
 replace start:=zy start;replace J:=zy J;replace hsub:=zy hsub;replace hk:=zy hk;clear ih M N H a4 a5 fy hd a1 h1 Z hR ho a2 a0;generalize zx ds'=er at hMd K start hsub;go_in;go_wp2;rw[<- J.o];go_loopg [10,27] (fr.length+1) (λm j v W=>∃(q:Nat) (l:List DT),v=I_ q/\q<=fr.length/\fr.length+1-q<=m/\H_ (xo R (fr.take q)=some l)/\H_ (ML er k0 [.slice sa ds.length sc,.iface sT sx,.slice ra ds'.length rc,.iface rT rx] 91 [Z_ p,.slice u fw.length B,Z_ p2,.slice C fr.length F] 278 (.leaf c pr) w j l W));case atStart=>exact⟨0,[],rfl,al_ _,M_,zy rfl,zy start⟩
 case round=>
  clear start;obtain⟨q,l,rfl,j,hm,hmp,hQ⟩:=hrel;have hll:l.length=q:=by have:=rq hmp;rw[ca_]at this;omega
  obtain⟨Y,hrow,hY⟩:=hQ.o.row;rw[hll]at hrow;obtain⟨la,lc,rfl⟩:=zw hrow;by_cases hlt:q<fr.length
  .have cc1:=Nat;exact cwdO1_
  .have hlt':¬((q:Int)<(fr.length:Int)):=M_;obtain rfl:m0=l:=by have:=hmp.o;rw[bc_ M_,hk.o]at this;cases this;rfl
   clear hrow hY hmp;go_wp2;try go_ret
   rw[K.o];exact⟨_,rfl,hQ.o.fr,hQ.o.done (.inr ⟨rfl,rfl⟩)⟩
def uG{w:Aw}{lr:As}{o:Ac}{pr l:Nat}{p p2:Int}{fa:Al}{fn fc:Nat}{a:Al}{rv u:Ax}(ho:w.ownsRow 0 192 2 rv lr.length (zI lr))(hu:qu w Q o u)(hl:lr.length<=300)(H:er c=some (.enum lr o))(J:∀q∈lr,zl q.1=true){q:Nat}(i:jY lr o l=some q):Calls prog 121 #[.agg #[Z_ p,.slice fa fn fc,.pointer a,Z_ p2,rv,u],.iface 157 (.agg #[U_ l,I_ n])] w (yh er (.leaf c pr) k0 w (DT.mk 101 (q:Int) noB [] [])):=by
 obtain⟨Y,F⟩:=y_ (yh er (.leaf c pr) k0 w (DT.mk 101 (q:Int) noB [] []));rw[<- F.o];obtain⟨ra,rc,rfl⟩:=zw ho;obtain⟨C,rfl⟩:=hu.ptr;have G:=zy (λW (k:Fr w W N_)=>rJ (p:=p2) (c:=l) (zj ho k u_) (hu.fr k u_) hl);obtain⟨K,hwz⟩:=e_ ((w.alloc (.cells #[Z_ p,.slice fa fn fc,.pointer a,Z_ p2,.slice ra lr.length rc,.pointer C] 275)).alloc (.cells #[U_ l,I_ n] 157));have j:Fr w K N_:=y5_
 have r:Blk K w.heap.size [Z_ p,.slice fa fn fc,.pointer a,Z_ p2,.slice ra lr.length rc,.pointer C] 275:=by
  rw[hwz];exact(B_ w #[Z_ p,.slice fa fn fc,.pointer a,Z_ p2,.slice ra lr.length rc,.pointer C] 275).alloc _
 replace r:=zy r;replace j:=zy j;replace hwz:=zy hwz;rw[i]at G;obtain⟨⟨B,pq⟩,m⟩:∃e,lr[q]?=some e:=by
  have key:∀x,(lr.map Prod.fst).findIdx? (λy=>y==x)=some q->∃e,lr[q]?=some e:=λx h=>by
   have:=(List.findIdx?_eq_some_iff_findIdx_eq.1 h).1;rw[bq_]at this;exact⟨_,ak_ this⟩
  unfold jY at i;split at i
  .rename_i h;cases i;exact key _ h
  .split at i
   .cases i
   .exact key _ i
 have a0:q<lr.length:=(ai_.1 m).1;have a2:(q:Int)<(lr.length:Int):=M_;have a1:¬((q:Int)<0):=M_;obtain⟨gg,Z,N⟩:=zp ho M_;cases N;have hc:=zy (λW (k:Fr w W N_)=>zt (zj ho k u_) rfl (xV m).2);have O:=J _ (ag_ m);have U:=zy (show fW er (.leaf c pr) q=B by
  simp only[fW,H,aw_,as_,m,bh_,b8_])
 go_in;go_wp2_with (go_at_call 161;rw[<- hwz.o];apply(G.o _ j).mono;rintro e w1 ⟨rfl,z⟩;simp only[wj,b8_,Option.isSome_some];have E:=zy (j.o.trans z u_);have m4:=(z.bl r id).c4;have m5:=hc.o w1 E);try go_ret
 rw[F.o];refine⟨_,rfl,E,.flat (.sym q B M_) (λX V e=>?_)⟩;simp only[Value.iface.injEq,Value.agg.injEq,true_and]at e;have L:=congrArg (λx:Array Value=>x[0]?) e;have M:=congrArg (λx:Array Value=>x[1]?) e;simp only[List.getElem?_toArray,aa_,ab_,af_,Value.int.injEq,true_and]at L M;obtain rfl:q=X:=M_;obtain rfl:B=V:=M_;refine⟨U,?_⟩;simp only[zl,a0_,decide_eq_true_eq]at O;omega
section
variable {w:Aw} {sa ra:Al} {sn sc rn rc:Nat} {sT rT aT bT dT:Av} {sx rx ax bx dx:Ax}
def cq28_{p:Prop}(h:p:=by
 refine hq_ λl j=>?_;have i:=zy (λo k=>((A_ w N_).alloc o).alloc k);replace h:=zy h;go_in;go_wp2_with ((first|go_at_call 159|go_at_call 160);apply(h.o _ (i.o _ _)).mono;rintro e w1 ⟨v,m,rfl,a⟩;replace a:=zy a);try go_ret
 rw[j.o];exact a.o):p:=h
def uP{R:Co}{la:Al}{ln lc:Nat}(h:∀W,Fr w W N_->Calls prog 159 #[.agg #[.slice sa sn sc,.iface sT sx,.slice ra rn rc,.iface rT rx],.agg #[.iface aT ax,.iface bT bx],.slice la ln lc] W (λe w'=>∃v ev,e=.returned (.tuple #[v,ev])/\R (.returned (.tuple #[v,ev])) w')):Calls prog 120 #[.agg #[.slice sa sn sc,.iface sT sx,.slice ra rn rc,.iface rT rx],.agg #[.iface aT ax,.iface bT bx],.iface 147 (.slice la ln lc)] w R:=by
 exact cq28_
def cZ{R:Co}{la:Al}{ln lc:Nat}(h:∀W,Fr w W N_->Calls prog 160 #[.agg #[.slice sa sn sc,.iface sT sx,.slice ra rn rc,.iface rT rx],.agg #[.iface aT ax,.iface bT bx],.slice la ln lc] W (λe w'=>∃v ev,e=.returned (.tuple #[v,ev])/\R (.returned (.tuple #[v,ev])) w')):Calls prog 120 #[.agg #[.slice sa sn sc,.iface sT sx,.slice ra rn rc,.iface rT rx],.agg #[.iface aT ax,.iface bT bx],.iface 150 (.slice la ln lc)] w R:=by
 have cc1:=Nat
 exact cq28_
end
def Kg{w:Aw}{K L:Az}{R:Ex}(hc:zr c=true)(hm:yt ew er (.leaf c p) y=true)(hd:Dat ew d (.leaf c p))(hv:DaV ew w K d (.leaf c p) v):∃x,mkB R ew er df (.leaf c p) y d=some x/\DaV er w L x y v:=by
 cases y with
 |wrap c' p' u'=>simp[yt]at hm
 |alts p' l'=>simp[yt]at hm
 |leaf c' p'=>
  simp only[yt,i_ hc,ax_,beq_iff_eq,a0_]at hm;have a:∀{x:DT},qz x v->kdD x≠101->DaV er w L x (.leaf c' p') v:=λh hk=>.flat h (λn l e=>absurd e (h.nosym hk n l));have one:kdD d≠40->kdD d≠91->kdD d≠114->kdD d≠123->kdD d≠101->(c'=108->kdD d=108)->∃x,mkB R ew er df (.leaf c p) (.leaf c' p') d=some x/\DaV er w L x (.leaf c' p') v:=λh1 i j m o q=>by
   refine⟨d,?_,a (hv.leaf h1 i j m) o⟩;obtain⟨k,n,tx,ks,ds⟩:=d;simp only[mkB,i_ hc];split
   .rename_i h;rw[show(108:Nat)=k from(q h).symm]
   .rfl
  cases hd with
  |null=>exact one D_ D_ D_ D_ D_ (λh=>M_)
  |bool hq=>exact one xd_ xd_ xd_ xd_ xd_ (λh=>M_)
  |num h0 h1=>
   rcases hm with rfl|⟨_,rfl⟩
   .exact one xd_ xd_ xd_ xd_ xd_ (λh=>M_)
   .refine⟨_,by simp only[mkB,i_ hc,if_true],a ((hv.leaf xd_ xd_ xd_ xd_).long rfl) xd_⟩
  |long h0 h1=>exact one xd_ xd_ xd_ xd_ xd_ (λh=>by simp[kdD])
  |text hx h1=>exact one xd_ xd_ xd_ xd_ xd_ (λh=>M_)
  |bytes he hb' hx=>rw[hc]at hb';cases hb'
  |sym he hb' hn=>rw[hc]at hb';cases hb'
  |recd he hb' hl hh=>rw[hc]at hb';cases hb'
def ny{w:Aw}{sT rT:Av}{sx rx:Ax}{m:Ax}(U:MS ds ds')(ih:Xc P Q s s' ds ds' sv sv' xs xs' k0 sT sx rT rx f)(M:MC P Q s s' ds ds' sv sv' xs xs' k0 w)(h:MtV w P Q s s' (zx ds) (zx ds') (ZV ds' xs') x y m)(a2:okT (zx ds) x)(a3:okT (zx ds') y)(fy:xA y)(hd:Dat (zx ds) d x)(hv:DaV (zx ds) w (λg=>g<k0) d x v)(h1:ndT d<=300)(Z:ndT d<=f+1){z:DT}(a6:yt (zx ds) (zx ds') x y=true)(r:mkB (mkP (zx ds) (zx ds') (yE (zx ds') s') f) (zx ds) (zx ds') (yE (zx ds') s') x y d=some z):Calls prog 84 #[.agg #[sv,.iface sT sx,sv',.iface rT rx],m,v] w (yh (zx ds') y k0 w z):=by
 obtain⟨sa,sc,C⟩:=zw M.D.row;obtain⟨ra,rc,B⟩:=zw M.E.row;obtain⟨vT,vx,a8⟩:=hv.iface;cases h with
 |never hm=>rw[hm]at a6;cases a6
 |same hc hm=>
  obtain⟨z',hz,d6⟩:=Kg (L:=λg=>g<k0) (R:=mkP (zx ds) (zx ds') (yE (zx ds') s') f) (df:=yE (zx ds') s') hc hm hd hv;obtain rfl:z'=z:=Option.some.inj (hz.symm.trans r);subst C B a8;apply mJ.mono;rintro e w' ⟨rfl,hf⟩;exact⟨_,rfl,hf,(d6.fr hf u_).mono (λg _ hg=>.inl hg)⟩
 |items hc ha hb=>
  rename_i c p p' t t' a b;unfold okT at a2 a3;unfold xA at fy;obtain⟨aT,ax,rfl⟩:=ha.iface;obtain⟨bT,bx,rfl⟩:=hb.iface;cases hd with
  |list hl hds=>
   rename_i l0;rw[xE]at h1 Z;simp only[mkB]at r;obtain⟨m0,K,rfl⟩:=b0_.1 r
   .obtain⟨lv,Y0,J,ho,H⟩:=hv.row_inv rfl (.inl rfl);rw[i_ rfl]at J;subst J;obtain⟨la,lc,rfl⟩:=zw ho;have F:=λW (j:Fr w W N_)=>(rk (sT:=sT) (rT:=rT) (sx:=sx) (rx:=rx) (p':=p') ih (M.new j) (ha.fr j u_) (hb.fr j u_) a2.2 a3.2 fy (zj ho j u_) hds (λi d e=>(H i d e).fr j u_) M_ M_ K);have a0:=λW (j:Fr w W N_)=>uP (w:=W) (sa:=sa) (sn:=ds.length) (sc:=sc) (ra:=ra) (rn:=ds'.length) (rc:=rc) (sT:=sT) (rT:=rT) (sx:=sx) (rx:=rx) (aT:=aT) (ax:=ax) (bT:=bT) (bx:=bx) (la:=la) (ln:=l0.length) (lc:=lc) (λV (G:Fr W V N_)=>by
     rw[<- C,<- B]
     exact(F V (j.trans G u_)).mono (λe w' q=>(q.pre (j.trans G u_)).tup))
    subst C B;exact(gq (λW j=>(a0 W j).mono (λe w' q=>q.tup)))
  |map hl hk hrs hds=>
   rename_i ks l0;rw[xE]at h1 Z;simp only[mkB]at r;obtain⟨m0,K,rfl⟩:=b0_.1 r
   .obtain⟨lv,Y0,rfl,b6,b7,ho,H⟩:=hv.map_inv rfl;obtain⟨la,lc,rfl⟩:=zw ho;have F:=λW (j:Fr w W N_)=>(dO (sT:=sT) (rT:=rT) (sx:=sx) (rx:=rx) (p':=p') ih (M.new j) (ha.fr j u_) (hb.fr j u_) a2.2 a3.2 fy b6 b7 (zj ho j u_) hds (λi d e=>(H i d e).fr j u_) M_ M_ K);have a0:=λW (j:Fr w W N_)=>cZ (w:=W) (sa:=sa) (sn:=ds.length) (sc:=sc) (ra:=ra) (rn:=ds'.length) (rc:=rc) (sT:=sT) (rT:=rT) (sx:=sx) (rx:=rx) (aT:=aT) (ax:=ax) (bT:=bT) (bx:=bx) (la:=la) (ln:=l0.length) (lc:=lc) (λV (G:Fr W V N_)=>by
     rw[<- C,<- B]
     exact(F V (j.trans G u_)).mono (λe w' q=>(q.pre (j.trans G u_)).tup))
    subst C B;exact(gq (λW j=>(a0 W j).mono (λe w' q=>q.tup)))
 |body hc hx hy ha hb hz hm hs=>
  rename_i c p p' X Y a b;have k:=xG hc;have a1:¬zr c=true:=by rw[k];decide
  have a5:=U.g c X hx;have O:=U.g' c Y hy;cases hm with
  |never h=>exact absurd hs h
  |same=>
   cases hd with
   |null=>exact absurd rfl (xB k).1
   |bool _=>exact absurd rfl (xB k).2.1
   |num _ _=>exact absurd rfl (xB k).2.2.1
   |long _ _=>exact absurd rfl (xB k).2.2.2.1
   |text _ _=>exact absurd rfl (xB k).2.2.2.2
   |sym he _ _=>rw[hx]at he;cases he
   |recd he _ _ _=>rw[hx]at he;cases he
   |bytes he _ hlt=>
    have N:mkB (mkP (zx ds) (zx ds') (yE (zx ds') s') f) (zx ds) (zx ds') (yE (zx ds') s') (.leaf c p) (.leaf c p') (.mk 102 0 ‹BA› [] [])=some (.mk 102 0 ‹BA› [] []):=by
     simp only[mkB,n_ a1,hx,hy]
    obtain rfl:=Option.some.inj (N.symm.trans r);have a4:=hv.leaf xd_ xd_ xd_ xd_;subst C B a8;apply mJ.mono;rintro e w' ⟨rfl,hf⟩;exact⟨_,rfl,hf,.flat a4 (λn l e=>absurd e (a4.nosym xd_ n l))⟩
  |syms=>
   rename_i lw lr ow or' pp b4 u qq a9 u';cases hd with
   |null=>exact absurd rfl (xB k).1
   |bool _=>exact absurd rfl (xB k).2.1
   |num _ _=>exact absurd rfl (xB k).2.2.1
   |long _ _=>exact absurd rfl (xB k).2.2.2.1
   |text _ _=>exact absurd rfl (xB k).2.2.2.2
   |bytes he _ _=>rw[hx]at he;cases he
   |recd he _ _ _=>rw[hx]at he;cases he
   |sym he _hb hn=>
    rename_i n l o;rw[hx]at he;cases he;have N:mkB (mkP (zx ds) (zx ds') (yE (zx ds') s') f) (zx ds) (zx ds') (yE (zx ds') s') (.leaf c p) (.leaf c p') (.mk 101 (n:Int) noB [] [])=(jY lr or' ((lw.map Prod.fst).getD n 0)).map (λ(q:Nat)=>DT.mk 101 (q:Int) noB [] []):=by
     simp only[mkB,n_ a1,hx,hy,bs_]
    rw[N]at r;obtain⟨q0,a7,rfl⟩:=b0_.1 r
    .obtain⟨l',rfl,d2,d7⟩:=hv.sym_inv rfl
     .have b8:(lw.map Prod.fst).getD n 0=l':=by
       rw[<- d2];simp only[fW,hx]
      rw[b8]at a7;cases ha with
      |enum pa hoa hPa hua=>
       cases hb with
       |enum pb hob hPb hub=>
        obtain⟨fa,fc,rfl⟩:=zw hoa;obtain⟨ga,gc,rfl⟩:=zw hob;obtain⟨ud,rfl⟩:=hua.ptr;obtain⟨d8,rfl⟩:=hub.ptr;have F:=λW (j:Fr w W N_)=>uG (w:=W) (k0:=k0) (pr:=p') (n:=n) (l:=l') (p:=(pa:Int)) (p2:=(pb:Int)) (fa:=fa) (fn:=lw.length) (fc:=fc) (a:=ud) (zj hob j u_) (hub.fr j u_) O.1.1 hy O.1.2.1 a7;subst C B;exact uU (λW j=>(F W j).mono (λe w' q=>(q.pre j).tup))
  |flds=>
   rename_i fw fr pp b4 qq a9;cases hd with
   |null=>exact absurd rfl (xB k).1
   |bool _=>exact absurd rfl (xB k).2.1
   |num _ _=>exact absurd rfl (xB k).2.2.1
   |long _ _=>exact absurd rfl (xB k).2.2.2.1
   |text _ _=>exact absurd rfl (xB k).2.2.2.2
   |bytes he _ _=>rw[hx]at he;cases he
   |sym he _ _=>rw[hx]at he;cases he
   |recd he _hb hl hh=>
    rename_i fs dl;rw[hx]at he;cases he;rw[xE]at h1 Z;have N:mkB (mkP (zx ds) (zx ds') (yE (zx ds') s') f) (zx ds) (zx ds') (yE (zx ds') s') (.leaf c p) (.leaf c p') (.mk 114 0 noB [] dl)=(xo (mkF (mkP (zx ds) (zx ds') (yE (zx ds') s') f) (yE (zx ds') s') fw dl) fr).map (λl=>.mk 114 0 noB [] l):=by
     simp only[mkB,n_ a1,hx,hy]
    rw[N]at r;obtain⟨m0,K,rfl⟩:=b0_.1 r
    .obtain⟨lv,Y0,J,ho,H⟩:=hv.row_inv rfl (.inr rfl);rw[n_ D_]at J;subst J;cases ha with
     |recd pa hoa hPa hVa=>
      cases hb with
      |recd pb hob hPb hVb=>
       have b5:=λW (j:Fr w W N_)=>(M.new j).dvm hz (zj hob j u_) (hVb.fr j u_);have hF:=(⟨hoa,hPa,hVa⟩:xu w P s fw b4 _);have hG:=(⟨hob,hPb,hVb⟩:xu w Q s' fr a9 _);obtain⟨la,lc,rfl⟩:=zw ho;obtain⟨fa,fc,rfl⟩:=zw hoa;obtain⟨ga,gc,rfl⟩:=zw hob;have b9:∀(i:Nat) (h:PF),fw[i]?=some h->zD (zx ds) (.leaf c p) 0 i=h.ty:=λi h hi=>by
        simp only[zD,hx,aw_,as_,hi,bh_,b8_]
       have F:=λW (j:Fr w W N_)=>uB (sT:=sT) (rT:=rT) (sx:=sx) (rx:=rx) (pr:=p') (p:=(pa:Int)) (p2:=(pb:Int)) ih (M.new j) (hF.fr j u_) (hG.fr j u_) a5.1.1 O.1.1 hl hy (b5 W j) a5.2 O.2 (U.f' c fr hy).2 (zj ho j u_) (λi d h hi hf=>⟨hh i d h.ty hi (by rw[as_,hf];rfl),by
        have:=(H i d hi).fr j u_
        rw[b9 i h hf]at this
        exact this⟩) M_ M_ K
       subst C B;exact cY (λW j=>(F W j).mono (λe w' q=>(q.pre j).tup))
def Wq(fx:vZ x)(fy:vZ y):mkP ew er df (f+1) x y d=if yt ew er x y=true then mkB (mkP ew er df f) ew er df x y d else none:=by
 cases x with
 |alts p l=>exact fx.elim
 |leaf c p=>
  cases y with
  |alts p l=>exact fy.elim
  |leaf c p=>rfl
  |wrap c p u=>rfl
 |wrap c p u=>
  cases y with
  |alts p l=>exact fy.elim
  |leaf c p=>rfl
  |wrap c p u=>rfl
def Wj{rs:Ad}(fx:vZ x):mkP ew er df (f+1) x (.alts p rs) d=match xc ew er x rs 0 none with
 |none=>none
 |some k=>match rs[k]? with|none=>none|some r1=>(mkB (mkP ew er df f) ew er df x r1 d).map (λx=>.mk 40 (k:Int) noB [] [x]):=by
 cases x with
 |alts p l=>exact fx.elim
 |leaf c p=>rfl
 |wrap c p u=>rfl
def FW{ws:Ad}{w1:PT}{d1:DT}(h:ws[n]?=some w1):mkP ew er df (f+1) (.alts p ws) y (.mk 40 (n:Int) noB [] [d1])=mkP ew er df f w1 y d1:=by
 show(match ws[(n:Int).toNat]?,[d1] with|some w1,d1::_=>mkP ew er df f w1 y d1|_,_=>none)=_;rw[bs_,h]
def FQ(d:DT):0<ndT d:=by
 obtain⟨k,n,tx,ks,ds⟩:=d;rw[xE];omega
def FG{sT rT:Av}{sx rx:Ax}(a0:MS ds ds'):∀f,Xc P Q s s' ds ds' sv sv' xs xs' k0 sT sx rT rx f:=by
 intro f;induction f with
 |zero=>intro w x y d z a b v _ _ _ _ _ _ _ _ _ h;have:=FQ d;omega
 |succ f ih=>
  intro w x y d z a b v M ha hb B C fy hd hv h1 o hz;have a3:=λW (l:Fr w W N_)=>(oq (sT:=sT) (rT:=rT) (sx:=sx) (rx:=rx) (M.new l).D (M.new l).E (ha.fr l u_) (hb.fr l u_) B C fy).mono (λe w' (q:∃v,e=.returned v/\Fr W w' N_/\MeV w' P Q s s' (zx ds) (zx ds') (ZV ds' xs') x y v)=>show ∃T u,e=.returned (.iface T u)/\Fr W w' N_/\MeV w' P Q s s' (zx ds) (zx ds') (ZV ds' xs') x y (.iface T u) by
   obtain⟨v,h1,o,h3⟩:=q
   obtain⟨T,u,rfl⟩:=h3.iface
   exact⟨T,u,h1,o,h3⟩)
  obtain⟨sa,sc,Y⟩:=zw M.D.row;obtain⟨ra,rc,R⟩:=zw M.E.row;obtain⟨aT,ax,rfl⟩:=ha.iface;obtain⟨bT,bx,rfl⟩:=hb.iface;obtain⟨vT,vx,rfl⟩:=hv.iface;have hB:∀W T u,Fr w W N_->MeV W P Q s s' (zx ds) (zx ds') (ZV ds' xs') x y (.iface T u)->Calls prog 84 #[.agg #[sv,.iface sT sx,sv',.iface rT rx],.iface T u,.iface vT vx] W (yh (zx ds') y k0 W z):=by
   intro W T u l F;have H:=M.new l;have Z:=hv.fr l u_;generalize hm:Value.iface T u=mv at F⊢;cases F with
   |outb X ho hX hb1 _=>
    rename_i p ws uv b1 b7;unfold okT at B;have K:=vW B.2;cases hd with
    |alts hn hl hd1=>
     rename_i n G d1;rw[xE]at h1 o;simp only[zY]at h1 o;rw[FW hl]at hz
     .obtain⟨b8,v1,a9,L⟩:=Z.branch_inv rfl;have U:zD (zx ds) (.alts p ws) n 0=G:=by
       show ws.getD n (.leaf 0 0)=G;rw[aw_,hl];rfl
      rw[U]at L;obtain⟨ua,uc,a7⟩:=zw ho;obtain⟨b5,b6,a5⟩:=hb1.iface;obtain⟨b9,d2,a8⟩:=L.iface;have J:=λV (j:Fr W V N_)=>dA (sT:=sT) (rT:=rT) (sx:=sx) (rx:=rx) ih (H.new j) (zj ho j u_) (λi t h=>(hX i t h).fr j u_) (hb1.fr j u_) hl (K G (ag_ hl)).2 C fy hd1 (L.fr j u_) M_ M_ hz;rw[a9];subst Y R a7 a5 a8;exact iZ (λV j=>(J V j).mono (λe w' q=>(q.pre j).tup))
   |into fx h=>
    rename_i p rs;unfold okT at C;unfold xA at fy;have K:=vW C.2;rw[Wj fx]at hz;cases hk:xc (zx ds) (zx ds') x rs 0 none with
    |none=>rw[hk]at hz;cases hz
    |some k=>
     rw[hk]at h hz;obtain⟨r,T1,G,hr,rfl,O,a4⟩:=h;have a1:=ag_ hr;have a6:k<=4000:=by have:=(ai_.1 hr).1;omega
     simp only[hr]at hz;obtain⟨z0,b4,rfl⟩:=b0_.1 hz;have J:=λV (j:Fr W V N_)=>ny (sT:=sT) (rT:=rT) (sx:=sx) (rx:=rx) a0 ih (H.new j) (a4.fr j u_ u_) B (K r a1).2 (kM fy.2 r a1) hd (Z.fr j u_) h1 o O b4;have U:zD (zx ds') (.alts p rs) k 0=r:=by
      show rs.getD k (.leaf 0 0)=r;rw[aw_,hr];rfl
     subst Y R;exact oc (λV j=>(io a6 U (λa2 hU=>J a2 (j.trans hU u_))).mono (λe w' q=>(q.pre j).tup))
   |flat fx fy' h=>
    rw[Wq fx fy']at hz;split at hz
    .rename_i O;exact ny (sT:=sT) (rT:=rT) (sx:=sx) (rx:=rx) a0 ih H h B C fy hd Z h1 o O hz
    .cases hz
  subst Y R;exact Wu (N:=λm W=>MeV W P Q s s' (zx ds) (zx ds') (ZV ds' xs') x y m) a3 (λW T u l F=>(hB W T u l F).mono (λe w' q=>by
   obtain⟨v,ev,he,hq⟩:=(q.pre l).tup
   exact⟨v,ev,he,(yh.two l q).1,hq⟩))
def Wb{w:Aw}{a b:Ax}(j:MS ds ds')(M:MC P Q s s' ds ds' sv sv' xs xs' k0 w)(ha:TyV w P x a)(hb:TyV w Q y b)(l:okT (zx ds) x)(m:okT (zx ds') y)(fy:xA y)(hd:Dat (zx ds) d x)(hv:DaV (zx ds) w (λg=>g<k0) d x v)(h1:ndT d<=300){z:DT}(hz:mkP (zx ds) (zx ds') (yE (zx ds') s') 300 x y d=some z):Calls prog 29 #[.agg #[sv,a],.agg #[sv',b],v] w (yh (zx ds') y k0 w z):=by
 obtain⟨h,k⟩:=y_ (yh (zx ds') y k0 w z);rw[<- k.o];obtain⟨aT,ax,rfl⟩:=ha.iface;obtain⟨bT,bx,rfl⟩:=hb.iface;have i:=λW (h:Fr w W N_)=>(FG (P:=P) (Q:=Q) (xs:=xs) (xs':=xs') (s:=s) (s':=s') (sv:=sv) (sv':=sv') (k0:=k0) (sT:=aT) (sx:=ax) (rT:=bT) (rx:=bx) j 300 W x y d z _ _ v (M.new h) (ha.fr h u_) (hb.fr h u_) l m fy hd (hv.fr h u_) h1 h1 hz).mono (λe w' q=>(q.pre h).tup);obtain⟨sa,sc,rfl⟩:=zw M.D.row;obtain⟨ra,rc,rfl⟩:=zw M.E.row;obtain⟨h,h,rfl⟩:=hv.iface;replace i:=zy i;have h:=zy (λo r=>((A_ w N_).alloc o).alloc r);go_in;go_wp2_with (go_at_call 46;apply(i.o _ (h.o _ _)).mono;rintro e w1 ⟨h,h,rfl,h⟩;replace h:=zy h);try go_ret
 rw[k.o];exact h
def cU{α:Type}{g:α->Option β}:∀{l:List α}{m:List β},m.length=l.length->(∀(i:Nat) (a:α) (b:β),l[i]?=some a->m[i]?=some b->g a=some b)->xo g l=some m
 | [],[],_,_=>rfl
 | [],b::m,h,_=>by simp at h
 |a::l,[],h,_=>by simp at h
 |a::l,b::m,h,hg=>by
  unfold xo;rw[hg 0 a b rfl rfl,cU (by simpa using h) (λi x y hx hy=>hg (i+1) x y (by simpa using hx) (by simpa using hy))]
def qZ:∀{l:List Nat}{i c:Nat},l.Nodup->l[i]?=some c->l.findIdx? (λx=>x==c)=some i
 | [],i,c,_,h=>by simp at h
 |a::l,0,c,_,h=>by
  simp only[aa_,af_]at h;simp[List.findIdx?_cons,h]
 |a::l,i+1,c,hd,h=>by
  rw[List.nodup_cons]at hd;rw[ab_]at h;have j:(a==c)=false:=by
   rw[beq_eq_false_iff_ne];exact λe=>hd.1 (e▸ag_ h)
  rw[List.findIdx?_cons,j,qZ hd.2 h];rfl
def XB:∀{ds:List DT},d∈ds->ndT d<=zY ds
 | [],h=>by cases h
 |a::r,h=>by
  rw[zY];rcases an_.1 h with rfl|h
  .omega
  .have:=XB h;omega
def lI(z:jT e)(E:∀c fs g,e c=some (.recd fs)->g∈fs->yu g.ty=[])(B:∀c fs,e c=some (.recd fs)->(fs.map PF.letter).Nodup)(C:GS e){R:Ex}(hd:Dat e d t)(F:t.isAlts=false)(ho:okT e t)(hb:yu t=[])(k:∀u x,ndT x<ndT d->Dat e x u->okT e u->yu u=[]->R u u x=some x):yt e e t t=true/\mkB R e e df t t d=some d:=by
 cases hd with
 |null=>exact⟨rfl,rfl⟩
 |bool h=>exact⟨rfl,rfl⟩
 |num h0 h1=>exact⟨rfl,rfl⟩
 |long h0 h1=>exact⟨rfl,rfl⟩
 |text h h1=>exact⟨rfl,rfl⟩
 |bytes he hi hx=>exact⟨by simp[yt,hi,he],by simp[mkB,hi,he]⟩
 |sym he hi hn=>
  rename_i c p n l o;refine⟨by simp[yt,hi,he],?_⟩;obtain⟨q,r⟩:∃q,(l.map Prod.fst)[n]?=some q:=⟨_,ak_ (by simpa using hn)⟩;have hg:(l.map Prod.fst).getD n 0=q:=by rw[aw_,r];rfl
  simp only[mkB,hi,he,be_,if_false,bs_,hg,jY,qZ (C _ _ _ he).1 r,bh_]
 |recd he hi hl h=>
  rename_i c p fs ds;refine⟨by simp[yt,hi,he],?_⟩;have hm:xo (mkF R df fs ds) fs=some ds:=by
   refine cU hl (λi g x hg hx=>?_);have hf:(fs.map PF.letter)[i]?=some g.letter:=by rw[as_,hg];rfl
   have G:(fs.map PF.ty)[i]?=some g.ty:=by rw[as_,hg];rfl
   unfold mkF vu;rw[qZ (B _ _ he) hf];simp only[hg,hx];have m:=ag_ hg;refine k _ _ ?_ (h i x g.ty hx G) ((z _ _ he) g m) (E _ _ _ he m);have:=XB (ag_ hx);rw[xE];omega
  simp[mkB,hi,he,hm]
 |list hl h=>
  rename_i p u ds;refine⟨rfl,?_⟩;unfold okT at ho;unfold yu at hb;have hm:xo (R u u) ds=some ds:=cU rfl (λi a b ha j=>by
   rw[ha]at j
   cases j
   have:=XB (ag_ ha)
   exact k _ _ (by rw[xE];omega) (h a (ag_ ha)) ho.2 hb)
  simp[mkB,hm]
 |map hl hk hr h=>
  rename_i p u ks ds;refine⟨rfl,?_⟩;unfold okT at ho;unfold yu at hb;have hm:xo (R u u) ds=some ds:=cU rfl (λi a b ha j=>by
   rw[ha]at j
   cases j
   have:=XB (ag_ ha)
   exact k _ _ (by rw[xE];omega) (h a (ag_ ha)) ho.2 hb)
  simp[mkB,hm]
 |alts hn hl h=>simp[PT.isAlts]at F
def cq18_{p:Prop}(h:p:=by
 cases t with
 |alts p l=>simp[yt]at h
 |leaf c p=>
  cases r with
  |alts p l=>simp[yt]at h
  |wrap c' p' u=>simp[yt]at h
  |leaf c' p'=>
   (first|(have:=cc1;show c=108\/c=105;obtain rfl:c'=108:=hr)|(show c'=c\/c'=108));simp only[yt]at h;split at h
   .simp only[ax_,beq_iff_eq,a0_]at h;omega
   .simp only[a0_,beq_iff_eq]at h;(first|(have:=cc1;exact .inl h.1)|(exact .inl h.1.symm))
 |wrap c p u=>
  cases r with
  |alts p l=>simp[yt]at h
  |leaf c' p'=>simp[yt]at h
  |wrap c' p' u'=>
   simp only[yt,beq_iff_eq]at h;(first|(have:=cc1;exact .inl (h.trans hr))|(exact .inl h.symm))):p:=h
def lO{r:PT}(h:yt ew er t r=true):r.kind=t.kind\/r.kind=108:=by
 exact cq18_
def Ji{r:PT}(h:yt ew er t r=true)(hr:r.kind=108):t.kind=108\/t.kind=105:=by
 have cc1:=Nat
 exact cq18_
def tP{q:Nat}:∀(rs:List PT) (i:Nat),t.kind∉rs.map PT.kind->xc e e t rs i (some q)=some q
 | [],_,_=>rfl
 |r::rs,i,h=>by
  simp only[av_,an_,not_or]at h;unfold xc;have hc:(yt e e t r&&((some q).isNone||r.kind==105))=false:=by
   cases hm:yt e e t r with
   |false=>rfl
   |true=>
    rcases lO hm with e'|e'
    .exact absurd e'.symm h.1
    .rw[e'];rfl
  rw[hc];exact tP rs (i+1) h.2
def gA(j:yt e e t t=true):∀(rs:List PT) (i n:Nat) (k:Option Nat),(rs.map PT.kind).Nodup->rs[n]?=some t->(k=none\/t.kind=105)->xc e e t rs i k=some (i+n)
 | [],i,n,k,_,h,_=>by simp at h
 |r::rs,i,0,k,hd,h,hk=>by
  simp only[aa_,af_]at h;subst h;rw[av_,List.nodup_cons]at hd;unfold xc;have hc:(yt e e r r&&(k.isNone||r.kind==105))=true:=by
   rw[j];rcases hk with rfl|hk
   .rfl
   .rw[hk];simp
  rw[hc];exact tP rs (i+1) hd.1
 |r::rs,i,n+1,k,hd,h,hk=>by
  rw[av_,List.nodup_cons]at hd;rw[ab_]at h;unfold xc;rw[gA j rs (i+1) n _ hd.2 h,bw_,Nat.add_comm 1 n];split
  .rename_i hc;simp only[a0_]at hc;refine .inr ?_;have a:r.kind≠t.kind:=λe'=>hd.1 (e'▸List.mem_map_of_mem (ag_ h));rcases lO hc.1 with e'|e'
   .exact absurd e' a
   .rcases Ji hc.1 e' with q|q
    .exact absurd (e'.trans q.symm) a
    .exact q
  .exact hk
def gJ:∀{l:List PT}{seen:List Nat},jg seen l=[]->(∀x∈l,x.kind∉seen/\yu x=[])/\(l.map PT.kind).Nodup
 | [],_,_=>⟨λx h=>(by cases h),List.nodup_nil⟩
 |a::l,seen,h=>by
  rw[jg,bv_,bv_]at h;obtain⟨h1,j,k⟩:=h;obtain⟨i,m⟩:=gJ k;have ha:a.kind∉seen:=λq=>by rw[i_ (.inr q)]at h1;cases h1
  rw[av_];refine⟨λx hx=>?_,List.nodup_cons.2 ⟨λq=>?_,m⟩⟩
  .rcases an_.1 hx with rfl|hx
   .exact⟨ha,j⟩
   .exact⟨λq=>(i x hx).1 (by_ _ q),(i x hx).2⟩
  .obtain⟨x,hx,e⟩:=a3_.1 q;exact(i x hx).1 (e▸b4_ _ (a2_.2 rfl))
def cK:∀{l:List PT},iu e l->∀x∈l,x.isAlts=false/\okT e x
 | [],_,x,h=>by cases h
 |a::l,h,x,hx=>by
  unfold iu at h;rcases an_.1 hx with rfl|hx
  .exact⟨h.1,h.2.1⟩
  .exact cK h.2.2 x hx
def Wv(q:jT e)(B:∀c fs g,e c=some (.recd fs)->g∈fs->yu g.ty=[])(r:∀c fs,e c=some (.recd fs)->(fs.map PF.letter).Nodup)(z:GS e):∀(f:Nat) (t:PT) (d:DT),ndT d<=f->Dat e d t->okT e t->yu t=[]->mkP e e df f t t d=some d:=by
 intro f;induction f using Nat.strongRecOn with
 |ind f ih=>
  intro t d hf hd ho hb;cases f with
  |zero=>obtain⟨k,n,tx,ks,ds⟩:=d;rw[xE]at hf;omega
  |succ f=>
   cases t with
   |alts p l=>
    cases hd with
    |alts hn hl h=>
     rename_i n u d1;rw[xE]at hf;unfold okT at ho;unfold yu at hb;obtain⟨b1,b2⟩:=gJ hb;have hm:=ag_ hl;obtain⟨o1,o2⟩:=cK ho.2 u hm;have C:zY [d1]=ndT d1:=by simp[zY]
     cases f with
     |zero=>obtain⟨k,n,tx,ks,ds⟩:=d1;rw[C,xE]at hf;omega
     |succ f=>
      obtain⟨o,a⟩:=lI (df:=df) q B r z h o1 o2 (b1 u hm).2 (R:=mkP e e df f) (λv x hx j m i=>ih f M_ v x M_ j m i);have hp:=gA o l 0 n none b2 hl (.inl rfl);rw[bx_]at hp;cases u with
      |alts p' l'=>simp[PT.isAlts]at o1
      |leaf c' p'=>simp only[mkP,bs_,hl,hp,a,bh_]
      |wrap c' p' u'=>simp only[mkP,bs_,hl,hp,a,bh_]
   |leaf c p=>
    obtain⟨o,a⟩:=lI (df:=df) q B r z hd rfl ho hb (R:=mkP e e df f) (λv x hx j m i=>ih f M_ v x M_ j m i);simp only[mkP,o,a,if_true]
   |wrap c p u=>
    obtain⟨o,a⟩:=lI (df:=df) q B r z hd rfl ho hb (R:=mkP e e df f) (λv x hx j m i=>ih f M_ v x M_ j m i);simp only[mkP,o,a,if_true]
def Vz(hu:xi ds t=[]){fs:An}{g:PF}(he:zx ds c=some (.recd fs))(hg:g∈fs):yu g.ty=[]:=by
 unfold xi at hu;rw[bv_,List.flatMap_eq_nil_iff]at hu;obtain⟨d,hd,e⟩:=XO he;refine hu.1 g ?_;unfold zk;exact cb_.2 ⟨d,hd,by rw[e];exact hg⟩
def ag(hu:xi ds t=[]):yu t=[]:=by
 unfold xi at hu;rw[bv_]at hu;exact hu.2
def qi(w:Aw)(s bs:BA)(e:Ak)(w':Aw):Prop:=∃ev,e=.returned (.tuple #[.string (xz s bs).1,Z_ ((xz s bs).2.1:Int),ev])/\Fr w w' N_/\gM w' ev (xz s bs).2.2
def Kc{w w1:Aw}{rv:Ax}(S:yF A w)(hI:yg w)(hQ:yk w)(hp:zi s=.ok (ds,t))(hM:wo w.heap.size w1 s sv rv)(hf:Fr w w1 N_)(hd:bs.size<=4000):∀V,Fr w1 V N_->Calls prog 28 #[.agg #[sv,rv],.string bs] V (em (zx ds) t V (sX A) (rdB bs (zx ds) 301 t 0 0)):=by
 have cc1:=Nat
 exact cq23_
def Kl{w w1:Aw}{rv rv':Ax}(h0:(zu s).1=0)(hp:zi s=.ok (ds,t))(i:wo w.heap.size w1 s sv rv)(l:wo w.heap.size w1 s sv' rv'):∀V d v (L:Nat->Prop),Fr w1 V N_->Dat (zx ds) d t->ndT d<=300->DaV (zx ds) V L d t v->Calls prog 29 #[.agg #[sv,rv],.agg #[sv',rv'],v] V (yh (zx ds) t V.heap.size V d):=by
 intro V d v L a hd j hv;obtain⟨h,h,xs,hs,h,hn,hu,D,m,_⟩:=i;rw[hp]at h;cases h;obtain⟨h,h,xs',_,h,_,_,i,o,k⟩:=l;rw[hp]at h;cases h;obtain⟨h,l,f3,f4,f5⟩:=vi hs hp hn hu;have M:MC _ _ s s ds ds sv sv' xs xs' V.heap.size V:=
  ⟨D.fr a u_,i.fr a u_,(k.fr i a u_ u_).dfm,l_⟩
 exact Wb ⟨h,h,bD h,bD h⟩ M (m.fr a u_) (o.fr a u_) f4 f4 (jt t (xJ hs hp).2.1) hd (hv.mono (λg hg _=>hg)) j (Wv f5 (λc fs g=>Vz hu) (λc fs he=>uo hn he) (sU h0 hp).1 300 t d j hd f4 (ag hu))
def af{w:Aw}(S:yF A w)(E:yg w)(G:yk w)(X:xW w)(M:xC w):Calls prog 15 #[.string s,.string s,.string bs] w (qi w s bs):=by
 refine hq_ λd2 K=>?_;have hB:=zy (pI (sw:=s) (sr:=s) S E G X);by_cases h0:(zu s).1=0
 .obtain⟨_,ds,t,hp⟩:=kQ h0;have a0:H_ (Calls prog 16 #[.string s,.string s] w λe w1=>∃sa sn sc rT rx u B z m r,e=.returned (.tuple #[.agg #[.slice sa sn sc,.iface rT rx],.agg #[.slice u B z,.iface m r],.nilIface])/\Fr w w1 N_/\wo w.heap.size w1 s (.slice sa sn sc) (.iface rT rx)/\wo w.heap.size w1 s (.slice u B z) (.iface m r)):=zy (hB.o.mono (by
   rintro e w1 ⟨sv,rv,sv',rv',ev,he,hf,hm⟩
   rcases hm with⟨_,_,rfl,hx,C⟩|⟨hn,_⟩
   .obtain⟨sa,sn,sc,rT,rx,rfl,rfl⟩:=hx.forms
    obtain⟨u,B,z,m,r,rfl,rfl⟩:=C.forms
    exact⟨_,_,_,_,_,_,_,_,_,_,he,hf,hx,C⟩
   .exact absurd ⟨h0,h0⟩ hn))
  clear hB;by_cases hd:4000<bs.size
  .have k:=zy (show xz s bs=(noB,0,1) by unfold xz;rw[i_ h0,i_ hd]);have l:=zy (λ(W:World) (sa sn sc rT rx) (J:Fr w W N_)=>cE (w:=W) (sa:=sa) (sn:=sn) (sc:=sc) (rT:=rT) (rx:=rx) (s:=bs) ((S.fr J).var 9 D_) hd);replace S:=zy S;replace hd:=zy hd;clear E G X M h0 hp;go_in;go_wp2_with (first
    |(go_at_call 16;apply a0.o.mono;rintro e w1 ⟨sa,sn,sc,rT,rx,u,B,z,m,r,rfl,a,-,-⟩;replace a:=zy a)
    |(go_at_call 28;apply(l.o _ _ _ _ _ _ ((a.o.alloc _).alloc _)).mono;rintro e w2 ⟨rfl,i⟩;replace i:=zy (((a.o.alloc _).alloc _).trans i u_)))
   refine bodyPost_ret (v:=.tuple #[.string noB,O_,.iface 414 (.pointer (some (A 9)))]) ye_ rfl ?_;rw[K.o];unfold qi;rw[k.o];exact⟨_,rfl,i,λW J=>qW ((S.o.fr i).fr J) .leaf⟩
  .have b5:bs.size<=4000:=M_;have a7:=zy (λw1 sv rv (F:wo w.heap.size w1 s sv rv) (hf:Fr w w1 N_)=>Kc S E G hp F hf b5);have a6:=zy (λw1 sv rv sv' rv' (F:wo w.heap.size w1 s sv rv) (a4:wo w.heap.size w1 s sv' rv') (hf:Fr w w1 N_)=>Kl h0 hp F a4);have k:xz s bs=match rdB bs (zx ds) 301 t 0 0 with
    | .error e0=>(noB,0,(e0:Int))
    | .ok (d,j,_)=>(txT (zx ds) d t,j,0):=by
    unfold xz;rw[i_ h0,n_ hd,hp]<;>rfl
   obtain⟨g1,g2,g3,Z,g5⟩:=sU h0 hp;have a5:=Ki g5 bs 301 t Z 0 0;replace S:=zy S;clear E G X h0 hp hd;cases l:rdB bs (zx ds) 301 t 0 0 with
   |error e0=>
    rw[l]at k;have he:=zy (XY bs (zx ds) 301 t 0 0 e0 l);replace k:=zy k;replace l:=zy l;clear M a6 a5 g1 g2 g3 Z g5;go_in;go_wp2_with (first
     |(go_at_call 16;apply a0.o.mono;rintro e w1 ⟨sa,sn,sc,rT,rx,u,B,z,m,r,rfl,a,hx,C⟩;have N:=zy (a7.o _ _ _ hx a);replace a:=zy a;clear hx C)
     |(go_at_call 28;apply(N.o _ (((A_ w1 _).alloc _).alloc _)).mono;rintro e w2 ⟨v2,k2,a8,rfl,i,hm⟩;rw[l.o]at hm;obtain⟨rfl,rfl,hm⟩:=hm;obtain⟨T2,x2,rfl⟩:=hm.iface;replace hm:=zy hm;replace i:=zy (((a.o.alloc _).alloc _).trans i u_)))
    refine bodyPost_ret (v:=.tuple #[.string noB,O_,.iface T2 x2]) ye_ rfl ?_;rw[K.o];unfold qi;rw[k.o];exact⟨_,rfl,i,cA (S.o.fr i) he hm⟩
   |ok q=>
    obtain⟨d,j,mm⟩:=q;rw[l]at k;simp only at k;have b9:=(lV bs (zx ds) 301 t 0 0 d j mm l).2;have b6:=qK bs (zx ds) 301 t 0 0 d j mm o_ M_ l;have b8:ndT d<=300:=M_;obtain⟨a1,a2,a3⟩:=a5 d j mm M_ l;replace l:=zy l;clear a5 b9 b6 a2 a3 g1 g2 g3 Z g5;have b7:=zy (λw1 sv rv sv' rv' F a4 hf V v L H hv=>a6.o w1 sv rv sv' rv' F a4 hf V d v L H a1 b8 hv);clear a6;have b4:=zy (λ(W:World) (J:Fr w W N_)=>show vw 5 W _ _ from(S.o.fr J).var 5 D_);clear a1;have h8:8022*ndT d<=90000000:=M_;replace k:=zy k;go_in;go_wp2_with (first
     |(go_at_call 16;apply a0.o.mono;rintro e w1 ⟨sa,sn,sc,rT,rx,u,B,z,m,r,rfl,a,hx,C⟩;have N:=zy (a7.o _ _ _ hx a);have hD:=zy (b7.o _ _ _ _ _ hx C a);have b0:=zy (((B_ w1 #[.slice sa sn sc,.iface rT rx] 60).alloc (.cells #[.slice u B z,.iface m r] 60)));have b1:=zy (show Blk ((w1.alloc (.cells #[.slice sa sn sc,.iface rT rx] 60)).alloc (.cells #[.slice u B z,.iface m r] 60)) (w1.heap.size+1) [.slice u B z,.iface m r] 60 from(by have h:=B_ (w1.alloc (.cells #[.slice sa sn sc,.iface rT rx] 60)) #[.slice u B z,.iface m r] 60;rw[zc]at h;exact h));replace a:=zy a;clear hx C)
     |(go_at_call 28;apply(N.o _ (((A_ w1 _).alloc _).alloc _)).mono;rintro e w2 ⟨v2,k2,a8,rfl,i,hm⟩;rw[l.o]at hm;obtain⟨rfl,rfl,hm⟩:=hm;have hE:=zy (hD.o w2 _ _ ((((A_ w1 _).alloc _).alloc _).trans i u_) hm);obtain⟨T2,x2,rfl⟩:=hm.iface;have c0:=(i.bl b0 id).c0;have c1:=(i.bl b0 id).c1;have c2:=(i.bl b1 id).c0;have c3:=(i.bl b1 id).c1;replace i:=zy (((a.o.alloc _).alloc _).trans i u_);clear hm N hD b0 b1)
     |(go_at_call 29;apply hE.o.mono;rintro e w3 ⟨l,rfl,Y,O⟩;have R:=zy (i.o.trans Y u_);have U:=gX O.dat M_ (b4.o _ R);rw[n_ M_]at U;replace U:=zy U;have a9:=zy (λV (H:Fr w3 V N_)=>fO (w0:=w) M (O.fr H u_) (R.o.trans H u_).size ((yy.refl w).fr (R.o.trans H u_) l_ (λ_ f=>f.elim)) h8);obtain⟨i,i,rfl⟩:=O.iface;clear Y O)
     |(go_at_call 30;apply U.o.mono;rintro e w4 ⟨rfl,O⟩;have i:=zy (a9.o w4 O);replace O:=zy (R.o.trans O u_))
     |(go_at_call 18;apply i.o.mono;rintro e i ⟨rfl,Y⟩;replace Y:=zy (O.o.trans Y u_)))
    refine bodyPost_ret (v:=.tuple #[.string (txT (zx ds) d t),I_ k2,.nilIface]) (by simp[results,results15,go_sem]) rfl ?_;rw[K.o];unfold qi;rw[k.o];exact⟨_,rfl,Y,fk (S.o.fr Y)⟩
 .have k:=zy (show xz s bs=(noB,0,if (zu s).1=0 then (zu s).1 else (zu s).1) by
   unfold xz
   rw[n_ h0,n_ h0])
  replace h0:=zy h0;clear E G X M;go_in;go_wp2_with (go_at_call 16;apply hB.o.mono;rintro e w1 ⟨sv,rv,sv',rv',ev,rfl,a,hm⟩;(rcases hm with⟨h1,_⟩|⟨_,rfl,rfl,rfl,rfl,⟨T,x,rfl⟩,hk⟩;(exact absurd h1 h0));replace hk:=zy hk;replace a:=zy a);refine bodyPost_ret (v:=.tuple #[.string noB,O_,.iface T x]) ye_ rfl ?_;rw[K.o];unfold qi;rw[k.o];exact⟨_,rfl,(a.o.alloc _).alloc _,hk.o.fr (((A_ _ _).alloc _).alloc _)⟩
def iQ{w:Aw}(S:yF A w)(l:yg w)(q:yk w)(m:xW w)(k:xC w):Calls prog 8 #[.string s,.string s,.string bs] w λe w'=>e=.returned (.tuple #[.string (xz s bs).1,Z_ ((xz s bs).2.1:Int),Z_ (xz s bs).2.2])/\Fr w w' N_:=by
 refine hq_ λr h=>?_;have a:=af (s:=s) (bs:=bs) S l q m k;unfold qi at a;generalize (xz s bs).1=b at a h;generalize (xz s bs).2.1=j at a h;generalize (xz s bs).2.2=n at a h;replace a:=zy a;go_in;go_wp2_with (first
  |(go_at_call 15;apply a.o.mono;rintro e w1 ⟨a,rfl,i,a⟩;replace i:=zy i;have hk:=zy (a w1 (A_ _ _)))
  |(go_at_call 10;apply hk.o.mono;rintro e a ⟨rfl,rfl⟩))
 refine bodyPost_ret (v:=.tuple #[.string b,I_ j,Z_ n]) (by simp[results,results8,go_sem]) rfl ?_;rw[h.o];exact⟨rfl,i⟩
def Kit.res{w:Aw}(h:Kit A w)(s bs:BA):Calls prog 8 #[.string s,.string s,.string bs] w λe w'=>e=.returned (.tuple #[.string (xz s bs).1,Z_ ((xz s bs).2.1:Int),Z_ (xz s bs).2.2])/\Fr w w' N_:=by
 obtain⟨S,i,j,hP,a⟩:=h;exact iQ S i j hP a
def btr(n m:Nat):Bool:=decide (0<n)&&(m==0||decide (n<m))
def jnN(ns:Ao):Nat:=if 0∈ns then 0 else if 300<1+ns.sum then 301 else 1+ns.sum
def le0(n v:Nat):Prop:=v=0\/(n≠0/\n<=v)
def le0.trans{a:Nat}(h:le0 a b)(k:le0 b c):le0 a c:=by unfold le0 at *;omega
def le0.refl(a:Nat):le0 a a:=by unfold le0;omega
def po{v:Nat}(h:btr v n=false):le0 n v:=by
 unfold btr at h;unfold le0;simp only[Bool.and_eq_false_iff,decide_eq_false_iff_not,Bool.or_eq_false_iff,beq_eq_false_iff_ne]at h;omega
def Vw{v:Nat}(h:btr v n=true):0<v/\(n=0\/v<n):=by
 unfold btr at h;simp only[a0_,ax_,decide_eq_true_eq,beq_iff_eq]at h;exact h
def IfV.one(h:IfV v):v.oneCell'=true:=by rcases h with rfl|⟨T,x,rfl⟩<;>rfl
structure Rw(α:Type) where
 a:α
 v:List Value
 n:Nat
 d:Value
abbrev Ai:=List (Rw (PT×PT))
def Rw.cells{α:Type}(r:Rw α):List Value:=r.v++[I_ r.n,r.d]
structure TI(α:Type) where
 TT:TypeId
 RT:TypeId
 KT:TypeId
 w:Nat
 kv:α->Value
 Q:α->Prop
 num:α->Nat
 N:Nat
structure TI.OK{α:Type}(I:TI α):Prop where
 tt:I.TT≠I.RT
 keyed:Maps.Keyed prog I.KT
 key:∀a,I.Q a->∃l,keyOf prog I.KT (I.kv a)=some l
 kinj:∀a b,I.Q a->I.Q b->I.kv a=I.kv b->a=b
 lt:∀a,I.Q a->I.num a<I.N
 inj:∀a b,I.Q a->I.Q b->I.num a=I.num b->a=b
section
variable {α:Type} {I:TI α}
def ky(I:TI α)(D:DataW Unit)(T:List (Rw α)):Prop:=
 ∀a l,I.Q a->keyOf prog I.KT (I.kv a)=some l->(∀(i:Nat) (r:Rw α),T[i]?=some r->r.a=a->Maps.has D l=true/\D.atKey l (.lit (.int .i64 0))=.lit (.int .i64 (i:Int)))/\((∀r∈T,r.a≠a)->Maps.has D l=false)
def ky.nil:ky I (.map []) []:=λa l _ _=>⟨λi r h=>by simp at h,λ_=>rfl⟩
def ky.put(j:I.OK){T:List (Rw α)}(h:ky I D T)(u:Maps.IsMap D){r:Rw α}{l:Lit}(hr:I.Q r.a)(hl:keyOf prog I.KT (I.kv r.a)=some l)(hn:∀x∈T,x.a≠r.a):ky I (D.put l (.lit (.int .i64 (T.length:Int)))) (T++[r]):=by
 intro a m ha hm;by_cases e:a=r.a
 .subst e;rw[hl]at hm;cases hm;refine⟨λi x hx o=>?_,λk=>absurd rfl (k r x8_)⟩;have hi:i=T.length:=by
   by_cases q:i<T.length
   .rw[aq_ q]at hx;exact absurd o (hn x (ag_ hx))
   .have:=(ai_.1 hx).1;simp at this;omega
  subst hi;exact⟨Maps.has_put_same u (j.keyed.key hl) _,Maps.atKey_put_same u (j.keyed.key hl) _ _⟩
 .have z:m≠l:=λe'=>by
   subst e';exact e (j.kinj a r.a ha hr (j.keyed.inj hm hl))
  obtain⟨h1,B⟩:=h a m ha hm;rw[Maps.has_put_other z,Maps.atKey_put_other z];refine⟨λi x hx o=>?_,λk=>B (λy hy=>k y (by_ _ hy))⟩;by_cases q:i<T.length
  .rw[aq_ q]at hx;exact h1 i x hx o
  .have:=(ai_.1 hx).1;simp at this;obtain rfl:i=T.length:=M_;rw[au_ l_,Nat.sub_self]at hx;simp only[aa_,af_]at hx;subst hx;exact absurd o.symm e
def ky.re{T T':List (Rw α)}(h:ky I D T)(o:T'.map Rw.a=T.map Rw.a):ky I D T':=λa l ha hl=>by
 have g:∀(j:List (Rw α)) (i:Nat) (r:Rw α),j[i]?=some r->(j.map Rw.a)[i]?=some r.a:=λj i r h=>by rw[as_,h];rfl
 have m:∀(j V:List (Rw α)),j.map Rw.a=V.map Rw.a->∀(i:Nat) (r:Rw α),j[i]?=some r->∃x,V[i]?=some x/\x.a=r.a:=λj V e i r h=>by
  have:=g j i r h;rw[e,as_]at this;cases hx:V[i]? with
  |none=>rw[hx]at this;cases this
  |some x=>rw[hx]at this;exact⟨x,rfl,by simpa using this⟩
 obtain⟨h1,q⟩:=h a l ha hl;refine⟨λi r hr e=>?_,λk=>q (λx hx e=>?_)⟩
 .obtain⟨x,hx,u⟩:=m T' T o i r hr;exact h1 i x hx (u.trans e)
 .obtain⟨i,hi⟩:=bp_ hx;obtain⟨y,hy,z⟩:=m T T' o.symm i x hi;exact k y (ag_ hy) (z.trans e)
structure TbW(I:TI α)(fb tb mb:Nat)(kf ff:Ax)(W:Aw)(rv:Ax)(g:Ar)(T:List (Rw α)):Prop where
 b:Blk W tb [kf,ff,rv,.map (some mb),.bool g] I.TT
 row:W.ownsRow (fb+1) I.RT (I.w+2) rv T.length (T.flatMap Rw.cells)
 map:∃D:DataW Unit,W.ownsMap prog I.KT (plainElem prog 3) mb T.length D/\ky I D T
 ft:fb<tb
 fm:fb<mb
 nd:(T.map Rw.a).Nodup
 q:∀r∈T,I.Q r.a/\r.v.length=I.w/\r.n<=301/\IfV r.d
def TbS(tb mb:Nat)(rv:Ax)(g:Nat):Prop:=g=tb\/g=mb\/rv.ownBlock=some g
def vI{W W':Aw}{k:Av}{R:Value->Option (DataW Unit×List MemPlace)}(h:W.ownsMap prog k R b n D)(hf:Fr W W' S)(hb:¬S b):W'.ownsMap prog k R b n D:=by
 have i:=h.lt;obtain⟨es,c,h1,a⟩:=h;exact⟨es,c,by rw[hf.block b i hb];exact h1,a⟩
section
variable {fb tb mb:Nat} {kf ff rv:Ax} {W W':Aw} {g:Ar} {T:List (Rw α)}
def TbW.fr(h:TbW I fb tb mb kf ff W rv g T)(hf:Fr W W' S)(a:∀x,TbS tb mb rv x->¬S x):TbW I fb tb mb kf ff W' rv g T:=by
 obtain⟨D,h1,i⟩:=h.map;exact⟨hf.bl h.b (a _ (.inl rfl)),zj h.row hf (λx e=>a x (.inr (.inr e))),⟨D,vI h1 hf (a _ (.inr (.inl rfl))),i⟩,h.ft,h.fm,h.nd,h.q⟩
def TbW.new(h:TbW I fb tb mb kf ff W rv g T)(hf:Fr W W' N_):TbW I fb tb mb kf ff W' rv g T:=h.fr hf u_
def TbW.li(h:TbW I fb tb mb kf ff W rv g T){x:Nat}(hx:TbS tb mb rv x):fb<x/\x<W.heap.size:=by
 obtain⟨D,h1,_⟩:=h.map;rcases hx with rfl|rfl|e
 .exact⟨h.ft,h.b.lt⟩
 .exact⟨h.fm,h1.lt⟩
 .have:=h.row.lt x e;omega
def TbW.ot(h:TbW I fb tb mb kf ff W rv g T){x:Nat}{cs:Ca}{t:Av}{p:Nat×Nat}(hb:W.heap[x]?=some (.cells cs t p))(h1:t≠I.TT)(i:t≠I.RT):¬TbS tb mb rv x:=by
 obtain⟨D,⟨es,c,a,_⟩,_⟩:=h.map;rintro(rfl|rfl|e)
 .have:=h.b;unfold Blk at this;rw[hb]at this;simp only[af_,Obj.cells.injEq]at this;exact h1 this.2.1
 .rw[hb]at a;cases a
 .rcases h.row.2 with⟨e',_⟩|⟨g',a,a,e',_,hg,_⟩
  .subst e';simp[Value.ownBlock]at e
  .subst e';simp only[Value.ownBlock,af_]at e;subst e;rw[hb]at hg;simp only[af_,Obj.cells.injEq]at hg;exact i hg.2.1
def gZ{f:β->List Value}{w:Nat}:∀{l:List β},(∀x∈l,(f x).length=w)->∀{i:Nat}{r:β}{j:Nat},l[i]?=some r->j<w->(l.flatMap f)[i*w+j]?=(f r)[j]?
 | [],_,i,r,j,h,_=>by simp at h
 |x::l,hl,0,r,j,h,hj=>by
  simp only[aa_,af_]at h;subst h;rw[a7_,aq_ (by rw[hl x (by simp)];omega)]
  congr 1
  omega
 |x::l,hl,i+1,r,j,h,hj=>by
  have h0:=hl x x8_;rw[a7_,au_ (by rw[h0,Nat.add_one_mul];omega),h0,show(i+1)*w+j-w=i*w+j by rw[Nat.add_one_mul];omega];exact gZ (λy hy=>hl y (by simp[hy])) zd_ hj
def ri{f:β->List Value}{w:Nat}:∀{l:List β},(∀x∈l,(f x).length=w)->∀{i:Nat}{r r':β}{j:Nat}{u:Value},l[i]?=some r->j<w->f r'=(f r).set j u->(l.set i r').flatMap f=(l.flatMap f).set (i*w+j) u
 | [],_,i,r,r',j,u,h,_,_=>by simp at h
 |x::l,hl,0,r,r',j,u,h,hj,e=>by
  simp only[aa_,af_]at h;subst h;rw[am_,a7_,a7_,e,List.set_append_left _ _ (by rw[hl x (by simp)];omega)]
  congr 2
  omega
 |x::l,hl,i+1,r,r',j,u,h,hj,e=>by
  have h0:=hl x x8_;rw[ao_,a7_,a7_,ri (λy hy=>hl y (by simp[hy])) zd_ hj e,List.set_append_right _ _ (by rw[h0,Nat.add_one_mul];omega),h0,show(i+1)*w+j-w=i*w+j by rw[Nat.add_one_mul];omega]
def TbW.len(h:TbW I fb tb mb kf ff W rv g T):∀r∈T,r.cells.length=I.w+2:=λr hr=>by
 have:=(h.q r hr).2.1;simp[Rw.cells,this]
def TbW.cell(h:TbW I fb tb mb kf ff W rv g T){i:Nat}{r:Rw α}(hr:T[i]?=some r):∃b a,rv=S_ b T.length a/\∀j,j<I.w+2->W.cell? ⟨b,i*(I.w+2)+j,none⟩=r.cells[j]?/\W.frozen? ⟨b,i*(I.w+2)+j,none⟩=false:=by
 have hi:=(ai_.1 hr).1;obtain⟨b,a,rfl⟩:=zp h.row M_;refine⟨b,a,rfl,λj k=>⟨?_,h.row.frozenAt _⟩⟩;rw[h.row.cellAt _ (by have:=b6_ (I.w+2) (Nat.succ_le_of_lt hi);rw[Nat.succ_mul]at this;omega)];exact gZ h.len hr k
def TbW.apart(i:I.OK)(h:TbW I fb tb mb kf ff W rv g T):tb≠mb/\rv.ownBlock≠some tb/\rv.ownBlock≠some mb:=by
 obtain⟨D,⟨es,c,a,_⟩,_⟩:=h.map;have hb:=h.b;unfold Blk at hb;refine⟨λe=>(by rw[e,a]at hb;cases hb),λe=>?_,λe=>?_⟩;all_goals
  rcases h.row.2 with⟨e',_⟩|⟨g',j,k,e',_,hg,_⟩
  .subst e';simp[Value.ownBlock]at e
  .subst e';simp only[Value.ownBlock,af_]at e;subst e;first
    |(rw[a]at hg;cases hg;done)
    |(rw[hb]at hg;simp only[af_,Obj.cells.injEq]at hg;exact i.tt hg.2.1)
def TbW.set(C:I.OK){cap i:Nat}{r:Rw α}{d:Ax}(h:TbW I fb tb mb kf ff W (S_ b T.length cap) g T)(hr:T[i]?=some r)(hn:n<=301)(hd:IfV d):TbW I fb tb mb kf ff ((W.setCell ⟨b,i*(I.w+2)+I.w,none⟩ (I_ n)).setCell ⟨b,i*(I.w+2)+(I.w+1),none⟩ d) (S_ b T.length cap) g (T.set i ⟨r.a,r.v,n,d⟩):=by
 have u:=ag_ hr;have j:=(h.q r u).2.1;have hi:=(ai_.1 hr).1;obtain⟨D,h1,H⟩:=h.map;obtain⟨_,E,F⟩:=h.apart C;have m:Fr W ((W.setCell ⟨b,i*(I.w+2)+I.w,none⟩ (I_ n)).setCell ⟨b,i*(I.w+2)+(I.w+1),none⟩ d) (λx=>x=b):=J_ W b _ _ _ _;have o:(T.set i ⟨r.a,r.v,n,d⟩).map Rw.a=T.map Rw.a:=by
  rw[List.map_set];apply List.ext_getElem?;intro k;rw[bz_];split
  .rename_i e;subst e;rw[as_,hr];simp[hi]
  .rfl
 have G:(T.set i ⟨r.a,r.v,n,r.d⟩).flatMap Rw.cells=(T.flatMap Rw.cells).set (i*(I.w+2)+I.w) (I_ n):=ri h.len hr M_ (by
  simp only[Rw.cells]
  rw[List.set_append_right _ _ M_,j,Nat.sub_self]
  rfl)
 have J:∀x∈T.set i ⟨r.a,r.v,n,r.d⟩,x.cells.length=I.w+2:=λx hx=>by
  rcases List.mem_or_eq_of_mem_set hx with hx|rfl
  .exact h.len x hx
  .simp[Rw.cells,j]
 have l:((T.set i ⟨r.a,r.v,n,r.d⟩).set i ⟨r.a,r.v,n,d⟩).flatMap Rw.cells=((T.set i ⟨r.a,r.v,n,r.d⟩).flatMap Rw.cells).set (i*(I.w+2)+(I.w+1)) d:=ri J (r:=⟨r.a,r.v,n,r.d⟩) (by rw[bz_,i_ rfl,i_ hi]) M_ (by
  simp only[Rw.cells]
  rw[List.set_append_right _ _ M_,j,show I.w+1-I.w=1 by omega]
  rfl)
 rw[List.set_set]at l;have z:=(h.row.stored (i*(I.w+2)+I.w) (I_ n)).1;rw[<- G]at z;have B:=(z.stored (i*(I.w+2)+(I.w+1)) d).1;rw[<- l]at B;have hs:(T.set i ⟨r.a,r.v,n,d⟩).length=T.length:=bn_;refine⟨m.bl h.b (λe=>E zn_),by rw[hs];exact B,⟨D,by rw[hs];exact vI h1 m (λe=>F zn_),H.re o⟩,h.ft,h.fm,by rw[o];exact h.nd,λx hx=>?_⟩;rcases List.mem_or_eq_of_mem_set hx with hx|rfl
 .exact h.q x hx
 .exact⟨(h.q r u).1,j,hn,hd⟩
def TbW.flag(i:I.OK)(h:TbW I fb tb mb kf ff W rv g T)(u:Ar):TbW I fb tb mb kf ff (W.setCell ⟨tb,4,none⟩ (.bool u)) rv u T:=by
 obtain⟨j,l,_⟩:=h.apart i;obtain⟨D,h1,m⟩:=h.map;have a:=X_ W ⟨tb,4,none⟩ (.bool u);exact⟨h.b.set 4 _,zj h.row a (λx e k=>l (by rw[e,show x=tb from k])),⟨D,vI h1 a (λe=>j e.symm),m⟩,h.ft,h.fm,h.nd,h.q⟩
end
def Stp(W W':Aw)(S S':Az):Prop:=Fr W W' S/\∀x,x<W.heap.size->S' x->S x
def Stp.trans{W j:Aw}{a i:Az}(h:Stp W W1 S a)(k:Stp W1 j a i):Stp W j S i:=
 ⟨h.1.trans k.1 (λx hx e=>h.2 x hx e),λx hx e=>h.2 x hx (k.2 x (bg_ hx h.1.size) e)⟩
def Stp.fr{W:Aw}{S':Az}(h:Fr W W1 N_)(a:∀x,S' x->S x):Stp W W1 S S':=⟨h.mono v_,λx _ e=>a x e⟩
def E_:=@Stp.fr
section
variable {fb tb mb:Nat} {kf ff rv:Ax} {W W':Aw} {g:Ar} {T:List (Rw α)}
def TbW.push(u:I.OK)(h:TbW I fb tb mb kf ff W rv g T){r:Rw α}{l:Lit}{m j:Aw}{i:Ax}(F:I.Q r.a/\r.v.length=I.w/\r.n<=301/\IfV r.d)(hn:∀x∈T,x.a≠r.a)(hl:keyOf prog I.KT (I.kv r.a)=some l)(N:ky I D T)(hm:Maps.IsMap D)(h1:W1.ownsMap prog I.KT (plainElem prog 3) mb (T.length+1) (D.put l (.lit (.int .i64 (T.length:Int)))))(K:W.grownBy W1 (some mb))(E:Fr W1 m N_)(L:m.grownBy j rv.ownBlock)(M:j.ownsRow (fb+1) I.RT (I.w+2) i (T.length+1) (T.flatMap Rw.cells++r.cells))(hv:i.ownBlock=rv.ownBlock\/∃x,i.ownBlock=some x/\m.heap.size<=x):TbW I fb tb mb kf ff (j.setCell ⟨tb,2,none⟩ i) i g (T++[r])/\Stp W (j.setCell ⟨tb,2,none⟩ i) (TbS tb mb rv) (TbS tb mb i):=by
 obtain⟨B,C,G⟩:=h.apart u;have J:Fr W W1 (λx=>x=mb):=(A_ W _).gw K (λk e _=>by simpa using e.symm);have o:Fr W m (λx=>x=mb):=J.trans E v_;have f3:Fr m j (λx=>rv.ownBlock=some x):=(A_ m _).gw L (λk e _=>e);have f4:Fr j (j.setCell ⟨tb,2,none⟩ i) (λx=>x=tb):=X_ _ _ _;have H:=f3.bl (o.bl h.b B) C;have R:=h1.lt;have U:=o.size;have V:=h.b.lt;have O:i.ownBlock≠some tb:=λe=>by
  rcases hv with hv|⟨x,hv,hx⟩
  .exact C (hv▸e)
  .rw[hv]at e;simp only[af_]at e;omega
 refine⟨⟨H.set 2 i,?_,⟨_,?_,N.put u hm F.1 hl hn⟩,h.ft,h.fm,?_,λx hx=>?_⟩,?_,λx hx e=>?_⟩
 .rw[ah_,ap_,a9_];simpa using zj M f4 (λx e k=>O (by rw[e,k]))
 .rw[ah_,ap_];exact vI (vI (vI h1 E id) f3 G) f4 (λe=>B e.symm)
 .rw[bb_,List.nodup_append];refine⟨h.nd,by simp,λx hx y hy e=>?_⟩;simp only[av_,ba_,a2_]at hy;obtain⟨z,hz,rfl⟩:=a3_.1 hx;exact hn z hz (e.trans hy)
 .rcases a4_.1 hx with hx|hx
  .exact h.q x hx
  .simp only[a2_]at hx;subst hx;exact F
 .refine((o.mono (T:=TbS tb mb rv) (λx _ e=>.inr (.inl e))).trans f3 (λx _ e=>.inr (.inr e))).trans f4 (λx _ e=>.inl e)
 .rcases e with e|e|e
  .exact .inl e
  .exact .inr (.inl e)
  .rcases hv with hv|⟨y,hv,hy⟩
   .exact .inr (.inr (hv▸e))
   .rw[hv]at e;simp only[af_]at e;omega
end
def Stb(Cl:List (Rw α)->α->Nat->Prop)(T:List (Rw α))(r:Rw α):Prop:=∃v,Cl T r.a v/\btr v r.n=false
def Grw(Cl:List (Rw α)->α->Nat->Prop)(T T':List (Rw α))(g g':Ar):Prop:=
 ∃R,T'=T++R/\(g=true->g'=true)/\(g'=true->g=true\/R≠[])/\(g'=false->∀r∈R,Stb Cl T' r)
def QZ(Cl:List (Rw α)->α->Nat->Prop):Prop:=∀T R a v,Cl T a v->Cl (T++R) a v
section
variable {Cl:List (Rw α)->α->Nat->Prop} {T T' T'':List (Rw α)} {g g' g'':Ar}
def Stb.more(M:QZ Cl){r:Rw α}(h:Stb Cl T r)(R:List (Rw α)):Stb Cl (T++R) r:=by
 obtain⟨v,h1,a⟩:=h;exact⟨v,M _ _ _ _ h1,a⟩
def Grw.refl(T:List (Rw α))(g:Ar):Grw Cl T T g g:=⟨[],by simp,id,.inl,λ_ r h=>by simp at h⟩
def Grw.trans(M:QZ Cl)(h:Grw Cl T T' g g')(k:Grw Cl T' T'' g' g''):Grw Cl T T'' g g'':=by
 obtain⟨R,rfl,h1,j,l⟩:=h;obtain⟨a,rfl,i,m,o⟩:=k;refine⟨R++a,by simp,λe=>i (h1 e),λe=>?_,λe r hr=>?_⟩
 .rcases m e with e|e
  .rcases j e with e|e
   .exact .inl e
   .exact .inr (by simp[e])
  .exact .inr (by simp[e])
 .have e':g'=false:=by
   cases g' with
   |false=>rfl
   |true=>rw[i rfl]at e;cases e
  rcases a4_.1 hr with hr|hr
  .exact(l e' r hr).more M a
  .exact o e r hr
def phi(N:Nat)(T:List (Rw α)):Nat:=303*(N-T.length)+(T.map λr=>if r.n=0 then 302 else r.n).sum
def ai{N:Nat}{T:List (Rw α)}:∀{R:List (Rw α)},(T++R).length<=N->(∀r∈R,r.n<=301)->phi N (T++R)+R.length<=phi N T:=by
 intro R hl i;have a:∀l:List (Rw α),(∀r∈l,r.n<=301)->(l.map λr=>if r.n=0 then 302 else r.n).sum<=302*l.length:=by
  intro l;induction l with
  |nil=>intro _;simp
  |cons x l ih=>
   intro h;have h0:=h x x8_;have:=ih (λr hr=>h r (by simp[hr]));simp only[av_,List.sum_cons,ay_];split<;>omega
 have j:=a R i;unfold phi;rw[ah_]at hl⊢;rw[bb_,List.sum_append];omega
def Fg{N:Nat}:∀{T:List (Rw α)}{i:Nat}{r r':Rw α},T[i]?=some r->r.n<=301->btr r'.n r.n=true->r'.n<=301->phi N (T.set i r')+1<=phi N T:=by
 intro T i r r' hr h1 hb a;have k:=Vw hb;have:∀(T:List (Rw α)) (i:Nat),T[i]?=some r->((T.set i r').map λr=>if r.n=0 then 302 else r.n).sum+1<=(T.map λr=>if r.n=0 then 302 else r.n).sum:=by
  intro T;induction T with
  |nil=>intro i h;simp at h
  |cons x l ih=>
   intro i h;cases i with
   |zero=>
    simp only[aa_,af_]at h;subst h;simp only[am_,av_,List.sum_cons];split<;>split<;>omega
   |succ i=>
    have:=ih i zd_;simp only[ao_,av_,List.sum_cons];omega
 have j:=this T i hr;unfold phi;rw[bn_];omega
def KW:∀(N:Nat) (l:List Nat),l.Nodup->(∀x∈l,x<N)->l.length<=N
 | 0,l,_,h=>by
  cases l with
  |nil=>simp
  |cons x r=>exact absurd (h x (by simp)) M_
 | N+1,l,hd,h=>by
  have h1:=KW N (l.filter λx=>decide (x<N)) (hd.sublist List.filter_sublist) (λx hx=>by simpa using(List.mem_filter.1 hx).2);have a:l.length<=(l.filter λx=>decide (x<N)).length+1:=by
   clear h1;induction l with
   |nil=>simp
   |cons x r ih=>
    rw[List.nodup_cons]at hd;have h0:=h x x8_;by_cases hx:x<N
    .have:=ih hd.2 (λy hy=>h y (by simp[hy]));rw[List.filter_cons,i_ (by simpa using hx)];simp only[ay_];omega
    .have he:r.filter (λx=>decide (x<N))=r:=List.filter_eq_self.2 (λy hy=>by
      have i:=h y (by simp[hy])
      have:y≠x:=λe=>hd.1 (e▸hy)
      simp only[decide_eq_true_eq]
      omega)
     rw[List.filter_cons,n_ (by simpa using hx),he];simp
  omega
end
def wL(j:I.OK){T:List (Rw α)}(hd:(T.map Rw.a).Nodup)(i:∀r∈T,I.Q r.a):T.length<=I.N:=by
 have h:=KW I.N (T.map λr=>I.num r.a) (by
  have:(T.map λr=>I.num r.a)=(T.map Rw.a).map I.num:=x8_
  rw[this]
  refine List.Pairwise.map I.num (R:=λa b=>a≠b/\I.Q a/\I.Q b) (λa b h e=>h.1 (j.inj a b h.2.1 h.2.2 e)) ?_
  refine List.Pairwise.imp_of_mem (R:=(·≠·)) (λ{a b} ha hb hne=>⟨hne,?_,?_⟩) hd
  .obtain⟨r,hr,rfl⟩:=a3_.1 ha
   exact i r hr
  .obtain⟨r,hr,rfl⟩:=a3_.1 hb
   exact i r hr) (λx hx=>by
  obtain⟨r,hr,rfl⟩:=a3_.1 hx
  exact j.lt _ (i r hr))
 simpa using h
def lh(i:I.OK){T:List (Rw α)}{a:α}(hd:(T.map Rw.a).Nodup)(j:∀r∈T,I.Q r.a)(ha:I.Q a)(hn:∀r∈T,r.a≠a):T.length<I.N:=by
 have:=wL i (T:=⟨a,[],0,.nilIface⟩::T) (by
  rw[av_,List.nodup_cons]
  exact⟨λh=>by obtain⟨r,hr,e⟩:=a3_.1 h;exact hn r hr e,hd⟩) (λr hr=>by
  rcases an_.1 hr with rfl|hr
  .exact ha
  .exact j r hr)
 have h:T.length+1<=I.N:=by simpa using this
 omega
end
def jE{w:Aw}{m:Nat}{dv kv:Ax}:Calls prog 172 #[.agg #[I_ n,dv],.agg #[I_ m,kv]] w λe w'=>e=.returned (.bool (btr n m))/\Fr w w' N_:=by
 refine hq_ λr h=>?_;have a:=zy (λo q=>((A_ w N_).alloc o).alloc q);by_cases h0:0<n
 .have i:(n:Int) > 0:=M_;by_cases h1:m=0
  .have j:((m:Int)==0)=true:=by rw[beq_iff_eq];omega
   have hb:=zy (show btr n m=true by unfold btr;simp[h0,h1]);go_in;go_wp2;try go_ret
   rw[h.o,hb.o];exact⟨rfl,a.o _ _⟩
  .have j:((m:Int)==0)=false:=xg_
   by_cases k:n<m
   .have l:(n:Int)<(m:Int):=M_;have hb:=zy (show btr n m=true by unfold btr;simp[h0,k]);go_in;go_wp2;try go_ret
    rw[h.o,hb.o];exact⟨rfl,a.o _ _⟩
   .have l:¬((n:Int)<(m:Int)):=M_;have hb:=zy (show btr n m=false by unfold btr;simp[h1];omega);go_in;go_wp2;try go_ret
    rw[h.o,hb.o];exact⟨rfl,a.o _ _⟩
 .have i:¬((n:Int) > 0):=M_;have hb:=zy (show btr n m=false by unfold btr;simp[h0]);go_in;go_wp2;try go_ret
  rw[h.o,hb.o];exact⟨rfl,a.o _ _⟩
end Go.Proofs.YtamhgejdkclmdaaGreatDoor
