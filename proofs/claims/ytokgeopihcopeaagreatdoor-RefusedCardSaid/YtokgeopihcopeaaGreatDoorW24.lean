import Derived.Test.YtokgeopihcopeaaGreatDoorW23
import Derived.Maps.OwnSet
import Derived.Laws.OwnMore
set_option linter.unusedVariables false
set_option maxHeartbeats 16000000
set_option maxRecDepth 100000
set_option linter.defProp false
set_option linter.unusedSimpArgs false
open Go.Proofs.Tryz
namespace Go.Proofs.YtokgeopihcopeaaGreatDoor
open Go.RowKit
variable {n f m q c p k0 b:Nat}{d:DT}{ds ds':Ar}{y x t:PT}{sv v sv' nx:Ax}{ns:Ao}{ew er:Au}{df:Dm}{s s' bs sw sr:BA}{D:DataW Unit}{S P Q:Az}{w0 W1:Aw}{xs xs':Ay}{nt:Av}{A:Bb}
section
variable {w:Aw} {sa ra:Am} {sn sc rn rc:Nat} {sT rT aT bT dT:Av} {sx rx ax bx dx:Ax}
def cq25_{p:Prop}(h:p:=by
 refine hq_ λl j=>?_;have i:=zy (λo k=>((A_ w N_).alloc o).alloc k);replace h:=zy h;go_in;go_wp2_with ((first|go_at_call 189|go_at_call 190);apply(h.o _ (i.o _ _)).mono;rintro e w1 ⟨v,r,rfl,a⟩;replace a:=zy a);try go_ret
 rw[j.o];exact a.o):p:=h
def uU{R:Bt}{la:Am}{ln lc:Nat}(h:∀W,Fr w W N_->Calls prog 189 #[.agg #[.slice sa sn sc,.iface sT sx,.slice ra rn rc,.iface rT rx],.agg #[.iface aT ax,.iface bT bx],.slice la ln lc] W (λe w'=>∃v ev,e=.returned (.tuple #[v,ev])/\R (.returned (.tuple #[v,ev])) w')):Calls prog 141 #[.agg #[.slice sa sn sc,.iface sT sx,.slice ra rn rc,.iface rT rx],.agg #[.iface aT ax,.iface bT bx],.iface 144 (.slice la ln lc)] w R:=by
 exact cq25_
def cX{R:Bt}{la:Am}{ln lc:Nat}(h:∀W,Fr w W N_->Calls prog 190 #[.agg #[.slice sa sn sc,.iface sT sx,.slice ra rn rc,.iface rT rx],.agg #[.iface aT ax,.iface bT bx],.slice la ln lc] W (λe w'=>∃v ev,e=.returned (.tuple #[v,ev])/\R (.returned (.tuple #[v,ev])) w')):Calls prog 141 #[.agg #[.slice sa sn sc,.iface sT sx,.slice ra rn rc,.iface rT rx],.agg #[.iface aT ax,.iface bT bx],.iface 147 (.slice la ln lc)] w R:=by
 have cc1:=Nat
 exact cq25_
end
def Kw{w:Aw}{K L:Az}{R:Dp}(hc:zi c=true)(hm:xi ew er (.leaf c p) y=true)(hd:Dat ew d (.leaf c p))(hv:DaV ew w K d (.leaf c p) v):∃x,mkB R ew er df (.leaf c p) y d=some x/\DaV er w L x y v:=by
 cases y with
 |wrap c' p' u'=>simp[xi]at hm
 |alts p' l'=>simp[xi]at hm
 |leaf c' p'=>
  simp only[xi,i_ hc,ay_,beq_iff_eq,a3_]at hm;have a:∀{x:DT},qx x v->kdD x≠101->DaV er w L x (.leaf c' p') v:=λh hk=>.flat h (λn l e=>absurd e (h.nosym hk n l));have one:kdD d≠40->kdD d≠91->kdD d≠114->kdD d≠123->kdD d≠101->(c'=108->kdD d=108)->∃x,mkB R ew er df (.leaf c p) (.leaf c' p') d=some x/\DaV er w L x (.leaf c' p') v:=λh1 i j o r u=>by
   refine⟨d,?_,a (hv.leaf h1 i j o) r⟩;obtain⟨k,n,tx,ks,ds⟩:=d;simp only[mkB,i_ hc];split
   .rename_i h;rw[show(108:Nat)=k from(u h).symm]
   .rfl
  cases hd with
  |null=>exact one D_ D_ D_ D_ D_ (λh=>M_)
  |bool hq=>exact one xb_ xb_ xb_ xb_ xb_ (λh=>M_)
  |num h0 h1=>
   rcases hm with rfl|⟨_,rfl⟩
   .exact one xb_ xb_ xb_ xb_ xb_ (λh=>M_)
   .refine⟨_,by simp only[mkB,i_ hc,if_true],a ((hv.leaf xb_ xb_ xb_ xb_).long rfl) xb_⟩
  |long h0 h1=>exact one xb_ xb_ xb_ xb_ xb_ (λh=>by simp[kdD])
  |text hx h1=>exact one xb_ xb_ xb_ xb_ xb_ (λh=>M_)
  |bytes he hb' hx=>rw[hc]at hb';cases hb'
  |sym he hb' hn=>rw[hc]at hb';cases hb'
  |recd he hb' hl hh=>rw[hc]at hb';cases hb'
def tO{w:Aw}{sT rT:Av}{sx rx:Ax}{m:Ax}(F:MS w0 ds ds')(ih:Xt w0 P Q s s' ds ds' sv sv' xs xs' k0 nt nx sT sx rT rx f)(M:MC w0 P Q s s' ds ds' sv sv' xs xs' k0 nt nx w)(h:MtV w P Q s s' (zx ds) (zx ds') (ZV ds' xs') x y m)(a1:okT (zx ds) x)(a2:okT (zx ds') y)(fy:vq y)(hd:Dat (zx ds) d x)(hv:DaV (zx ds) w (λg=>g<k0) d x v)(h1:ndT d<=300)(O:ndT d<=f+1):Calls prog 85 #[.agg #[sv,.iface sT sx,sv',.iface rT rx],m,v] w (ye (zx ds') y k0 w nt nx (if xi (zx ds) (zx ds') x y=true then mkB (mkP (zx ds) (zx ds') (xD (zx ds') s') f) (zx ds) (zx ds') (xD (zx ds') s') x y d else none)):=by
 obtain⟨sa,sc,B⟩:=zw M.D.row;obtain⟨ra,rc,r⟩:=zw M.E.row;obtain⟨vT,vx,a0⟩:=hv.iface;cases h with
 |never hm=>
  rw[hm,n_ D_];subst B r a0;apply(mY M.err).mono;rintro e w' ⟨rfl,hf⟩;exact⟨_,_,rfl,hf,rfl,.base⟩
 |same hc hm=>
  rw[i_ hm];obtain⟨z,hz,b7⟩:=Kw (L:=λg=>g<k0) (R:=mkP (zx ds) (zx ds') (xD (zx ds') s') f) (df:=xD (zx ds') s') hc hm hd hv;rw[hz];subst B r a0;apply mG.mono;rintro e w' ⟨rfl,hf⟩;exact⟨_,_,rfl,hf,rfl,(b7.fr hf u_).mono (λg _ hg=>.inl hg)⟩
 |items hc ha hb=>
  rename_i c p p' t t' a b;rw[i_ (by simp[xi])];unfold okT at a1 a2;unfold vq at fy;obtain⟨aT,ax,rfl⟩:=ha.iface;obtain⟨bT,bx,rfl⟩:=hb.iface;cases hd with
  |list hl hds=>
   rename_i l0;rw[yN]at h1 O
   .obtain⟨lv,Y0,K,ho,H⟩:=hv.row_inv rfl (.inl rfl);rw[i_ rfl]at K;subst K;obtain⟨la,lc,rfl⟩:=zw ho;have C:=λW (j:Fr w W N_)=>(lE (sT:=sT) (rT:=rT) (sx:=sx) (rx:=rx) (p':=p') F ih (M.new j) (ha.fr j u_) (hb.fr j u_) a1.2 a2.2 fy (zj ho j u_) hds (λi d e=>(H i d e).fr j u_) M_ M_);have U:=λW (j:Fr w W N_)=>uU (w:=W) (sa:=sa) (sn:=ds.length) (sc:=sc) (ra:=ra) (rn:=ds'.length) (rc:=rc) (sT:=sT) (rT:=rT) (sx:=sx) (rx:=rx) (aT:=aT) (ax:=ax) (bT:=bT) (bx:=bx) (la:=la) (ln:=l0.length) (lc:=lc) (λV (G:Fr W V N_)=>by
     rw[<- B,<- r]
     exact(C V (j.trans G u_)).mono (λe w' q=>(q.pre (j.trans G u_)).tup))
    subst B r;exact(gm (λW j=>(U W j).mono (λe w' q=>q.tup))).mono (λe w' q=>by
     simp only[mkB]
     exact q)
  |map hl hk hrs hds=>
   rename_i ks l0;rw[yN]at h1 O
   .obtain⟨lv,Y0,rfl,a8,a9,ho,H⟩:=hv.map_inv rfl;obtain⟨la,lc,rfl⟩:=zw ho;have C:=λW (j:Fr w W N_)=>(dN (sT:=sT) (rT:=rT) (sx:=sx) (rx:=rx) (p':=p') F ih (M.new j) (ha.fr j u_) (hb.fr j u_) a1.2 a2.2 fy a8 a9 (zj ho j u_) hds (λi d e=>(H i d e).fr j u_) M_ M_);have U:=λW (j:Fr w W N_)=>cX (w:=W) (sa:=sa) (sn:=ds.length) (sc:=sc) (ra:=ra) (rn:=ds'.length) (rc:=rc) (sT:=sT) (rT:=rT) (sx:=sx) (rx:=rx) (aT:=aT) (ax:=ax) (bT:=bT) (bx:=bx) (la:=la) (ln:=l0.length) (lc:=lc) (λV (G:Fr W V N_)=>by
     rw[<- B,<- r]
     exact(C V (j.trans G u_)).mono (λe w' q=>(q.pre (j.trans G u_)).tup))
    subst B r;exact(gm (λW j=>(U W j).mono (λe w' q=>q.tup))).mono (λe w' q=>by
     simp only[mkB]
     exact q)
 |body hc hx hy ha hb hz hm hs=>
  rename_i c p p' X Y a b;have k:=xM hc;have Z:¬zi c=true:=by rw[k];decide
  rw[i_ (by simp[xi,k,hx,hy,hs])];have a4:=F.g c X hx;have J:=F.g' c Y hy;cases hm with
  |never h=>exact absurd hs h
  |same=>
   cases hd with
   |null=>exact absurd rfl (xg k).1
   |bool _=>exact absurd rfl (xg k).2.1
   |num _ _=>exact absurd rfl (xg k).2.2.1
   |long _ _=>exact absurd rfl (xg k).2.2.2.1
   |text _ _=>exact absurd rfl (xg k).2.2.2.2
   |sym he _ _=>rw[hx]at he;cases he
   |recd he _ _ _=>rw[hx]at he;cases he
   |bytes he _ hlt=>
    have N:mkB (mkP (zx ds) (zx ds') (xD (zx ds') s') f) (zx ds) (zx ds') (xD (zx ds') s') (.leaf c p) (.leaf c p') (.mk 102 0 ‹BA› [] [])=some (.mk 102 0 ‹BA› [] []):=by
     simp only[mkB,n_ Z,hx,hy]
    rw[N];have a3:=hv.leaf xb_ xb_ xb_ xb_;subst B r a0;apply mG.mono;rintro e w' ⟨rfl,hf⟩;exact⟨_,_,rfl,hf,rfl,.flat a3 (λn l e=>absurd e (a3.nosym xb_ n l))⟩
  |syms=>
   rename_i lw lr ow or' pp a6 u qq a5 u';cases hd with
   |null=>exact absurd rfl (xg k).1
   |bool _=>exact absurd rfl (xg k).2.1
   |num _ _=>exact absurd rfl (xg k).2.2.1
   |long _ _=>exact absurd rfl (xg k).2.2.2.1
   |text _ _=>exact absurd rfl (xg k).2.2.2.2
   |bytes he _ _=>rw[hx]at he;cases he
   |recd he _ _ _=>rw[hx]at he;cases he
   |sym he _hb hn=>
    rename_i n l o;rw[hx]at he;cases he;have N:mkB (mkP (zx ds) (zx ds') (xD (zx ds') s') f) (zx ds) (zx ds') (xD (zx ds') s') (.leaf c p) (.leaf c p') (.mk 101 (n:Int) noB [] [])=(qh lr or' ((lw.map Prod.fst).getD n 0)).map (λ(q:Nat)=>DT.mk 101 (q:Int) noB [] []):=by
     simp only[mkB,n_ Z,hx,hy,bt_]
    rw[N]
    .obtain⟨l',rfl,b6,b8⟩:=hv.sym_inv rfl
     .have b4:(lw.map Prod.fst).getD n 0=l':=by
       rw[<- b6];simp only[fU,hx]
      rw[b4];cases ha with
      |enum pa hoa hPa hua=>
       cases hb with
       |enum pb hob hPb hub=>
        obtain⟨fa,fc,rfl⟩:=zw hoa;obtain⟨ga,gc,rfl⟩:=zw hob;obtain⟨ud,rfl⟩:=hua.ptr;obtain⟨b9,rfl⟩:=hub.ptr;have C:=λW (j:Fr w W N_)=>uB (w:=W) (k0:=k0) (pr:=p') (n:=n) (l:=l') (p:=(pa:Int)) (p2:=(pb:Int)) (fa:=fa) (fn:=lw.length) (fc:=fc) (a:=ud) (M.new j).err (zj hob j u_) (hub.fr j u_) J.1.1 hy J.1.2.1;subst B r;exact uC (λW j=>(C W j).mono (λe w' q=>(q.pre j).tup))
  |flds=>
   rename_i fw fr pp a6 qq a5;cases hd with
   |null=>exact absurd rfl (xg k).1
   |bool _=>exact absurd rfl (xg k).2.1
   |num _ _=>exact absurd rfl (xg k).2.2.1
   |long _ _=>exact absurd rfl (xg k).2.2.2.1
   |text _ _=>exact absurd rfl (xg k).2.2.2.2
   |bytes he _ _=>rw[hx]at he;cases he
   |sym he _ _=>rw[hx]at he;cases he
   |recd he _hb hl hh=>
    rename_i fs dl;rw[hx]at he;cases he;rw[yN]at h1 O;have N:mkB (mkP (zx ds) (zx ds') (xD (zx ds') s') f) (zx ds) (zx ds') (xD (zx ds') s') (.leaf c p) (.leaf c p') (.mk 114 0 noB [] dl)=(vm (mkF (mkP (zx ds) (zx ds') (xD (zx ds') s') f) (xD (zx ds') s') fw dl) fr).map (λl=>.mk 114 0 noB [] l):=by
     simp only[mkB,n_ Z,hx,hy]
    rw[N]
    .obtain⟨lv,Y0,K,ho,H⟩:=hv.row_inv rfl (.inr rfl);rw[n_ D_]at K;subst K;cases ha with
     |recd pa hoa hPa hVa=>
      cases hb with
      |recd pb hob hPb hVb=>
       have a7:=λW (j:Fr w W N_)=>(M.new j).dvm hz (zj hob j u_) (hVb.fr j u_);have hF:=(⟨hoa,hPa,hVa⟩:xh w P s fw a6 _);have hG:=(⟨hob,hPb,hVb⟩:xh w Q s' fr a5 _);obtain⟨la,lc,rfl⟩:=zw ho;obtain⟨fa,fc,rfl⟩:=zw hoa;obtain⟨ga,gc,rfl⟩:=zw hob;have b5:∀(i:Nat) (h:PF),fw[i]?=some h->yg (zx ds) (.leaf c p) 0 i=h.ty:=λi h hi=>by
        simp only[yg,hx,as_,ax_,hi,by_,b6_]
       have C:=λW (j:Fr w W N_)=>uM (sT:=sT) (rT:=rT) (sx:=sx) (rx:=rx) (pr:=p') (p:=(pa:Int)) (p2:=(pb:Int)) ih (M.new j) (hF.fr j u_) (hG.fr j u_) a4.1.1 J.1.1 hl hy J.1.2.1 (a7 W j) a4.2 J.2 (F.f' c fr hy).2 (zj ho j u_) (λi d h hi hf=>⟨hh i d h.ty hi (by rw[ax_,hf];rfl),by
        have:=(H i d hi).fr j u_
        rw[b5 i h hf]at this
        exact this⟩) M_ M_
       subst B r;exact cV (λW j=>(C W j).mono (λe w' q=>(q.pre j).tup))
def Wy(fx:vJ x)(fy:vJ y):mkP ew er df (f+1) x y d=if xi ew er x y=true then mkB (mkP ew er df f) ew er df x y d else none:=by
 cases x with
 |alts p l=>exact fx.elim
 |leaf c p=>
  cases y with
  |alts p l=>exact fy.elim
  |leaf c p=>rfl
  |wrap c p u=>rfl
 |wrap c p u=>
  cases y with
  |alts p l=>exact fy.elim
  |leaf c p=>rfl
  |wrap c p u=>rfl
def Wz{rs:Af}(fx:vJ x):mkP ew er df (f+1) x (.alts p rs) d=match xZ ew er x rs 0 none with
 |none=>none
 |some k=>match rs[k]? with|none=>none|some r1=>(mkB (mkP ew er df f) ew er df x r1 d).map (λx=>.mk 40 (k:Int) noB [] [x]):=by
 cases x with
 |alts p l=>exact fx.elim
 |leaf c p=>rfl
 |wrap c p u=>rfl
def FW{ws:Af}{w1:PT}{d1:DT}(h:ws[n]?=some w1):mkP ew er df (f+1) (.alts p ws) y (.mk 40 (n:Int) noB [] [d1])=mkP ew er df f w1 y d1:=by
 show(match ws[(n:Int).toNat]?,[d1] with|some w1,d1::_=>mkP ew er df f w1 y d1|_,_=>none)=_;rw[bt_,h]
def bY(d:DT):0<ndT d:=by
 obtain⟨k,n,tx,ks,ds⟩:=d;rw[yN];omega
def FG{sT rT:Av}{sx rx:Ax}(L:MS w0 ds ds'):∀f,Xt w0 P Q s s' ds ds' sv sv' xs xs' k0 nt nx sT sx rT rx f:=by
 intro f;induction f with
 |zero=>intro w x y d a b v _ _ _ _ _ _ _ _ _ h;have:=bY d;omega
 |succ f ih=>
  intro w x y d a b v M ha hb z B fy hd hv h1 o;have a2:=λW (l:Fr w W N_)=>(aO (sT:=sT) (rT:=rT) (sx:=sx) (rx:=rx) (M.new l).D (M.new l).E (ha.fr l u_) (hb.fr l u_) z B fy).mono (λe w' (q:∃v,e=.returned v/\Fr W w' N_/\MeV w' P Q s s' (zx ds) (zx ds') (ZV ds' xs') x y v)=>show ∃T u,e=.returned (.iface T u)/\Fr W w' N_/\MeV w' P Q s s' (zx ds) (zx ds') (ZV ds' xs') x y (.iface T u) by
   obtain⟨v,h1,o,Z⟩:=q
   obtain⟨T,u,rfl⟩:=Z.iface
   exact⟨T,u,h1,o,Z⟩)
  obtain⟨sa,sc,J⟩:=zw M.D.row;obtain⟨ra,rc,H⟩:=zw M.E.row;obtain⟨aT,ax,rfl⟩:=ha.iface;obtain⟨bT,bx,rfl⟩:=hb.iface;obtain⟨vT,vx,rfl⟩:=hv.iface;have hB:∀W T u,Fr w W N_->MeV W P Q s s' (zx ds) (zx ds') (ZV ds' xs') x y (.iface T u)->Calls prog 85 #[.agg #[sv,.iface sT sx,sv',.iface rT rx],.iface T u,.iface vT vx] W (ye (zx ds') y k0 W nt nx (mkP (zx ds) (zx ds') (xD (zx ds') s') (f+1) x y d)):=by
   intro W T u l G;have C:=M.new l;have Y:=hv.fr l u_;generalize hm:Value.iface T u=mv at G⊢;cases G with
   |outb X ho hX hb1 _=>
    rename_i p ws uv b1 b7;unfold okT at z;have O:=vI z.2;cases hd with
    |alts hn hl hd1=>
     rename_i n K d1;rw[yN]at h1 o;simp only[za]at h1 o;rw[FW hl]
     .obtain⟨a7,v1,b4,R⟩:=Y.branch_inv rfl;have U:yg (zx ds) (.alts p ws) n 0=K:=by
       show ws.getD n (.leaf 0 0)=K;rw[as_,hl];rfl
      rw[U]at R;obtain⟨ua,uc,a8⟩:=zw ho;obtain⟨b5,b6,a4⟩:=hb1.iface;obtain⟨b8,b9,a9⟩:=R.iface;have F:=λV (j:Fr W V N_)=>dD (sT:=sT) (rT:=rT) (sx:=sx) (rx:=rx) L ih (C.new j) (zj ho j u_) (λi t h=>(hX i t h).fr j u_) (hb1.fr j u_) hl a7 (O K (ai_ hl)).2 B fy hd1 (R.fr j u_) M_ M_;rw[b4];subst J H a8 a4 a9;exact io (λV j=>(F V j).mono (λe w' q=>(q.pre j).tup))
   |into fx h=>
    rename_i p rs;unfold okT at B;unfold vq at fy;have O:=vI B.2;rw[Wz fx];cases hk:xZ (zx ds) (zx ds') x rs 0 none with
    |none=>
     rw[hk]at h;have h:mv=_:=h;subst h;subst J H;apply(mY C.err).mono;rintro e w' ⟨rfl,hf⟩;exact⟨_,_,rfl,hf,rfl,.base⟩
    |some k=>
     rw[hk]at h;obtain⟨r,T1,K,hr,rfl,a6,a3⟩:=h;have a0:=ai_ hr;have a5:k<=4000:=by have:=(ak_.1 hr).1;omega
     have F:=λV (j:Fr W V N_)=>tO (sT:=sT) (rT:=rT) (sx:=sx) (rx:=rx) L ih (C.new j) (a3.fr j u_ u_) z (O r a0).2 (kU fy.2 r a0) hd (Y.fr j u_) h1 o;simp only[a6,if_true]at F;simp only[hr];have U:yg (zx ds') (.alts p rs) k 0=r:=by
      show rs.getD k (.leaf 0 0)=r;rw[as_,hr];rfl
     subst J H;exact oy (λV j=>(ia a5 U (λa1 hU=>F a1 (j.trans hU u_))).mono (λe w' q=>(q.pre j).tup))
   |flat fx fy' h=>
    rw[Wy fx fy'];exact tO (sT:=sT) (rT:=rT) (sx:=sx) (rx:=rx) L ih C h z B fy hd Y h1 o
  subst J H;exact Wf (N:=λm W=>MeV W P Q s s' (zx ds) (zx ds') (ZV ds' xs') x y m) a2 (λW T u l G=>(hB W T u l G).mono (λe w' q=>by
   obtain⟨v,ev,he,hq⟩:=(q.pre l).tup
   exact⟨v,ev,he,(ye.two l q).1,hq⟩))
def Wg{w:Aw}{a b:Ax}(j:MS w0 ds ds')(M:MC w0 P Q s s' ds ds' sv sv' xs xs' k0 nt nx w)(ha:TyV w P x a)(hb:TyV w Q y b)(l:okT (zx ds) x)(r:okT (zx ds') y)(fy:vq y)(hd:Dat (zx ds) d x)(hv:DaV (zx ds) w (λg=>g<k0) d x v)(h1:ndT d<=300):Calls prog 28 #[.agg #[sv,a],.agg #[sv',b],v] w (ye (zx ds') y k0 w nt nx (mkP (zx ds) (zx ds') (xD (zx ds') s') 300 x y d)):=by
 obtain⟨h,k⟩:=y_ (ye (zx ds') y k0 w nt nx (mkP (zx ds) (zx ds') (xD (zx ds') s') 300 x y d));rw[<- k.o];obtain⟨aT,ax,rfl⟩:=ha.iface;obtain⟨bT,bx,rfl⟩:=hb.iface;have i:=λW (h:Fr w W N_)=>(FG (P:=P) (Q:=Q) (xs:=xs) (xs':=xs') (s:=s) (s':=s') (sv:=sv) (sv':=sv') (k0:=k0) (nt:=nt) (nx:=nx) (sT:=aT) (sx:=ax) (rT:=bT) (rx:=bx) j 300 W x y d _ _ v (M.new h) (ha.fr h u_) (hb.fr h u_) l r fy hd (hv.fr h u_) h1 h1).mono (λe w' q=>(q.pre h).tup);obtain⟨sa,sc,rfl⟩:=zw M.D.row;obtain⟨ra,rc,rfl⟩:=zw M.E.row;obtain⟨h,h,rfl⟩:=hv.iface;replace i:=zy i;have h:=zy (λo u=>((A_ w N_).alloc o).alloc u);go_in;go_wp2_with (go_at_call 48;apply(i.o _ (h.o _ _)).mono;rintro e w1 ⟨h,h,rfl,h⟩;replace h:=zy h);try go_ret
 rw[k.o];exact h
def Kb{w w1:Aw}{rv:Ax}{j:Nat}(hp:ze s=.ok (ds,t))(k:wi w.heap.size w1 s sv rv)(hd:bs.size<=4000)(l:rdB bs (zx ds) 301 t 0 0=.ok (d,j,m)):∀V,Fr w1 V N_->Calls prog 27 #[.agg #[sv,rv],.string bs] V (Xl (zx ds) t V d j):=by
 intro V a;obtain⟨ds',t',xs,hs,i,hn,hu,D,h,_⟩:=k;rw[hp]at i;cases i;obtain⟨e,i,f3,f4,_⟩:=vZ hs hp hn hu;obtain⟨rT,rx,rfl⟩:=h.iface;have hz:=a.size;exact Vh (D.fr a u_) (h.fr a u_) (λg hg=>M_) hd f4 (jI t (xA hs hp).2.1) e (cI e) l
def Ku{w w1:Aw}{rv rv':Ax}{t':PT}(S:xl A w)(l:yM w)(o:yH w)(hp:ze sw=.ok (ds,t))(e:ze sr=.ok (ds',t'))(i:wi w.heap.size w1 sw sv rv)(j:wi w.heap.size w1 sr sv' rv')(hf:Fr w w1 N_):∀V d v (L:Nat->Prop),Fr w1 V N_->Dat (zx ds) d t->ndT d<=300->DaV (zx ds) V L d t v->Calls prog 28 #[.agg #[sv,rv],.agg #[sv',rv'],v] V (ye (zx ds') t' V.heap.size V 411 (.pointer (some (A 6))) (mkP (zx ds) (zx ds') (xD (zx ds') sr) 300 t t' d)):=by
 intro V d v L a hd B hv;obtain⟨h,h,xs,hs,h,hn,hu,D,r,_⟩:=i;rw[hp]at h;cases h;obtain⟨h,h,xs',hs',i,z,C,h,u,k⟩:=j;rw[e]at i;cases i;obtain⟨i,j,f3,f4,_⟩:=vZ hs hp hn hu;obtain⟨j,E,E,E,_⟩:=vZ hs' e z C;have hz:=a.size;have z:=hf.size;have M:MC w _ _ sw sr ds ds' sv sv' xs xs' V.heap.size 411 (.pointer (some (A 6))) V:=
  ⟨D.fr a u_,h.fr a u_,(k.fr h a u_ u_).dfm,(yu.refl w).fr (hf.trans a u_) l_ (λ_ f=>f.elim),S.var 6 D_,M_,l_⟩
 exact Wg ⟨l,o,i,j,cI i,cI j⟩ M (r.fr a u_) (u.fr a u_) f4 E (jI t' (xA hs' e).2.1) hd (hv.mono (λg hg _=>hg)) B
def dQ{w:Aw}{lo:Nat}{a:Ax}(S:xl A w)(h:qC w lo 411 (.pointer (some (A 6))) a):wQ w a 8:=λW a=>by
 obtain⟨n,hc⟩:=qC.chainOf (h.fr a u_);exact kK (S.fr a) hc
def eO{w:Aw}{t':PT}{j:Nat}(K:Kit A w)(h0:(zu sw).1=0)(h1:(zu sr).1=0)(hp:ze sw=.ok (ds,t))(X:ze sr=.ok (ds',t'))(hd:bs.size<=4000)(Y:rdB bs (zx ds) 301 t 0 0=.ok (d,j,m))(M:Dat (zx ds) d t)(U:ndT d<=300)(hk:mkP (zx ds) (zx ds') (xD (zx ds') sr) 300 t t' d=none):Calls prog 14 #[.string sw,.string sr,.string bs] w λe w'=>∃G,e=.returned (.tuple #[.string noB,O_,G])/\Fr w w' N_/\wQ w' G 8:=by
 obtain⟨S,H,J,R,hA⟩:=K;refine hq_ λa4 Z=>?_;have a0:H_ (Calls prog 15 #[.string sw,.string sr] w λe w1=>∃sa sn sc rT rx l u r i k,e=.returned (.tuple #[.agg #[.slice sa sn sc,.iface rT rx],.agg #[.slice l u r,.iface i k],.nilIface])/\Fr w w1 N_/\wi w.heap.size w1 sw (.slice sa sn sc) (.iface rT rx)/\wi w.heap.size w1 sr (.slice l u r) (.iface i k)):=zy ((pR (sw:=sw) (sr:=sr) S H J R).mono (by
  rintro e w1 ⟨sv,rv,sv',rv',G,he,hf,hm⟩
  rcases hm with⟨_,_,rfl,hx,B⟩|⟨hn,_⟩
  .obtain⟨sa,sn,sc,rT,rx,rfl,rfl⟩:=hx.forms
   obtain⟨l,u,r,i,k,rfl,rfl⟩:=B.forms
   exact⟨_,_,_,_,_,_,_,_,_,_,he,hf,hx,B⟩
  .exact absurd ⟨h0,h1⟩ hn))
 have a2:=zy (λw1 sv rv (G:wi w.heap.size w1 sw sv rv) (_:Fr w w1 N_)=>Kb hp G hd Y);have F:=λw1 sv rv sv' rv' (G:wi w.heap.size w1 sw sv rv) (a1:wi w.heap.size w1 sr sv' rv') (hf:Fr w w1 N_) V v L hV hv=>Ku S H J hp X G a1 hf V d v L hV M U hv;rw[hk]at F;replace F:=zy F;replace S:=zy S;clear H J R h0 h1 hp X Y hk M U hd hA;go_in;go_wp2_with (first
  |(go_at_call 15;apply a0.o.mono;rintro e w1 ⟨sa,sn,sc,rT,rx,l,u,r,i,k,rfl,z,hx,B⟩;have N:=zy (a2.o _ _ _ hx z);have O:=zy (F.o _ _ _ _ _ hx B z);have b0:=zy (((B_ w1 #[.slice sa sn sc,.iface rT rx] 48).alloc (.cells #[.slice l u r,.iface i k] 48)));have b1:=zy (show Blk ((w1.alloc (.cells #[.slice sa sn sc,.iface rT rx] 48)).alloc (.cells #[.slice l u r,.iface i k] 48)) (w1.heap.size+1) [.slice l u r,.iface i k] 48 from(by have h:=B_ (w1.alloc (.cells #[.slice sa sn sc,.iface rT rx] 48)) #[.slice l u r,.iface i k] 48;rw[zm]at h;exact h));replace z:=zy z;clear hx B)
  |(go_at_call 27;apply(N.o _ (((A_ w1 _).alloc _).alloc _)).mono;rintro e w2 ⟨i,rfl,a,hm⟩;have hE:=zy (O.o w2 _ _ ((((A_ w1 _).alloc _).alloc _).trans a u_) hm);obtain⟨i,i,rfl⟩:=hm.iface;have c0:=(a.bl b0 id).c0;have c1:=(a.bl b0 id).c1;have c2:=(a.bl b1 id).c0;have c3:=(a.bl b1 id).c1;replace a:=zy (((z.o.alloc _).alloc _).trans a u_);clear hm N O b0 b1)
  |(go_at_call 28;apply hE.o.mono;rintro e i ⟨i,i,rfl,E,a3,C⟩;subst a3;obtain⟨T3,x3,rfl⟩:=C.iface;replace C:=zy C;replace E:=zy (a.o.trans E u_)))
 refine bodyPost_ret (v:=.tuple #[.string noB,O_,.iface T3 x3]) (by simp[results,results14,go_sem];rfl) rfl ?_;rw[Z.o];exact⟨_,rfl,E,dQ (S.o.fr E) C⟩
def iV{w:Aw}(h:Calls prog 14 #[.string sw,.string sr,.string bs] w λe w'=>∃a,e=.returned (.tuple #[.string noB,O_,a])/\Fr w w' N_/\wQ w' a 8):Calls prog 8 #[.string sw,.string sr,.string bs] w λe w'=>e=.returned (.tuple #[.string noB,O_,Z_ 8])/\Fr w w' N_:=by
 refine hq_ λk j=>?_;replace h:=zy h;go_in;go_wp2_with (first
  |(go_at_call 14;apply h.o.mono;rintro e w1 ⟨a,rfl,i,a⟩;replace i:=zy i;have hk:=zy (a w1 (A_ _ _)))
  |(go_at_call 11;apply hk.o.mono;rintro e a ⟨rfl,rfl⟩))
 refine bodyPost_ret (v:=.tuple #[.string noB,O_,Z_ 8]) (by simp[results,results8,go_sem]) rfl ?_;rw[j.o];exact⟨rfl,i⟩
def btr(n m:Nat):Bool:=decide (0<n)&&(m==0||decide (n<m))
def jnN(ns:Ao):Nat:=if 0∈ns then 0 else if 300<1+ns.sum then 301 else 1+ns.sum
def le0(n v:Nat):Prop:=v=0\/(n≠0/\n<=v)
def le0.trans{a:Nat}(h:le0 a b)(k:le0 b c):le0 a c:=by unfold le0 at *;omega
def le0.refl(a:Nat):le0 a a:=by unfold le0;omega
def pm{v:Nat}(h:btr v n=false):le0 n v:=by
 unfold btr at h;unfold le0;simp only[Bool.and_eq_false_iff,decide_eq_false_iff_not,Bool.or_eq_false_iff,beq_eq_false_iff_ne]at h;omega
def Vj{v:Nat}(h:btr v n=true):0<v/\(n=0\/v<n):=by
 unfold btr at h;simp only[a3_,ay_,decide_eq_true_eq,beq_iff_eq]at h;exact h
def IfV.one(h:IfV v):v.oneCell'=true:=by rcases h with rfl|⟨T,x,rfl⟩<;>rfl
structure Rw(α:Type) where
 a:α
 v:List Value
 n:Nat
 d:Value
abbrev Ah:=List (Rw (PT×PT))
def Rw.cells{α:Type}(r:Rw α):List Value:=r.v++[I_ r.n,r.d]
structure TI(α:Type) where
 TT:TypeId
 RT:TypeId
 KT:TypeId
 w:Nat
 kv:α->Value
 Q:α->Prop
 num:α->Nat
 N:Nat
structure TI.OK{α:Type}(I:TI α):Prop where
 tt:I.TT≠I.RT
 keyed:Maps.Keyed prog I.KT
 key:∀a,I.Q a->∃l,keyOf prog I.KT (I.kv a)=some l
 kinj:∀a b,I.Q a->I.Q b->I.kv a=I.kv b->a=b
 lt:∀a,I.Q a->I.num a<I.N
 inj:∀a b,I.Q a->I.Q b->I.num a=I.num b->a=b
section
variable {α:Type} {I:TI α}
def qO(I:TI α)(D:DataW Unit)(T:List (Rw α)):Prop:=
 ∀a l,I.Q a->keyOf prog I.KT (I.kv a)=some l->(∀(i:Nat) (r:Rw α),T[i]?=some r->r.a=a->Maps.has D l=true/\D.atKey l (.lit (.int .i64 0))=.lit (.int .i64 (i:Int)))/\((∀r∈T,r.a≠a)->Maps.has D l=false)
def qO.nil:qO I (.map []) []:=λa l _ _=>⟨λi r h=>by simp at h,λ_=>rfl⟩
def qO.put(j:I.OK){T:List (Rw α)}(h:qO I D T)(z:Maps.IsMap D){r:Rw α}{l:Lit}(hr:I.Q r.a)(hl:keyOf prog I.KT (I.kv r.a)=some l)(hn:∀x∈T,x.a≠r.a):qO I (D.put l (.lit (.int .i64 (T.length:Int)))) (T++[r]):=by
 intro a m ha hm;by_cases e:a=r.a
 .subst e;rw[hl]at hm;cases hm;refine⟨λi x hx o=>?_,λk=>absurd rfl (k r x6_)⟩;have hi:i=T.length:=by
   by_cases u:i<T.length
   .rw[ar_ u]at hx;exact absurd o (hn x (ai_ hx))
   .have:=(ak_.1 hx).1;simp at this;omega
  subst hi;exact⟨Maps.has_put_same z (j.keyed.key hl) _,Maps.atKey_put_same z (j.keyed.key hl) _ _⟩
 .have B:m≠l:=λe'=>by
   subst e';exact e (j.kinj a r.a ha hr (j.keyed.inj hm hl))
  obtain⟨h1,j⟩:=h a m ha hm;rw[Maps.has_put_other B,Maps.atKey_put_other B];refine⟨λi x hx o=>?_,λk=>j (λy hy=>k y (b3_ _ hy))⟩;by_cases u:i<T.length
  .rw[ar_ u]at hx;exact h1 i x hx o
  .have:=(ak_.1 hx).1;simp at this;obtain rfl:i=T.length:=M_;rw[aw_ l_,Nat.sub_self]at hx;simp only[aa_,af_]at hx;subst hx;exact absurd o.symm e
def qO.re{T T':List (Rw α)}(h:qO I D T)(o:T'.map Rw.a=T.map Rw.a):qO I D T':=λa l ha hl=>by
 have g:∀(j:List (Rw α)) (i:Nat) (r:Rw α),j[i]?=some r->(j.map Rw.a)[i]?=some r.a:=λj i r h=>by rw[ax_,h];rfl
 have m:∀(j V:List (Rw α)),j.map Rw.a=V.map Rw.a->∀(i:Nat) (r:Rw α),j[i]?=some r->∃x,V[i]?=some x/\x.a=r.a:=λj V e i r h=>by
  have:=g j i r h;rw[e,ax_]at this;cases hx:V[i]? with
  |none=>rw[hx]at this;cases this
  |some x=>rw[hx]at this;exact⟨x,rfl,by simpa using this⟩
 obtain⟨h1,j⟩:=h a l ha hl;refine⟨λi r hr e=>?_,λk=>j (λx hx e=>?_)⟩
 .obtain⟨x,hx,j⟩:=m T' T o i r hr;exact h1 i x hx (j.trans e)
 .obtain⟨i,hi⟩:=bw_ hx;obtain⟨y,hy,j⟩:=m T T' o.symm i x hi;exact k y (ai_ hy) (j.trans e)
structure TbW(I:TI α)(fb tb mb:Nat)(kf ff:Ax)(W:Aw)(rv:Ax)(g:Aq)(T:List (Rw α)):Prop where
 b:Blk W tb [kf,ff,rv,.map (some mb),.bool g] I.TT
 row:W.ownsRow (fb+1) I.RT (I.w+2) rv T.length (T.flatMap Rw.cells)
 map:∃D:DataW Unit,W.ownsMap prog I.KT (plainElem prog 3) mb T.length D/\qO I D T
 ft:fb<tb
 fm:fb<mb
 nd:(T.map Rw.a).Nodup
 q:∀r∈T,I.Q r.a/\r.v.length=I.w/\r.n<=301/\IfV r.d
def TbS(tb mb:Nat)(rv:Ax)(g:Nat):Prop:=g=tb\/g=mb\/rv.ownBlock=some g
def jy{W W':Aw}{k:Av}{R:Value->Option (DataW Unit×List MemPlace)}(h:W.ownsMap prog k R b n D)(hf:Fr W W' S)(hb:¬S b):W'.ownsMap prog k R b n D:=by
 have e:=h.lt;obtain⟨es,c,h1,a⟩:=h;exact⟨es,c,by rw[hf.block b e hb];exact h1,a⟩
section
variable {fb tb mb:Nat} {kf ff rv:Ax} {W W':Aw} {g:Aq} {T:List (Rw α)}
def TbW.fr(h:TbW I fb tb mb kf ff W rv g T)(hf:Fr W W' S)(a:∀x,TbS tb mb rv x->¬S x):TbW I fb tb mb kf ff W' rv g T:=by
 obtain⟨D,h1,i⟩:=h.map;exact⟨hf.bl h.b (a _ (.inl rfl)),zj h.row hf (λx e=>a x (.inr (.inr e))),⟨D,jy h1 hf (a _ (.inr (.inl rfl))),i⟩,h.ft,h.fm,h.nd,h.q⟩
def TbW.new(h:TbW I fb tb mb kf ff W rv g T)(hf:Fr W W' N_):TbW I fb tb mb kf ff W' rv g T:=h.fr hf u_
def TbW.li(h:TbW I fb tb mb kf ff W rv g T){x:Nat}(hx:TbS tb mb rv x):fb<x/\x<W.heap.size:=by
 obtain⟨D,h1,_⟩:=h.map;rcases hx with rfl|rfl|e
 .exact⟨h.ft,h.b.lt⟩
 .exact⟨h.fm,h1.lt⟩
 .have:=h.row.lt x e;omega
def TbW.ot(h:TbW I fb tb mb kf ff W rv g T){x:Nat}{cs:Dy}{t:Av}{p:Nat×Nat}(hb:W.heap[x]?=some (.cells cs t p))(h1:t≠I.TT)(i:t≠I.RT):¬TbS tb mb rv x:=by
 obtain⟨D,⟨es,c,a,_⟩,_⟩:=h.map;rintro(rfl|rfl|e)
 .have:=h.b;unfold Blk at this;rw[hb]at this;simp only[af_,Obj.cells.injEq]at this;exact h1 this.2.1
 .rw[hb]at a;cases a
 .rcases h.row.2 with⟨e',_⟩|⟨g',a,a,e',_,hg,_⟩
  .subst e';simp[Value.ownBlock]at e
  .subst e';simp only[Value.ownBlock,af_]at e;subst e;rw[hb]at hg;simp only[af_,Obj.cells.injEq]at hg;exact i hg.2.1
def gY{β:Type}{f:β->List Value}{w:Nat}:∀{l:List β},(∀x∈l,(f x).length=w)->∀{i:Nat}{r:β}{j:Nat},l[i]?=some r->j<w->(l.flatMap f)[i*w+j]?=(f r)[j]?
 | [],_,i,r,j,h,_=>by simp at h
 |x::l,hl,0,r,j,h,hj=>by
  simp only[aa_,af_]at h;subst h;rw[a9_,ar_ (by rw[hl x (by simp)];omega)]
  congr 1
  omega
 |x::l,hl,i+1,r,j,h,hj=>by
  have h0:=hl x x6_;rw[a9_,aw_ (by rw[h0,Nat.add_one_mul];omega),h0,show(i+1)*w+j-w=i*w+j by rw[Nat.add_one_mul];omega];exact gY (λy hy=>hl y (by simp[hy])) za_ hj
def rp{β:Type}{f:β->List Value}{w:Nat}:∀{l:List β},(∀x∈l,(f x).length=w)->∀{i:Nat}{r r':β}{j:Nat}{u:Value},l[i]?=some r->j<w->f r'=(f r).set j u->(l.set i r').flatMap f=(l.flatMap f).set (i*w+j) u
 | [],_,i,r,r',j,u,h,_,_=>by simp at h
 |x::l,hl,0,r,r',j,u,h,hj,e=>by
  simp only[aa_,af_]at h;subst h;rw[an_,a9_,a9_,e,List.set_append_left _ _ (by rw[hl x (by simp)];omega)]
  congr 2
  omega
 |x::l,hl,i+1,r,r',j,u,h,hj,e=>by
  have h0:=hl x x6_;rw[ap_,a9_,a9_,rp (λy hy=>hl y (by simp[hy])) za_ hj e,List.set_append_right _ _ (by rw[h0,Nat.add_one_mul];omega),h0,show(i+1)*w+j-w=i*w+j by rw[Nat.add_one_mul];omega]
def TbW.len(h:TbW I fb tb mb kf ff W rv g T):∀r∈T,r.cells.length=I.w+2:=λr hr=>by
 have:=(h.q r hr).2.1;simp[Rw.cells,this]
def TbW.cell(h:TbW I fb tb mb kf ff W rv g T){i:Nat}{r:Rw α}(hr:T[i]?=some r):∃b a,rv=S_ b T.length a/\∀j,j<I.w+2->W.cell? ⟨b,i*(I.w+2)+j,none⟩=r.cells[j]?/\W.frozen? ⟨b,i*(I.w+2)+j,none⟩=false:=by
 have hi:=(ak_.1 hr).1;obtain⟨b,a,rfl⟩:=zg h.row M_;refine⟨b,a,rfl,λj a=>⟨?_,h.row.frozenAt _⟩⟩;rw[h.row.cellAt _ (by have:=b4_ (I.w+2) (Nat.succ_le_of_lt hi);rw[Nat.succ_mul]at this;omega)];exact gY h.len hr a
def TbW.apart(i:I.OK)(h:TbW I fb tb mb kf ff W rv g T):tb≠mb/\rv.ownBlock≠some tb/\rv.ownBlock≠some mb:=by
 obtain⟨D,⟨es,c,a,_⟩,_⟩:=h.map;have hb:=h.b;unfold Blk at hb;refine⟨λe=>(by rw[e,a]at hb;cases hb),λe=>?_,λe=>?_⟩;all_goals
  rcases h.row.2 with⟨e',_⟩|⟨g',j,j,e',_,hg,_⟩
  .subst e';simp[Value.ownBlock]at e
  .subst e';simp only[Value.ownBlock,af_]at e;subst e;first
    |(rw[a]at hg;cases hg;done)
    |(rw[hb]at hg;simp only[af_,Obj.cells.injEq]at hg;exact i.tt hg.2.1)
def TbW.set(E:I.OK){cap i:Nat}{r:Rw α}{d:Ax}(h:TbW I fb tb mb kf ff W (S_ b T.length cap) g T)(hr:T[i]?=some r)(hn:n<=301)(hd:IfV d):TbW I fb tb mb kf ff ((W.setCell ⟨b,i*(I.w+2)+I.w,none⟩ (I_ n)).setCell ⟨b,i*(I.w+2)+(I.w+1),none⟩ d) (S_ b T.length cap) g (T.set i ⟨r.a,r.v,n,d⟩):=by
 have z:=ai_ hr;have j:=(h.q r z).2.1;have hi:=(ak_.1 hr).1;obtain⟨D,h1,J⟩:=h.map;obtain⟨_,F,G⟩:=h.apart E;have o:Fr W ((W.setCell ⟨b,i*(I.w+2)+I.w,none⟩ (I_ n)).setCell ⟨b,i*(I.w+2)+(I.w+1),none⟩ d) (λx=>x=b):=J_ W b _ _ _ _;have u:(T.set i ⟨r.a,r.v,n,d⟩).map Rw.a=T.map Rw.a:=by
  rw[List.map_set];apply List.ext_getElem?;intro k;rw[b1_];split
  .rename_i e;subst e;rw[ax_,hr];simp[hi]
  .rfl
 have H:(T.set i ⟨r.a,r.v,n,r.d⟩).flatMap Rw.cells=(T.flatMap Rw.cells).set (i*(I.w+2)+I.w) (I_ n):=rp h.len hr M_ (by
  simp only[Rw.cells]
  rw[List.set_append_right _ _ M_,j,Nat.sub_self]
  rfl)
 have K:∀x∈T.set i ⟨r.a,r.v,n,r.d⟩,x.cells.length=I.w+2:=λx hx=>by
  rcases List.mem_or_eq_of_mem_set hx with hx|rfl
  .exact h.len x hx
  .simp[Rw.cells,j]
 have l:((T.set i ⟨r.a,r.v,n,r.d⟩).set i ⟨r.a,r.v,n,d⟩).flatMap Rw.cells=((T.set i ⟨r.a,r.v,n,r.d⟩).flatMap Rw.cells).set (i*(I.w+2)+(I.w+1)) d:=rp K (r:=⟨r.a,r.v,n,r.d⟩) (by rw[b1_,i_ rfl,i_ hi]) M_ (by
  simp only[Rw.cells]
  rw[List.set_append_right _ _ M_,j,show I.w+1-I.w=1 by omega]
  rfl)
 rw[List.set_set]at l;have B:=(h.row.stored (i*(I.w+2)+I.w) (I_ n)).1;rw[<- H]at B;have C:=(B.stored (i*(I.w+2)+(I.w+1)) d).1;rw[<- l]at C;have hs:(T.set i ⟨r.a,r.v,n,d⟩).length=T.length:=br_;refine⟨o.bl h.b (λe=>F zn_),by rw[hs];exact C,⟨D,by rw[hs];exact jy h1 o (λe=>G zn_),J.re u⟩,h.ft,h.fm,by rw[u];exact h.nd,λx hx=>?_⟩;rcases List.mem_or_eq_of_mem_set hx with hx|rfl
 .exact h.q x hx
 .exact⟨(h.q r z).1,j,hn,hd⟩
def TbW.flag(a:I.OK)(h:TbW I fb tb mb kf ff W rv g T)(u:Aq):TbW I fb tb mb kf ff (W.setCell ⟨tb,4,none⟩ (.bool u)) rv u T:=by
 obtain⟨i,j,_⟩:=h.apart a;obtain⟨D,h1,l⟩:=h.map;have a:=X_ W ⟨tb,4,none⟩ (.bool u);exact⟨h.b.set 4 _,zj h.row a (λx e k=>j (by rw[e,show x=tb from k])),⟨D,jy h1 a (λe=>i e.symm),l⟩,h.ft,h.fm,h.nd,h.q⟩
end
def Stp(W W':Aw)(S S':Az):Prop:=Fr W W' S/\∀x,x<W.heap.size->S' x->S x
def Stp.trans{W j:Aw}{a i:Az}(h:Stp W W1 S a)(k:Stp W1 j a i):Stp W j S i:=
 ⟨h.1.trans k.1 (λx hx e=>h.2 x hx e),λx hx e=>h.2 x hx (k.2 x (bl_ hx h.1.size) e)⟩
def Stp.fr{W:Aw}{S':Az}(h:Fr W W1 N_)(a:∀x,S' x->S x):Stp W W1 S S':=⟨h.mono v_,λx _ e=>a x e⟩
def C_:=@Stp.fr
section
variable {fb tb mb:Nat} {kf ff rv:Ax} {W W':Aw} {g:Aq} {T:List (Rw α)}
def TbW.push(B:I.OK)(h:TbW I fb tb mb kf ff W rv g T){r:Rw α}{l:Lit}{o j:Aw}{i:Ax}(G:I.Q r.a/\r.v.length=I.w/\r.n<=301/\IfV r.d)(hn:∀x∈T,x.a≠r.a)(hl:keyOf prog I.KT (I.kv r.a)=some l)(N:qO I D T)(hm:Maps.IsMap D)(h1:W1.ownsMap prog I.KT (plainElem prog 3) mb (T.length+1) (D.put l (.lit (.int .i64 (T.length:Int)))))(K:W.grownBy W1 (some mb))(F:Fr W1 o N_)(L:o.grownBy j rv.ownBlock)(M:j.ownsRow (fb+1) I.RT (I.w+2) i (T.length+1) (T.flatMap Rw.cells++r.cells))(hv:i.ownBlock=rv.ownBlock\/∃x,i.ownBlock=some x/\o.heap.size<=x):TbW I fb tb mb kf ff (j.setCell ⟨tb,2,none⟩ i) i g (T++[r])/\Stp W (j.setCell ⟨tb,2,none⟩ i) (TbS tb mb rv) (TbS tb mb i):=by
 obtain⟨C,E,H⟩:=h.apart B;have J:Fr W W1 (λx=>x=mb):=(A_ W _).gw K (λk e _=>by simpa using e.symm);have u:Fr W o (λx=>x=mb):=J.trans F v_;have f3:Fr o j (λx=>rv.ownBlock=some x):=(A_ o _).gw L (λk e _=>e);have f4:Fr j (j.setCell ⟨tb,2,none⟩ i) (λx=>x=tb):=X_ _ _ _;have j:=f3.bl (u.bl h.b C) E;have o:=h1.lt;have o:=u.size;have o:=h.b.lt;have o:i.ownBlock≠some tb:=λe=>by
  rcases hv with hv|⟨x,hv,hx⟩
  .exact E (hv▸e)
  .rw[hv]at e;simp only[af_]at e;omega
 refine⟨⟨j.set 2 i,?_,⟨_,?_,N.put B hm G.1 hl hn⟩,h.ft,h.fm,?_,λx hx=>?_⟩,?_,λx hx e=>?_⟩
 .rw[ag_,ao_,bb_];simpa using zj M f4 (λx e k=>o (by rw[e,k]))
 .rw[ag_,ao_];exact jy (jy (jy h1 F id) f3 H) f4 (λe=>C e.symm)
 .rw[bf_,List.nodup_append];refine⟨h.nd,by simp,λx hx y hy e=>?_⟩;simp only[a0_,bn_,a2_]at hy;obtain⟨z,hz,rfl⟩:=a7_.1 hx;exact hn z hz (e.trans hy)
 .rcases a4_.1 hx with hx|hx
  .exact h.q x hx
  .simp only[a2_]at hx;subst hx;exact G
 .refine((u.mono (T:=TbS tb mb rv) (λx _ e=>.inr (.inl e))).trans f3 (λx _ e=>.inr (.inr e))).trans f4 (λx _ e=>.inl e)
 .rcases e with e|e|e
  .exact .inl e
  .exact .inr (.inl e)
  .rcases hv with hv|⟨y,hv,hy⟩
   .exact .inr (.inr (hv▸e))
   .rw[hv]at e;simp only[af_]at e;omega
end
def Stb(Cl:List (Rw α)->α->Nat->Prop)(T:List (Rw α))(r:Rw α):Prop:=∃v,Cl T r.a v/\btr v r.n=false
def Grw(Cl:List (Rw α)->α->Nat->Prop)(T T':List (Rw α))(g g':Aq):Prop:=
 ∃R,T'=T++R/\(g=true->g'=true)/\(g'=true->g=true\/R≠[])/\(g'=false->∀r∈R,Stb Cl T' r)
def Qi(Cl:List (Rw α)->α->Nat->Prop):Prop:=∀T R a v,Cl T a v->Cl (T++R) a v
section
variable {Cl:List (Rw α)->α->Nat->Prop} {T T' T'':List (Rw α)} {g g' g'':Aq}
def Stb.more(M:Qi Cl){r:Rw α}(h:Stb Cl T r)(R:List (Rw α)):Stb Cl (T++R) r:=by
 obtain⟨v,h1,a⟩:=h;exact⟨v,M _ _ _ _ h1,a⟩
def Grw.refl(T:List (Rw α))(g:Aq):Grw Cl T T g g:=⟨[],by simp,id,.inl,λ_ r h=>by simp at h⟩
def Grw.trans(M:Qi Cl)(h:Grw Cl T T' g g')(k:Grw Cl T' T'' g' g''):Grw Cl T T'' g g'':=by
 obtain⟨R,rfl,h1,j,l⟩:=h;obtain⟨a,rfl,i,o,u⟩:=k;refine⟨R++a,by simp,λe=>i (h1 e),λe=>?_,λe r hr=>?_⟩
 .rcases o e with e|e
  .rcases j e with e|e
   .exact .inl e
   .exact .inr (by simp[e])
  .exact .inr (by simp[e])
 .have e':g'=false:=by
   cases g' with
   |false=>rfl
   |true=>rw[i rfl]at e;cases e
  rcases a4_.1 hr with hr|hr
  .exact(l e' r hr).more M a
  .exact u e r hr
def phi(N:Nat)(T:List (Rw α)):Nat:=303*(N-T.length)+(T.map λr=>if r.n=0 then 302 else r.n).sum
def au{N:Nat}{T:List (Rw α)}:∀{R:List (Rw α)},(T++R).length<=N->(∀r∈R,r.n<=301)->phi N (T++R)+R.length<=phi N T:=by
 intro R hl e;have a:∀l:List (Rw α),(∀r∈l,r.n<=301)->(l.map λr=>if r.n=0 then 302 else r.n).sum<=302*l.length:=by
  intro l;induction l with
  |nil=>intro _;simp
  |cons x l ih=>
   intro h;have h0:=h x x6_;have:=ih (λr hr=>h r (by simp[hr]));simp only[a0_,List.sum_cons,au_];split<;>omega
 have i:=a R e;unfold phi;rw[ag_]at hl⊢;rw[bf_,List.sum_append];omega
def Fp{N:Nat}:∀{T:List (Rw α)}{i:Nat}{r r':Rw α},T[i]?=some r->r.n<=301->btr r'.n r.n=true->r'.n<=301->phi N (T.set i r')+1<=phi N T:=by
 intro T i r r' hr h1 hb a;have a:=Vj hb;have:∀(T:List (Rw α)) (i:Nat),T[i]?=some r->((T.set i r').map λr=>if r.n=0 then 302 else r.n).sum+1<=(T.map λr=>if r.n=0 then 302 else r.n).sum:=by
  intro T;induction T with
  |nil=>intro i h;simp at h
  |cons x l ih=>
   intro i h;cases i with
   |zero=>
    simp only[aa_,af_]at h;subst h;simp only[an_,a0_,List.sum_cons];split<;>split<;>omega
   |succ i=>
    have:=ih i za_;simp only[ap_,a0_,List.sum_cons];omega
 have a:=this T i hr;unfold phi;rw[br_];omega
def KJ:∀(N:Nat) (l:List Nat),l.Nodup->(∀x∈l,x<N)->l.length<=N
 | 0,l,_,h=>by
  cases l with
  |nil=>simp
  |cons x r=>exact absurd (h x (by simp)) M_
 | N+1,l,hd,h=>by
  have h1:=KJ N (l.filter λx=>decide (x<N)) (hd.sublist List.filter_sublist) (λx hx=>by simpa using(List.mem_filter.1 hx).2);have a:l.length<=(l.filter λx=>decide (x<N)).length+1:=by
   clear h1;induction l with
   |nil=>simp
   |cons x r ih=>
    rw[List.nodup_cons]at hd;have h0:=h x x6_;by_cases hx:x<N
    .have:=ih hd.2 (λy hy=>h y (by simp[hy]));rw[List.filter_cons,i_ (by simpa using hx)];simp only[au_];omega
    .have he:r.filter (λx=>decide (x<N))=r:=List.filter_eq_self.2 (λy hy=>by
      have a:=h y (by simp[hy])
      have:y≠x:=λe=>hd.1 (e▸hy)
      simp only[decide_eq_true_eq]
      omega)
     rw[List.filter_cons,n_ (by simpa using hx),he];simp
  omega
end
def wL(j:I.OK){T:List (Rw α)}(hd:(T.map Rw.a).Nodup)(i:∀r∈T,I.Q r.a):T.length<=I.N:=by
 have h:=KJ I.N (T.map λr=>I.num r.a) (by
  have:(T.map λr=>I.num r.a)=(T.map Rw.a).map I.num:=x6_
  rw[this]
  refine List.Pairwise.map I.num (R:=λa b=>a≠b/\I.Q a/\I.Q b) (λa b h e=>h.1 (j.inj a b h.2.1 h.2.2 e)) ?_
  refine List.Pairwise.imp_of_mem (R:=(·≠·)) (λ{a b} ha hb hne=>⟨hne,?_,?_⟩) hd
  .obtain⟨r,hr,rfl⟩:=a7_.1 ha
   exact i r hr
  .obtain⟨r,hr,rfl⟩:=a7_.1 hb
   exact i r hr) (λx hx=>by
  obtain⟨r,hr,rfl⟩:=a7_.1 hx
  exact j.lt _ (i r hr))
 simpa using h
def lh(i:I.OK){T:List (Rw α)}{a:α}(hd:(T.map Rw.a).Nodup)(j:∀r∈T,I.Q r.a)(ha:I.Q a)(hn:∀r∈T,r.a≠a):T.length<I.N:=by
 have:=wL i (T:=⟨a,[],0,.nilIface⟩::T) (by
  rw[a0_,List.nodup_cons]
  exact⟨λh=>by obtain⟨r,hr,e⟩:=a7_.1 h;exact hn r hr e,hd⟩) (λr hr=>by
  rcases aq_.1 hr with rfl|hr
  .exact ha
  .exact j r hr)
 have h:T.length+1<=I.N:=by simpa using this
 omega
end
def jA{w:Aw}{dv kv:Ax}:Calls prog 202 #[.agg #[I_ n,dv],.agg #[I_ m,kv]] w λe w'=>e=.returned (.bool (btr n m))/\Fr w w' N_:=by
 refine hq_ λl h=>?_;have a:=zy (λo l=>((A_ w N_).alloc o).alloc l);by_cases h0:0<n
 .have i:(n:Int) > 0:=M_;by_cases h1:m=0
  .have j:((m:Int)==0)=true:=by rw[beq_iff_eq];omega
   have hb:=zy (show btr n m=true by unfold btr;simp[h0,h1]);go_in;go_wp2;try go_ret
   rw[h.o,hb.o];exact⟨rfl,a.o _ _⟩
  .have j:((m:Int)==0)=false:=xg_
   by_cases j:n<m
   .have k:(n:Int)<(m:Int):=M_;have hb:=zy (show btr n m=true by unfold btr;simp[h0,j]);go_in;go_wp2;try go_ret
    rw[h.o,hb.o];exact⟨rfl,a.o _ _⟩
   .have k:¬((n:Int)<(m:Int)):=M_;have hb:=zy (show btr n m=false by unfold btr;simp[h1];omega);go_in;go_wp2;try go_ret
    rw[h.o,hb.o];exact⟨rfl,a.o _ _⟩
 .have i:¬((n:Int) > 0):=M_;have hb:=zy (show btr n m=false by unfold btr;simp[h0]);go_in;go_wp2;try go_ret
  rw[h.o,hb.o];exact⟨rfl,a.o _ _⟩
def pn{w:Aw}{dv kv:Ax}(hd:IfV dv)(hk:IfV kv):Calls prog 148 #[.agg #[I_ n,dv],.agg #[I_ m,kv]] w λe w'=>e=.returned (if btr m n=true then .agg #[I_ m,kv] else .agg #[I_ n,dv])/\Fr w w' N_:=by
 refine hq_ λj u=>?_;have hB:=zy (λW=>jA (w:=W) (n:=m) (m:=n) (dv:=kv) (kv:=dv));have k:Blk (((w.alloc (.cells #[I_ n,dv] 85)).alloc (.cells #[I_ m,kv] 85)).alloc (.cells #[O_,.nilIface] 85)) w.heap.size [I_ n,dv] 85:=((B_ w #[I_ n,dv] 85).alloc _).alloc _;have l:Blk (((w.alloc (.cells #[I_ n,dv] 85)).alloc (.cells #[I_ m,kv] 85)).alloc (.cells #[O_,.nilIface] 85)) (w.heap.size+1) [I_ m,kv] 85:=by
  have h:=(B_ (w.alloc (.cells #[I_ n,dv] 85)) #[I_ m,kv] 85).alloc (.cells #[O_,.nilIface] 85);rw[zm]at h;exact h
 have r:Blk (((w.alloc (.cells #[I_ n,dv] 85)).alloc (.cells #[I_ m,kv] 85)).alloc (.cells #[O_,.nilIface] 85)) (w.heap.size+1+1) [O_,.nilIface] 85:=by
  have h:=B_ ((w.alloc (.cells #[I_ n,dv] 85)).alloc (.cells #[I_ m,kv] 85)) #[O_,.nilIface] 85;rw[zm,zm]at h;exact h
 have B:=zy (λo j C=>(((A_ w N_).alloc o).alloc j).alloc C);revert k l r;refine h_ λk l r=>?_;have fin:H_ (∀(w1:World) (a b:Value),Fr w w1 N_->Fr w ((w1.setCell ⟨w.heap.size+1+1,0,none⟩ a).setCell ⟨w.heap.size+1+1,1,none⟩ b) N_):=zy (λw1 a b h=>h.trans (Fr.pa w1 (w.heap.size+1+1) a b) (λx hx e=>M_));have j:=λW a m=>run_store prog W a dv m hd.one;have j:=λW a m=>run_store prog W a kv m hk.one;cases hb:btr m n;all_goals
  rw[hb]at u hB;go_in;go_wp2_with (go_at_call 202;apply(hB.o _).mono;rintro e w1 ⟨rfl,j⟩;have C:=(j.bl k id).c0;have C:=(j.bl k id).c1;have b0:=(j.bl l id).c0;have b1:=(j.bl l id).c1;have i:=j.bl r id;have r0:=i.c0;have r1:=i.c1;have k:=i.th 0;have k:=i.th 1;have z:=zy ((B.o _ _ _).trans j u_);have i:=zy i)
 .have P:=W_ i (I_ n) dv;have q0:=P.c0;have q1:=P.c1;refine bodyPost_ret (v:=.agg #[I_ n,dv]) z5_ rfl ?_;rw[u.o];exact⟨rfl,fin.o _ _ _ z⟩
 .have P:=W_ i (I_ m) kv;have q0:=P.c0;have q1:=P.c1;refine bodyPost_ret (v:=.agg #[I_ m,kv]) z5_ rfl ?_;rw[u.o];exact⟨rfl,fin.o _ _ _ z⟩
def kR(w:Aw)(lv:Ax)(ns:Ao)(D:Ai):Prop:=
 w.ownsRow 0 85 2 lv ns.length ((List.range ns.length).flatMap λi=>[Z_ ((ns.getD i 0:Nat):Int),D i])
def kR.cells{w:Aw}{g:Nat}{D:Ai}(h:kR w (S_ g ns.length c) ns D)(a:ns[q]?=some n):w.cell? ⟨g,q*2,none⟩=some (I_ n)/\w.cell? ⟨g,q*2+1,none⟩=some (D q):=by
 have l:=(ak_.1 a).1;have hg:∀(m:Nat) (k:Nat),k<m->((List.range m).flatMap λi=>[Value.int .i64 ((ns.getD i 0:Nat):Int),D i])[k*2]?=some (Value.int .i64 ((ns.getD k 0:Nat):Int))/\((List.range m).flatMap λi=>[Value.int .i64 ((ns.getD i 0:Nat):Int),D i])[k*2+1]?=some (D k):=by
  intro m;induction m with
  |zero=>intro k h;omega
  |succ m ih=>
   intro k hk;have hl:((List.range m).flatMap λi=>[Value.int .i64 ((ns.getD i 0:Nat):Int),D i]).length=m*2:=by
    clear ih hk;induction m with
    |zero=>rfl
    |succ m ih=>rw[bv_,bb_,ag_,ih];simp;omega
   rw[bv_,bb_];by_cases j:k<m
   .rw[ar_ M_,ar_ M_];exact ih k j
   .obtain rfl:k=m:=M_;rw[aw_ M_,aw_ M_,hl];simp[show k*2+1-k*2=1 by omega]
 obtain⟨h1,j⟩:=hg ns.length q l;have e:ns.getD q 0=n:=by rw[as_,a];rfl
 rw[e]at h1;exact⟨zr h rfl h1,zr h rfl j⟩
def dY(h:ns[q]?=some n):(ns.take (q+1)).sum=(ns.take q).sum+n:=by
 rw[a8_,h];simp
def QS:Tryz.prog.underlying 143=some (.slice 52):=K_
structure JnM(w:Aw)(ns:Ao)(D:Ai)(q:Nat)(pv:Ax)(W:Aw):Prop where
 fr:Fr w W N_
 b:Blk W w.heap.size [O_,.nilIface] 85
 bB:w.heap.size+1<=W.heap.size
 nz:0∉ns.take q
 row:W.ownsRow (w.heap.size+1) 52 1 pv q ((List.range q).flatMap λi=>[D i])
def JnM.call{w W W':Aw}{D:Ai}{pv:Ax}(h:JnM w ns D q pv W)(hf:Fr W W' N_):JnM w ns D q pv W':=
 ⟨h.fr.trans hf u_,hf.bl h.b id,al_ h.bB hf.size,h.nz,zj h.row hf u_⟩
def JnM.item{w W a:Aw}{D:Ai}{pv j:Ax}{o:Obj}(h:JnM w ns D q pv W)(l:ns[q]?=some n)(hn:n≠0)(hg:(W.alloc o).grownBy a pv.ownBlock)(ho:a.ownsRow (w.heap.size+1) 52 1 j (q+1) (((List.range q).flatMap λi=>[D i])++[D q])):JnM w ns D (q+1) j a:=by
 have j:Fr W a (λg=>pv.ownBlock=some g):=((A_ W _).alloc o).gw hg (λk e _=>e);have a:∀g,pv.ownBlock=some g->w.heap.size+1<=g:=λg e=>(h.row.lt g e).1;refine⟨h.fr.trans j (λx hx e=>absurd (a x e) M_),j.bl h.b (λe=>o1_ (a _ e)),al_ h.bB j.size,?_,?_⟩
 .rw[a8_,l];simp only[Option.toList_some,a4_,a2_,not_or];exact⟨h.nz,λe=>hn e.symm⟩
 .rw[bv_,bb_];simpa using ho
def wu{w:Aw}{lv:Ax}{D:Ai}{fn:Et}{caps:Dy}{R:Ex}(ho:kR w lv ns D)(E:∀i,IfV (D i))(hn:∀n∈ns,n<=301)(hl:ns.length<=300)(K:∀K W,(callFunc fn K).run prog W=.ok (.enter fn K) W)(hB:∀W pv,Fr w W N_->W.ownsRow (w.heap.size+1) 52 1 pv ns.length ((List.range ns.length).flatMap λi=>[D i])->Calls prog fn (#[pv]++caps) W (λe w'=>∃v,e=.returned v/\IfV v/\Fr W w' N_/\R v w'))(B:∀v W W',R v W->Fr W W' (λg=>g=w.heap.size)->R v W'):Calls prog 146 #[lv,.func (.func fn) #[] caps] w λe w'=>∃v,e=.returned (.agg #[Z_ (jnN ns:Int),v])/\IfV v/\Fr w w' N_/\(jnN ns=0\/jnN ns=301->v=.nilIface)/\(1<=jnN ns->jnN ns<=300->R v w'):=by
 refine hq_ λK z=>?_;obtain⟨K,K,rfl⟩:=zw ho;have start:JnM w ns D 0 (L_) (w.alloc (.cells #[O_,.nilIface] 85)):=⟨(A_ w _).alloc _,B_ w _ _,by rw[zm];exact l_,by simp,World.ownsRow_nil _ _ _ _⟩;replace start:=zy start;replace ho:=zy ho;replace hB:=zy hB;replace B:=zy B;replace E:=zy E;replace hn:=zy hn;go_in;go_wp2;go_loopg [5,6,11] (ns.length+1) (λm V K v W=>∃q:Nat,V=Z_ ((1+(ns.take q).sum:Nat):Int)/\v=I_ q/\q<=ns.length/\ns.length+1-q<=m/\(ns.take q).sum<=301*q/\H_ (JnM w ns D q K W));case atStart=>exact⟨0,by simp,rfl,am_ _,M_,by simp,start⟩
 case round=>
  obtain⟨q,rfl,rfl,K,hm,H,j⟩:=hrel;obtain⟨pa,U,rfl⟩:=zw j.o.row;by_cases O:q<ns.length
  .have F:(q:Int)<(ns.length:Int):=M_;have r:ns[q]?=some ns[q]:=aj_ O;generalize ns[q]=n at r;have K:=hn.o n (ai_ r);have u:=dY r;obtain⟨g,K,K⟩:=zg ho M_;cases K;obtain⟨L,X⟩:=kR.cells (zj ho j.o.fr u_) r;have M:=E.o q;have sD:=λW a m=>run_store prog W a (D q) m M.one;have b0:=j.o.b.c0;have b1:=j.o.b.c1;have t0:=j.o.b.th 0;have t1:=j.o.b.th 1;have Y:=j.o.bB;have J:=(A_ wr N_).alloc (.cells #[I_ n,D q] 85);have k:=zy (j.o.call J);have a0:=zy (ai_ r);obtain⟨S,l⟩:=x_ ((ns.take q).sum);rw[l]at u H;rw[l];replace r:=zy r;replace u:=zy u;replace l:=zy l;by_cases hz:n=0
   .subst hz;have hr:=zy (show jnN ns=0 by unfold jnN;rw[i_ a0.o]);replace k:H_ (JnM w ns D q (.slice pa q U) (wr.alloc (.cells #[O_,D q] 85))):=k;replace L:wr.cell? ⟨g,q*2,none⟩=some (O_):=L;have c0:=k.o.b.c0;have c1:=k.o.b.c1;have u0:=k.o.b.th 0;have u1:=k.o.b.th 1;go_wp2;have P:=W_ k.o.b (O_) .nilIface;have q0:=P.c0;have q1:=P.c1;refine bodyPost_ret (v:=.agg #[O_,.nilIface]) xu_ rfl ?_;rw[z.o,hr.o];exact⟨_,rfl,.inl rfl,k.o.fr.trans (Fr.pa _ _ _ _) (λx hx e=>M_),λ_=>rfl,λh=>M_⟩
   .have E:((n:Int)==0)=false:=xg_
    obtain⟨ti,E,J,K,L⟩:=info_parts qP;have a2:=zy hz;rcases M with hv|⟨dT,dx,hv⟩;all_goals
     rw[hv]at X k;have hv:=zy hv;have M:=zy k.o.row;have c0:=k.o.b.c0;have c1:=k.o.b.c1;have u0:=k.o.b.th 0;have u1:=k.o.b.th 1
     go_wp2_with (at_builtin;go_must (refine wpList_append_own_at _ rfl _ _ 143 rfl (w.heap.size+1) 52 ti _ 1 16 QS E J K L rfl D_ (.slice pa q U) q ((List.range q).flatMap λi=>[D i]) rfl ?hown _ 1 1 [_] rfl rfl (zK _ #[_] _ _ ?nn) ?one ?b1 ?b2 ?b3 ?_)
                  case hown=>exact World.ownsRow.alloc M _
                  case nn=>simp
                  case one=>simp[Value.oneCell']
                  case b1=>unfold maxLen;omega
                  case b2=>omega
                  case b3=>simp;omega
                  intro V E G N a1 Z
                  have C:=k.o.item r a2 N (by rw[hv.o];exact G)
                  obtain⟨k,k,rfl⟩:=zg G M_
                  replace C:=zy C)
     go_roundg (ns.length+1-(q+1));case measure=>omega
     case rel=>exact⟨q+1,by rw[u.o];simp;omega,by simp,O,l_,by rw[u.o];omega,C⟩
  .have F:¬((q:Int)<(ns.length:Int)):=M_;obtain rfl:q=ns.length:=M_;have k:=j.o.nz;rw[List.take_length]at k H⊢;obtain⟨S,l⟩:=x_ (1+ns.sum);rw[l];have E:S<=1+301*ns.length:=M_;have l:=zy l;have b0:=j.o.b.c0;have b1:=j.o.b.c1;have t0:=j.o.b.th 0;have t1:=j.o.b.th 1;have Y:=j.o.bB;by_cases hb:300<S
   .have J:(S:Int) > 300:=M_;have hr:=zy (show jnN ns=301 by unfold jnN;rw[n_ k,l.o,i_ hb]);go_wp2;have P:=W_ j.o.b (Z_ 301) .nilIface;have q0:=P.c0;have q1:=P.c1;refine bodyPost_ret (v:=.agg #[Z_ 301,.nilIface]) xu_ rfl ?_;rw[z.o,hr.o];exact⟨_,rfl,.inl rfl,j.o.fr.trans (Fr.pa _ _ _ _) (λx hx e=>M_),λ_=>rfl,λ_ h=>M_⟩
   .have J:¬((S:Int) > 300):=M_;have hr:=zy (show jnN ns=S by unfold jnN;rw[n_ k,l.o,n_ hb]);have l:=zy (hB.o wr _ j.o.fr j.o.row);go_wp2_with (apply l.o.mono;rintro e k ⟨k,rfl,l,k,r⟩;have P2:=k.bl j.o.b id;have k0:=P2.c0;have E:=P2.c1;have E:=P2.th 0;have l1:=P2.th 1;have C:=zy (j.o.fr.trans k u_);have P2:=zy P2;have r:=zy r;rcases l with rfl|⟨u,G,rfl⟩)
    .have P:=W_ P2 (I_ S) .nilIface;have q0:=P.c0;have q1:=P.c1;refine bodyPost_ret (v:=.agg #[I_ S,.nilIface]) xu_ rfl ?_;rw[z.o,hr.o];exact⟨_,rfl,.inl rfl,C.o.trans (Fr.pa _ _ _ _) (λx hx e=>M_),λ_=>rfl,λ_ _=>B.o _ _ _ r (Fr.pa _ _ _ _)⟩
    .have P:=W_ P2 (I_ S) (.iface u G);have q0:=P.c0;have q1:=P.c1;refine bodyPost_ret (v:=.agg #[I_ S,.iface u G]) xu_ rfl ?_;rw[z.o,hr.o];exact⟨_,rfl,.inr ⟨_,_,rfl⟩,C.o.trans (Fr.pa _ _ _ _) (λx hx e=>M_),λh=>M_,λ_ _=>B.o _ _ _ r (Fr.pa _ _ _ _)⟩
end Go.Proofs.YtokgeopihcopeaaGreatDoor
