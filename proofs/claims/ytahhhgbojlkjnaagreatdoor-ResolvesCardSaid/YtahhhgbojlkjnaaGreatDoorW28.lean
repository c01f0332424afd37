import Derived.Test.YtahhhgbojlkjnaaGreatDoorW27
set_option maxHeartbeats 16000000
set_option maxRecDepth 100000
set_option linter.defProp false
set_option linter.unusedSimpArgs false
set_option linter.unusedVariables false
open Go.Proofs.Tryz
namespace Go.Proofs.YtahhhgbojlkjnaaGreatDoor
open Go.RowKit
variable {ew er env:Ay}{s s' sw sr bs sb:BA}{W w0:Aw}{t y x t':PT}{c bz p f fc k0 k fn:Nat}{A:Cs}{d:DT}{ds ds':Ar}{sv sv' v nx:Ax}{ts:Aq}{df:Ad}{n so o:Int}{fa:Ao}{P Q:Au}{xs xs':Az}{nt:As}{fs:Am}
section
variable {w:Aw} {sa ra:Ao} {sn sc rn rc:Nat} {sT rT aT bT dT:As} {sx rx ax bx dx:Ax}
def cq29_{p:Prop}(h:p:=by
 refine hq_ λj g=>?_;have b:=zy (λo i=>((A_ w N_).alloc o).alloc i);replace h:=zy h;go_in;go_wp2_with ((first|go_at_call 134|go_at_call 135);apply(h.o _ (b.o _ _)).mono;rintro e w1 ⟨v,l,rfl,a⟩;replace a:=zy a);try go_ret
 rw[g.o];exact a.o):p:=h
def uV{R:Cu}{la:Ao}{ln lc:Nat}(h:∀W,Fr w W N_->Calls prog 134 #[.agg #[.slice sa sn sc,.iface sT sx,.slice ra rn rc,.iface rT rx],.agg #[.iface aT ax,.iface bT bx],.slice la ln lc] W (λe w'=>∃v ev,e=.returned (.tuple #[v,ev])/\R (.returned (.tuple #[v,ev])) w')):Calls prog 93 #[.agg #[.slice sa sn sc,.iface sT sx,.slice ra rn rc,.iface rT rx],.agg #[.iface aT ax,.iface bT bx],.iface 129 (.slice la ln lc)] w R:=by
 exact cq29_
def cy{R:Cu}{la:Ao}{ln lc:Nat}(h:∀W,Fr w W N_->Calls prog 135 #[.agg #[.slice sa sn sc,.iface sT sx,.slice ra rn rc,.iface rT rx],.agg #[.iface aT ax,.iface bT bx],.slice la ln lc] W (λe w'=>∃v ev,e=.returned (.tuple #[v,ev])/\R (.returned (.tuple #[v,ev])) w')):Calls prog 93 #[.agg #[.slice sa sn sc,.iface sT sx,.slice ra rn rc,.iface rT rx],.agg #[.iface aT ax,.iface bT bx],.iface 131 (.slice la ln lc)] w R:=by
 have cc1:=Nat
 exact cq29_
end
def VI{w:Aw}{K L:Au}{R:Cz}(hc:zY c=true)(hm:yw ew er (.leaf c p) y=true)(hd:Dat ew d (.leaf c p))(b:DaV ew w K d (.leaf c p) v):∃x,mkB R ew er df (.leaf c p) y d=some x/\DaV er w L x y v:=by
 cases y with
 |wrap c' p' u'=>simp[yw]at hm
 |alts p' l'=>simp[yw]at hm
 |leaf c' p'=>
  simp only[yw,i_ hc,av_,beq_iff_eq,a0_]at hm;have a:∀{x:DT},qb x v->kdD x≠101->DaV er w L x (.leaf c' p') v:=λh hk=>.flat h (λn l e=>absurd e (h.nosym hk n l));have one:kdD d≠40->kdD d≠91->kdD d≠114->kdD d≠123->kdD d≠101->(c'=108->kdD d=108)->∃x,mkB R ew er df (.leaf c p) (.leaf c' p') d=some x/\DaV er w L x (.leaf c' p') v:=λh1 g i j m q=>by
   refine⟨d,?_,a (b.leaf h1 g i j) m⟩;obtain⟨k,n,tx,ks,ds⟩:=d;simp only[mkB,i_ hc];split
   .rename_i h;rw[show(108:Nat)=k from(q h).symm]
   .rfl
  cases hd with
  |null=>exact one D_ D_ D_ D_ D_ (λh=>M_)
  |bool hq=>exact one xl_ xl_ xl_ xl_ xl_ (λh=>M_)
  |num h0 h1=>
   rcases hm with rfl|⟨_,rfl⟩
   .exact one xl_ xl_ xl_ xl_ xl_ (λh=>M_)
   .refine⟨_,by simp only[mkB,i_ hc,if_true],a ((b.leaf xl_ xl_ xl_ xl_).long rfl) xl_⟩
  |long h0 h1=>exact one xl_ xl_ xl_ xl_ xl_ (λh=>by simp[kdD])
  |text hx h1=>exact one xl_ xl_ xl_ xl_ xl_ (λh=>M_)
  |bytes he hb' hx=>rw[hc]at hb';cases hb'
  |sym he hb' hn=>rw[hc]at hb';cases hb'
  |recd he hb' hl hh=>rw[hc]at hb';cases hb'
def tZ{w:Aw}{sT rT:As}{sx rx:Ax}{m:Ax}(I:MS w0 ds ds')(ih:ZD w0 P Q s s' ds ds' sv sv' xs xs' k0 nt nx sT sx rT rx f)(M:MC w0 P Q s s' ds ds' sv sv' xs xs' k0 nt nx w)(h:MtV w P Q s s' (zx ds) (zx ds') (ZV ds' xs') x y m)(a2:okT (zx ds) x)(a3:okT (zx ds') y)(fy:xM y)(hd:Dat (zx ds) d x)(H:DaV (zx ds) w (λg=>g<k0) d x v)(h1:ndT d<=300)(U:ndT d<=f+1):Calls prog 58 #[.agg #[sv,.iface sT sx,sv',.iface rT rx],m,v] w (yi (zx ds') y k0 w nt nx (if yw (zx ds) (zx ds') x y=true then mkB (mkP (zx ds) (zx ds') (yN (zx ds') s') f) (zx ds) (zx ds') (yN (zx ds') s') x y d else none)):=by
 obtain⟨sa,sc,F⟩:=zh M.D.row;obtain⟨ra,rc,C⟩:=zh M.E.row;obtain⟨vT,vx,a1⟩:=H.iface;cases h with
 |never hm=>
  rw[hm,n_ D_];subst F C a1;apply(bX M.err).mono;rintro e w' ⟨rfl,B⟩;exact⟨_,_,rfl,B,rfl,.base⟩
 |same hc hm=>
  rw[i_ hm];obtain⟨z,hz,b8⟩:=VI (L:=λg=>g<k0) (R:=mkP (zx ds) (zx ds') (yN (zx ds') s') f) (df:=yN (zx ds') s') hc hm hd H;rw[hz];subst F C a1;apply mY.mono;rintro e w' ⟨rfl,B⟩;exact⟨_,_,rfl,B,rfl,(b8.fr B u_).mono (λg _ hg=>.inl hg)⟩
 |items hc ha hb=>
  rename_i c p p' t t' a b;rw[i_ (by simp[yw])];unfold okT at a2 a3;unfold xM at fy;obtain⟨aT,ax,rfl⟩:=ha.iface;obtain⟨bT,bx,rfl⟩:=hb.iface;cases hd with
  |list hl hds=>
   rename_i l0;rw[jC]at h1 U
   .obtain⟨lv,Y0,O,ho,K⟩:=H.row_inv rfl (.inl rfl);rw[i_ rfl]at O;subst O;obtain⟨la,lc,rfl⟩:=zh ho;have G:=λW (j:Fr w W N_)=>(lU (sT:=sT) (rT:=rT) (sx:=sx) (rx:=rx) (p':=p') I ih (M.new j) (ha.fr j u_) (hb.fr j u_) a2.2 a3.2 fy (zk ho j u_) hds (λi d e=>(K i d e).fr j u_) M_ M_);have Z:=λW (j:Fr w W N_)=>uV (w:=W) (sa:=sa) (sn:=ds.length) (sc:=sc) (ra:=ra) (rn:=ds'.length) (rc:=rc) (sT:=sT) (rT:=rT) (sx:=sx) (rx:=rx) (aT:=aT) (ax:=ax) (bT:=bT) (bx:=bx) (la:=la) (ln:=l0.length) (lc:=lc) (λV (J:Fr W V N_)=>by
     rw[<- F,<- C]
     exact(G V (j.trans J u_)).mono (λe w' q=>(q.pre (j.trans J u_)).tup))
    subst F C;exact(gQ (λW j=>(Z W j).mono (λe w' q=>q.tup))).mono (λe w' q=>by
     simp only[mkB]
     exact q)
  |map hl hk hrs hds=>
   rename_i ks l0;rw[jC]at h1 U
   .obtain⟨lv,Y0,rfl,a9,b4,ho,K⟩:=H.map_inv rfl;obtain⟨la,lc,rfl⟩:=zh ho;have G:=λW (j:Fr w W N_)=>(da (sT:=sT) (rT:=rT) (sx:=sx) (rx:=rx) (p':=p') I ih (M.new j) (ha.fr j u_) (hb.fr j u_) a2.2 a3.2 fy a9 b4 (zk ho j u_) hds (λi d e=>(K i d e).fr j u_) M_ M_);have Z:=λW (j:Fr w W N_)=>cy (w:=W) (sa:=sa) (sn:=ds.length) (sc:=sc) (ra:=ra) (rn:=ds'.length) (rc:=rc) (sT:=sT) (rT:=rT) (sx:=sx) (rx:=rx) (aT:=aT) (ax:=ax) (bT:=bT) (bx:=bx) (la:=la) (ln:=l0.length) (lc:=lc) (λV (J:Fr W V N_)=>by
     rw[<- F,<- C]
     exact(G V (j.trans J u_)).mono (λe w' q=>(q.pre (j.trans J u_)).tup))
    subst F C;exact(gQ (λW j=>(Z W j).mono (λe w' q=>q.tup))).mono (λe w' q=>by
     simp only[mkB]
     exact q)
 |body hc hx hy ha hb hz hm hs=>
  rename_i c p p' X Y a b;have r:=jI hc;have a0:¬zY c=true:=by rw[r];decide
  rw[i_ (by simp[yw,r,hx,hy,hs])];have a5:=I.g c X hx;have N:=I.g' c Y hy;cases hm with
  |never h=>exact absurd hs h
  |same=>
   cases hd with
   |null=>exact absurd rfl (xh r).1
   |bool _=>exact absurd rfl (xh r).2.1
   |num _ _=>exact absurd rfl (xh r).2.2.1
   |long _ _=>exact absurd rfl (xh r).2.2.2.1
   |text _ _=>exact absurd rfl (xh r).2.2.2.2
   |sym he _ _=>rw[hx]at he;cases he
   |recd he _ _ _=>rw[hx]at he;cases he
   |bytes he _ hlt=>
    have S:mkB (mkP (zx ds) (zx ds') (yN (zx ds') s') f) (zx ds) (zx ds') (yN (zx ds') s') (.leaf c p) (.leaf c p') (.mk 102 0 ‹BA› [] [])=some (.mk 102 0 ‹BA› [] []):=by
     simp only[mkB,n_ a0,hx,hy]
    rw[S];have a4:=H.leaf xl_ xl_ xl_ xl_;subst F C a1;apply mY.mono;rintro e w' ⟨rfl,B⟩;exact⟨_,_,rfl,B,rfl,.flat a4 (λn l e=>absurd e (a4.nosym xl_ n l))⟩
  |syms=>
   rename_i lw lr ow or' pp a7 u qq a6 u';cases hd with
   |null=>exact absurd rfl (xh r).1
   |bool _=>exact absurd rfl (xh r).2.1
   |num _ _=>exact absurd rfl (xh r).2.2.1
   |long _ _=>exact absurd rfl (xh r).2.2.2.1
   |text _ _=>exact absurd rfl (xh r).2.2.2.2
   |bytes he _ _=>rw[hx]at he;cases he
   |recd he _ _ _=>rw[hx]at he;cases he
   |sym he _hb hn=>
    rename_i n l o;rw[hx]at he;cases he;have S:mkB (mkP (zx ds) (zx ds') (yN (zx ds') s') f) (zx ds) (zx ds') (yN (zx ds') s') (.leaf c p) (.leaf c p') (.mk 101 (n:Int) noB [] [])=(qE lr or' ((lw.map Prod.fst).getD n 0)).map (λ(q:Nat)=>DT.mk 101 (q:Int) noB [] []):=by
     simp only[mkB,n_ a0,hx,hy,bb_]
    rw[S]
    .obtain⟨l',rfl,b7,b9⟩:=H.sym_inv rfl
     .have b5:(lw.map Prod.fst).getD n 0=l':=by
       rw[<- b7];simp only[fI,hx]
      rw[b5];cases ha with
      |enum pa hoa hPa hua=>
       cases hb with
       |enum pb hob hPb hub=>
        obtain⟨fa,fc,rfl⟩:=zh hoa;obtain⟨ga,gc,rfl⟩:=zh hob;obtain⟨ud,rfl⟩:=hua.ptr;obtain⟨d0,rfl⟩:=hub.ptr;have G:=λW (j:Fr w W N_)=>uX (w:=W) (k0:=k0) (pr:=p') (n:=n) (l:=l') (p:=(pa:Int)) (p2:=(pb:Int)) (fa:=fa) (fn:=lw.length) (fc:=fc) (a:=ud) (M.new j).err (zk hob j u_) (hub.fr j u_) N.1.1 hy N.1.2.1;subst F C;exact uQ (λW j=>(G W j).mono (λe w' q=>(q.pre j).tup))
  |flds=>
   rename_i fw fr pp a7 qq a6;cases hd with
   |null=>exact absurd rfl (xh r).1
   |bool _=>exact absurd rfl (xh r).2.1
   |num _ _=>exact absurd rfl (xh r).2.2.1
   |long _ _=>exact absurd rfl (xh r).2.2.2.1
   |text _ _=>exact absurd rfl (xh r).2.2.2.2
   |bytes he _ _=>rw[hx]at he;cases he
   |sym he _ _=>rw[hx]at he;cases he
   |recd he _hb hl hh=>
    rename_i fs dl;rw[hx]at he;cases he;rw[jC]at h1 U;have S:mkB (mkP (zx ds) (zx ds') (yN (zx ds') s') f) (zx ds) (zx ds') (yN (zx ds') s') (.leaf c p) (.leaf c p') (.mk 114 0 noB [] dl)=(yb (mkF (mkP (zx ds) (zx ds') (yN (zx ds') s') f) (yN (zx ds') s') fw dl) fr).map (λl=>.mk 114 0 noB [] l):=by
     simp only[mkB,n_ a0,hx,hy]
    rw[S]
    .obtain⟨lv,Y0,O,ho,K⟩:=H.row_inv rfl (.inr rfl);rw[n_ D_]at O;subst O;cases ha with
     |recd pa hoa hPa hVa=>
      cases hb with
      |recd pb hob hPb hVb=>
       have a8:=λW (j:Fr w W N_)=>(M.new j).dvm hz (zk hob j u_) (hVb.fr j u_);have hF:=(⟨hoa,hPa,hVa⟩:xQ w P s fw a7 _);have hG:=(⟨hob,hPb,hVb⟩:xQ w Q s' fr a6 _);obtain⟨la,lc,rfl⟩:=zh ho;obtain⟨fa,fc,rfl⟩:=zh hoa;obtain⟨ga,gc,rfl⟩:=zh hob;have b6:∀(i:Nat) (h:PF),fw[i]?=some h->zN (zx ds) (.leaf c p) 0 i=h.ty:=λi h T=>by
        simp only[zN,hx,az_,a1_,T,a4_,b5_]
       have G:=λW (j:Fr w W N_)=>uJ (sT:=sT) (rT:=rT) (sx:=sx) (rx:=rx) (pr:=p') (p:=(pa:Int)) (p2:=(pb:Int)) ih (M.new j) (hF.fr j u_) (hG.fr j u_) a5.1.1 N.1.1 hl hy N.1.2.1 (a8 W j) a5.2 N.2 (I.f' c fr hy).2 (zk ho j u_) (λi d h T B=>⟨hh i d h.ty T (by rw[a1_,B];rfl),by
        have:=(K i d T).fr j u_
        rw[b6 i h B]at this
        exact this⟩) M_ M_
       subst F C;exact cq (λW j=>(G W j).mono (λe w' q=>(q.pre j).tup))
def JU(fx:vW x)(fy:vW y):mkP ew er df (f+1) x y d=if yw ew er x y=true then mkB (mkP ew er df f) ew er df x y d else none:=by
 cases x with
 |alts p l=>exact fx.elim
 |leaf c p=>
  cases y with
  |alts p l=>exact fy.elim
  |leaf c p=>rfl
  |wrap c p u=>rfl
 |wrap c p u=>
  cases y with
  |alts p l=>exact fy.elim
  |leaf c p=>rfl
  |wrap c p u=>rfl
def JB{rs:Af}(fx:vW x):mkP ew er df (f+1) x (.alts p rs) d=match xp ew er x rs 0 none with
 |none=>none
 |some k=>match rs[k]? with|none=>none|some r1=>(mkB (mkP ew er df f) ew er df x r1 d).map (λx=>.mk 40 (k:Int) noB [] [x]):=by
 cases x with
 |alts p l=>exact fx.elim
 |leaf c p=>rfl
 |wrap c p u=>rfl
def KA{n:Nat}{ws:Af}{w1:PT}{a:DT}(h:ws[n]?=some w1):mkP ew er df (f+1) (.alts p ws) y (.mk 40 (n:Int) noB [] [a])=mkP ew er df f w1 y a:=by
 show(match ws[(n:Int).toNat]?,[a] with|some w1,a::_=>mkP ew er df f w1 y a|_,_=>none)=_;rw[bb_,h]
def KH(d:DT):0<ndT d:=by
 obtain⟨k,n,tx,ks,ds⟩:=d;rw[jC];omega
def Wy{sT rT:As}{sx rx:Ax}(K:MS w0 ds ds'):∀f,ZD w0 P Q s s' ds ds' sv sv' xs xs' k0 nt nx sT sx rT rx f:=by
 intro f;induction f with
 |zero=>intro w x y d a b v _ _ _ _ _ _ _ _ _ h;have:=KH d;omega
 |succ f ih=>
  intro w x y d a b v M ha hb r z fy hd Z h1 l;have a1:=λW (j:Fr w W N_)=>(JR (sT:=sT) (rT:=rT) (sx:=sx) (rx:=rx) (M.new j).D (M.new j).E (ha.fr j u_) (hb.fr j u_) r z fy).mono (λe w' (q:∃v,e=.returned v/\Fr W w' N_/\MeV w' P Q s s' (zx ds) (zx ds') (ZV ds' xs') x y v)=>show ∃T u,e=.returned (.iface T u)/\Fr W w' N_/\MeV w' P Q s s' (zx ds) (zx ds') (ZV ds' xs') x y (.iface T u) by
   obtain⟨v,h1,l,U⟩:=q
   obtain⟨T,u,rfl⟩:=U.iface
   exact⟨T,u,h1,l,U⟩)
  obtain⟨sa,sc,H⟩:=zh M.D.row;obtain⟨ra,rc,G⟩:=zh M.E.row;obtain⟨aT,ax,rfl⟩:=ha.iface;obtain⟨bT,bx,rfl⟩:=hb.iface;obtain⟨vT,vx,rfl⟩:=Z.iface;have hB:∀W T u,Fr w W N_->MeV W P Q s s' (zx ds) (zx ds') (ZV ds' xs') x y (.iface T u)->Calls prog 58 #[.agg #[sv,.iface sT sx,sv',.iface rT rx],.iface T u,.iface vT vx] W (yi (zx ds') y k0 W nt nx (mkP (zx ds) (zx ds') (yN (zx ds') s') (f+1) x y d)):=by
   intro W T u j F;have B:=M.new j;have S:=Z.fr j u_;generalize hm:Value.iface T u=mv at F⊢;cases F with
   |outb X ho hX hb1 _=>
    rename_i p ws uv b1 b6;unfold okT at r;have L:=xC r.2;cases hd with
    |alts hn hl hd1=>
     rename_i n J d1;rw[jC]at h1 l;simp only[zM]at h1 l;rw[KA hl]
     .obtain⟨a6,v1,a9,O⟩:=S.branch_inv rfl;have R:zN (zx ds) (.alts p ws) n 0=J:=by
       show ws.getD n (.leaf 0 0)=J;rw[az_,hl];rfl
      rw[R]at O;obtain⟨ua,uc,a7⟩:=zh ho;obtain⟨b4,b5,a3⟩:=hb1.iface;obtain⟨b7,b8,a8⟩:=O.iface;have C:=λV (g:Fr W V N_)=>de (sT:=sT) (rT:=rT) (sx:=sx) (rx:=rx) K ih (B.new g) (zk ho g u_) (λi t h=>(hX i t h).fr g u_) (hb1.fr g u_) hl a6 (L J (al_ hl)).2 z fy hd1 (O.fr g u_) M_ M_;rw[a9];subst H G a7 a3 a8;exact sF (λV g=>(C V g).mono (λe w' q=>(q.pre g).tup))
   |into fx h=>
    rename_i p rs;unfold okT at z;unfold xM at fy;have L:=xC z.2;rw[JB fx];cases hk:xp (zx ds) (zx ds') x rs 0 none with
    |none=>
     rw[hk]at h;have h:mv=_:=h;subst h;subst H G;apply(bX B.err).mono;rintro e w' ⟨rfl,hf⟩;exact⟨_,_,rfl,hf,rfl,.base⟩
    |some k=>
     rw[hk]at h;obtain⟨I,T1,J,hr,rfl,a5,a2⟩:=h;have Y:=al_ hr;have a4:k<=4000:=by have:=(am_.1 hr).1;omega
     have C:=λV (g:Fr W V N_)=>tZ (sT:=sT) (rT:=rT) (sx:=sx) (rx:=rx) K ih (B.new g) (a2.fr g u_ u_) r (L I Y).2 (wy fy.2 I Y) hd (S.fr g u_) h1 l;simp only[a5,if_true]at C;simp only[hr];have R:zN (zx ds') (.alts p rs) k 0=I:=by
      show rs.getD k (.leaf 0 0)=I;rw[az_,hr];rfl
     subst H G;exact eN (λV g=>(sG a4 R (λa0 hU=>C a0 (g.trans hU u_))).mono (λe w' q=>(q.pre g).tup))
   |flat fx fy' h=>
    rw[JU fx fy'];exact tZ (sT:=sT) (rT:=rT) (sx:=sx) (rx:=rx) K ih B h r z fy hd S h1 l
  subst H G;exact JS (N:=λm W=>MeV W P Q s s' (zx ds) (zx ds') (ZV ds' xs') x y m) a1 (λW T u j F=>(hB W T u j F).mono (λe w' q=>by
   obtain⟨v,ev,he,hq⟩:=(q.pre j).tup
   exact⟨v,ev,he,(yi.two j q).1,hq⟩))
def JN{w:Aw}{a b:Ax}(l:MS w0 ds ds')(M:MC w0 P Q s s' ds ds' sv sv' xs xs' k0 nt nx w)(ha:TyV w P x a)(hb:TyV w Q y b)(r:okT (zx ds) x)(u:okT (zx ds') y)(fy:xM y)(hd:Dat (zx ds) d x)(j:DaV (zx ds) w (λg=>g<k0) d x v)(h1:ndT d<=300):Calls prog 18 #[.agg #[sv,a],.agg #[sv',b],v] w (yi (zx ds') y k0 w nt nx (mkP (zx ds) (zx ds') (yN (zx ds') s') 300 x y d)):=by
 obtain⟨h,m⟩:=y_ (yi (zx ds') y k0 w nt nx (mkP (zx ds) (zx ds') (yN (zx ds') s') 300 x y d));rw[<- m.o];obtain⟨aT,ax,rfl⟩:=ha.iface;obtain⟨bT,bx,rfl⟩:=hb.iface;have i:=λW (h:Fr w W N_)=>(Wy (P:=P) (Q:=Q) (xs:=xs) (xs':=xs') (s:=s) (s':=s') (sv:=sv) (sv':=sv') (k0:=k0) (nt:=nt) (nx:=nx) (sT:=aT) (sx:=ax) (rT:=bT) (rx:=bx) l 300 W x y d _ _ v (M.new h) (ha.fr h u_) (hb.fr h u_) r u fy hd (j.fr h u_) h1 h1).mono (λe w' q=>(q.pre h).tup);obtain⟨sa,sc,rfl⟩:=zh M.D.row;obtain⟨ra,rc,rfl⟩:=zh M.E.row;obtain⟨h,h,rfl⟩:=j.iface;replace i:=zy i;have h:=zy (λo z=>((A_ w N_).alloc o).alloc z);go_in;go_wp2_with (go_at_call 34;apply(i.o _ (h.o _ _)).mono;rintro e w1 ⟨h,h,rfl,h⟩;replace h:=zy h);try go_ret
 rw[m.o];exact h
def uj(sw sr bs:BA):Prop:=(yH sw sr bs).2.2=0->∃ds t ds' t' d j m x,zQ sw=.ok (ds,t)/\zQ sr=.ok (ds',t')/\rdB bs (zx ds) 301 t 0 0=.ok (d,j,m)/\mkP (zx ds) (zx ds') (yN (zx ds') sr) 300 t t' d=some x/\okD x
def uj.no{b:BA}{j:Nat}(h:yH sw sr bs=(b,j,n))(hn:n≠0):uj sw sr bs:=λh0=>absurd (by rw[h]at h0;exact h0) hn
def qQ(w:Aw)(sw sr bs:BA)(e:Ah)(w':Aw):Prop:=∃ev,e=.returned (.tuple #[.string (yH sw sr bs).1,Z_ ((yH sw sr bs).2.1:Int),ev])/\Fr w w' N_/\uq w' ev (yH sw sr bs).2.2/\uj sw sr bs
def Jy{w w1:Aw}{rv:Ax}(S:xg A w)(j:yV w)(m:yJ w)(hp:zQ s=.ok (ds,t))(l:wH w.heap.size w1 s sv rv)(h:Fr w w1 N_)(hd:bs.size<=4000):∀V,Fr w1 V N_->Calls prog 17 #[.agg #[sv,rv],.string bs] V (ZH (zx ds) t V (aI A) (rdB bs (zx ds) 301 t 0 0)):=by
 intro V a;obtain⟨ds',t',xs,hs,i,hn,hu,D,e,_⟩:=l;rw[hp]at i;cases i;obtain⟨b,i,f3,f4,_⟩:=ky hs hp hn hu;obtain⟨rT,rx,rfl⟩:=e.iface;have hz:=a.size;exact YW (w0:=w) (D.fr a u_) (e.fr a u_) ((yt.refl w).fr (h.trans a u_) l_ (λ_ f=>f.elim)) (by have:=h.size;omega) (λg hg=>M_) (S.var 4 D_) (S.var 5 D_) hd f4 (wv t (jh hs hp).2.1) b (cK b) j m
def Jx{w w1:Aw}{rv a:Ax}(S:xg A w)(q:yV w)(r:yJ w)(hp:zQ sw=.ok (ds,t))(b:zQ sr=.ok (ds',t'))(h:wH w.heap.size w1 sw sv rv)(l:wH w.heap.size w1 sr sv' a)(i:Fr w w1 N_):∀V d v (L:Nat->Prop),Fr w1 V N_->Dat (zx ds) d t->ndT d<=300->DaV (zx ds) V L d t v->Calls prog 18 #[.agg #[sv,rv],.agg #[sv',a],v] V (yi (zx ds') t' V.heap.size V 364 (.pointer (some (A 6))) (mkP (zx ds) (zx ds') (yN (zx ds') sr) 300 t t' d)):=by
 intro V d v L a hd C F;obtain⟨e,e,xs,hs,e,hn,hu,D,u,_⟩:=h;rw[hp]at e;cases e;obtain⟨e,e,xs',j,h,B,E,e,z,m⟩:=l;rw[b]at h;cases h;obtain⟨h,l,f3,f4,_⟩:=ky hs hp hn hu;obtain⟨l,G,G,G,_⟩:=ky j b B E;have hz:=a.size;have B:=i.size;have M:MC w _ _ sw sr ds ds' sv sv' xs xs' V.heap.size 364 (.pointer (some (A 6))) V:=
  ⟨D.fr a u_,e.fr a u_,(m.fr e a u_ u_).dfm,(yt.refl w).fr (i.trans a u_) l_ (λ_ f=>f.elim),S.var 6 D_,M_,l_⟩
 exact JN ⟨q,r,h,l,cK h,cK l⟩ M (u.fr a u_) (z.fr a u_) f4 G (wv t' (jh j b).2.1) hd (F.mono (λg hg _=>hg)) C
def db{w:Aw}{lo:Nat}{a:Ax}(S:xg A w)(h:jp w lo 364 (.pointer (some (A 6))) a):uq w a 8:=λW a=>by
 obtain⟨n,hc⟩:=jp.chainOf (h.fr a u_);exact kX (S.fr a) hc
def iD{w:Aw}(S:xg A w)(O:yV w)(R:yJ w)(a7:vD w)(N:jK w):Calls prog 9 #[.string sw,.string sr,.string bs] w (qQ w sw sr bs):=by
 refine hq_ λe5 K=>?_;have hB:=zy (nL (sw:=sw) (sr:=sr) S O R a7);by_cases M:(zl sw).1=0/\(zl sr).1=0
 .obtain⟨h0,h1⟩:=M;obtain⟨_,ds,t,hp⟩:=fu h0;obtain⟨_,ds',t',U⟩:=fu h1;have X:H_ (Calls prog 16 #[.string sw,.string sr] w λe w1=>∃sa sn sc rT rx sa' sn' sc' rT' rx',e=.returned (.tuple #[.agg #[.slice sa sn sc,.iface rT rx],.agg #[.slice sa' sn' sc',.iface rT' rx'],.nilIface])/\Fr w w1 N_/\wH w.heap.size w1 sw (.slice sa sn sc) (.iface rT rx)/\wH w.heap.size w1 sr (.slice sa' sn' sc') (.iface rT' rx')):=zy (hB.o.mono (by
   rintro e w1 ⟨sv,rv,sv',a5,ev,he,I,hm⟩
   rcases hm with⟨_,_,rfl,hx,l⟩|⟨hn,_⟩
   .obtain⟨sa,sn,sc,rT,rx,rfl,rfl⟩:=hx.forms
    obtain⟨sa',sn',sc',rT',rx',rfl,rfl⟩:=l.forms
    exact⟨_,_,_,_,_,_,_,_,_,_,he,I,hx,l⟩
   .exact absurd ⟨h0,h1⟩ hn))
  clear hB;by_cases hd:4000<bs.size
  .have g:=zy (show yH sw sr bs=(noB,0,1) by unfold yH;rw[i_ h0,i_ h1,i_ hd]);have e1:=zy (λ(W:World) (sa sn sc rT rx) (H:Fr w W N_)=>aD (w:=W) (sa:=sa) (sn:=sn) (sc:=sc) (rT:=rT) (rx:=rx) (s:=bs) ((S.fr H).var 7 D_) hd);replace S:=zy S;replace hd:=zy hd;clear O R a7 N h0 h1 hp U;go_in;go_wp2_with (first
    |(go_at_call 16;apply X.o.mono;rintro e w1 ⟨sa,sn,sc,rT,rx,sa',sn',sc',rT',rx',rfl,b,-,-⟩;replace b:=zy b)
    |(go_at_call 17;apply(e1.o _ _ _ _ _ _ ((b.o.alloc _).alloc _)).mono;rintro e J ⟨rfl,a⟩;replace a:=zy (((b.o.alloc _).alloc _).trans a u_)))
   refine bodyPost_ret (v:=.tuple #[.string noB,O_,.iface 364 (.pointer (some (A 7)))]) xy_ rfl ?_;rw[K.o];unfold qQ;rw[g.o];exact⟨_,rfl,a,λW H=>py ((S.o.fr a).fr H) .leaf,.no g D_⟩
  .have d8:bs.size<=4000:=M_;have a9:=zy (λw1 sv rv (Z:wH w.heap.size w1 sw sv rv) (I:Fr w w1 N_)=>Jy S O R hp Z I d8);have b8:=zy (λw1 sv rv sv' a5 (Z:wH w.heap.size w1 sw sv rv) (b6:wH w.heap.size w1 sr sv' a5) (I:Fr w w1 N_)=>Jx S O R hp U Z b6 I);have g:yH sw sr bs=match rdB bs (zx ds) 301 t 0 0 with
    | .error e0=>(noB,0,(e0:Int))
    | .ok (d,j,_)=>match mkP (zx ds) (zx ds') (yN (zx ds') sr) 300 t t' d with
     |none=>(noB,0,8)
     |some x=>if ndT x > 300 then (noB,0,7) else (txT (zx ds') x t',j,0):=by
    unfold yH;rw[i_ h0,i_ h1,n_ hd,hp,U]<;>rfl
   have u:=zy (λd j m x (i:rdB bs (zx ds) 301 t 0 0=.ok (d,j,m)) (hk:mkP (zx ds) (zx ds') (yN (zx ds') sr) 300 t t' d=some x) (h:okD x)=>show uj sw sr bs from λ_=>⟨ds,t,ds',t',d,j,m,x,hp,U,i,hk,h⟩);have b4:=(Yt h1 U).2;obtain⟨g1,g2,g3,g4,g5⟩:=nK h0 hp;have b7:=Jg g5 bs 301 t g4 0 0;replace S:=zy S;clear O R a7 h0 h1 hp U hd;cases i:rdB bs (zx ds) 301 t 0 0 with
   |error e0=>
    rw[i]at g;have he:=zy (Yz bs (zx ds) 301 t 0 0 e0 i);replace g:=zy g;replace i:=zy i;clear N b8 b4 b7 g1 g2 g3 g4 g5 u;go_in;go_wp2_with (first
     |(go_at_call 16;apply X.o.mono;rintro e w1 ⟨sa,sn,sc,rT,rx,sa',sn',sc',rT',rx',rfl,b,hx,l⟩;have r:=zy (a9.o _ _ _ hx b);replace b:=zy b;clear hx l)
     |(go_at_call 17;apply(r.o _ (((A_ w1 _).alloc _).alloc _)).mono;rintro e J ⟨v2,k2,b5,rfl,a,hm⟩;rw[i.o]at hm;obtain⟨rfl,rfl,hm⟩:=hm;obtain⟨T2,x2,rfl⟩:=hm.iface;replace hm:=zy hm;replace a:=zy (((b.o.alloc _).alloc _).trans a u_)))
    refine bodyPost_ret (v:=.tuple #[.string noB,O_,.iface T2 x2]) xy_ rfl ?_;rw[K.o];unfold qQ;rw[g.o];exact⟨_,rfl,a,aS (S.o.fr a) he hm,.no g (by have:=he.o;omega)⟩
   |ok q=>
    obtain⟨d,j,mm⟩:=q;rw[i]at g;simp only at g;have e2:=(iN bs (zx ds) 301 t 0 0 d j mm i).2;have d9:=qj bs (zx ds) 301 t 0 0 d j mm o_ M_ i;have b9:ndT d<=300:=M_;obtain⟨a1,a2,a3⟩:=b7 d j mm M_ i;replace u:=zy (λx=>u.o d j mm x i);replace i:=zy i;clear b7 e2 d9 a2 a3 g1 g2 g3 g4 g5;have a0:=zy (λw1 sv rv sv' a5 Z b6 I V v L hV hv=>b8.o w1 sv rv sv' a5 Z b6 I V d v L hV a1 b9 hv);clear b8;cases hk:mkP (zx ds) (zx ds') (yN (zx ds') sr) 300 t t' d with
    |none=>
     rw[hk]at g a0;replace g:=zy g;clear N b4 hk a1 b9 u;go_in;go_wp2_with (first
      |(go_at_call 16;apply X.o.mono;rintro e w1 ⟨sa,sn,sc,rT,rx,sa',sn',sc',rT',rx',rfl,b,hx,l⟩;have r:=zy (a9.o _ _ _ hx b);have E:=zy (a0.o _ _ _ _ _ hx l b);have b0:=zy (((B_ w1 #[.slice sa sn sc,.iface rT rx] 65).alloc (.cells #[.slice sa' sn' sc',.iface rT' rx'] 65)));have b1:=zy (show Blk ((w1.alloc (.cells #[.slice sa sn sc,.iface rT rx] 65)).alloc (.cells #[.slice sa' sn' sc',.iface rT' rx'] 65)) (w1.heap.size+1) [.slice sa' sn' sc',.iface rT' rx'] 65 from xg_);replace b:=zy b;clear hx l)
      |(go_at_call 17;apply(r.o _ (((A_ w1 _).alloc _).alloc _)).mono;rintro e J ⟨v2,k2,b5,rfl,a,hm⟩;rw[i.o]at hm;obtain⟨rfl,rfl,hm⟩:=hm;have Y:=zy (E.o J _ _ ((((A_ w1 _).alloc _).alloc _).trans a u_) hm);obtain⟨T2,x2,rfl⟩:=hm.iface;have c0:=(a.bl b0 id).c0;have c1:=(a.bl b0 id).c1;have c2:=(a.bl b1 id).c0;have c3:=(a.bl b1 id).c1;replace a:=zy (((b.o.alloc _).alloc _).trans a u_);clear hm r E b0 b1)
      |(go_at_call 18;apply Y.o.mono;rintro e w3 ⟨v3,d0,rfl,z,a4,a6⟩;subst a4;obtain⟨T3,x3,rfl⟩:=a6.iface;replace a6:=zy a6;replace z:=zy (a.o.trans z u_)))
     refine bodyPost_ret (v:=.tuple #[.string noB,O_,.iface T3 x3]) xy_ rfl ?_;rw[K.o];unfold qQ;rw[g.o];exact⟨_,rfl,z,db (S.o.fr z) a6,.no g D_⟩
    |some x=>
     rw[hk]at g a0;simp only at g;have e4:=tj b4 300 t t' d x hk;replace u:=zy (u.o x hk);have d2:ndT x<=1000000000:=M_;have d1:=zy (λ(W:World) (H:Fr w W N_)=>show vt 5 W _ _ from(S.o.fr H).var 5 D_);clear b4 hk a1 b9 e4;by_cases F:ndT x > 300
     .rw[i_ F]at g;replace g:=zy g;replace F:=zy F;clear N u;go_in;go_wp2_with (first
       |(go_at_call 16;apply X.o.mono;rintro e w1 ⟨sa,sn,sc,rT,rx,sa',sn',sc',rT',rx',rfl,b,hx,l⟩;have r:=zy (a9.o _ _ _ hx b);have E:=zy (a0.o _ _ _ _ _ hx l b);have b0:=zy (((B_ w1 #[.slice sa sn sc,.iface rT rx] 65).alloc (.cells #[.slice sa' sn' sc',.iface rT' rx'] 65)));have b1:=zy (show Blk ((w1.alloc (.cells #[.slice sa sn sc,.iface rT rx] 65)).alloc (.cells #[.slice sa' sn' sc',.iface rT' rx'] 65)) (w1.heap.size+1) [.slice sa' sn' sc',.iface rT' rx'] 65 from xg_);replace b:=zy b;clear hx l)
       |(go_at_call 17;apply(r.o _ (((A_ w1 _).alloc _).alloc _)).mono;rintro e J ⟨v2,k2,b5,rfl,a,hm⟩;rw[i.o]at hm;obtain⟨rfl,rfl,hm⟩:=hm;have Y:=zy (E.o J _ _ ((((A_ w1 _).alloc _).alloc _).trans a u_) hm);obtain⟨T2,x2,rfl⟩:=hm.iface;have c0:=(a.bl b0 id).c0;have c1:=(a.bl b0 id).c1;have c2:=(a.bl b1 id).c0;have c3:=(a.bl b1 id).c1;replace a:=zy (((b.o.alloc _).alloc _).trans a u_);clear hm r E b0 b1)
       |(go_at_call 18;apply Y.o.mono;rintro e w3 ⟨v3,d0,rfl,z,a4,B⟩;subst a4;have G:=zy (a.o.trans z u_);have C:=gM B.dat d2 (d1.o _ G);rw[i_ F.o]at C;replace C:=zy C;obtain⟨T3,x3,rfl⟩:=B.iface;clear z B)
       |(go_at_call 19;apply C.o.mono;rintro e w4 ⟨rfl,D⟩;replace D:=zy (G.o.trans D u_)))
      refine bodyPost_ret (v:=.tuple #[.string noB,O_,.iface 364 (.pointer (some (A 5)))]) xy_ rfl ?_;rw[K.o];unfold qQ;rw[g.o];exact⟨_,rfl,D,λW H=>km ((S.o.fr D).fr H) .leaf,.no g D_⟩
     .rw[n_ F]at g;have h8:8022*ndT x<=90000000:=M_;replace g:=zy g;replace F:=zy F;go_in;go_wp2_with (first
       |(go_at_call 16;apply X.o.mono;rintro e w1 ⟨sa,sn,sc,rT,rx,sa',sn',sc',rT',rx',rfl,b,hx,l⟩;have r:=zy (a9.o _ _ _ hx b);have E:=zy (a0.o _ _ _ _ _ hx l b);have b0:=zy (((B_ w1 #[.slice sa sn sc,.iface rT rx] 65).alloc (.cells #[.slice sa' sn' sc',.iface rT' rx'] 65)));have b1:=zy (show Blk ((w1.alloc (.cells #[.slice sa sn sc,.iface rT rx] 65)).alloc (.cells #[.slice sa' sn' sc',.iface rT' rx'] 65)) (w1.heap.size+1) [.slice sa' sn' sc',.iface rT' rx'] 65 from xg_);replace b:=zy b;clear hx l)
       |(go_at_call 17;apply(r.o _ (((A_ w1 _).alloc _).alloc _)).mono;rintro e J ⟨v2,k2,b5,rfl,a,hm⟩;rw[i.o]at hm;obtain⟨rfl,rfl,hm⟩:=hm;have Y:=zy (E.o J _ _ ((((A_ w1 _).alloc _).alloc _).trans a u_) hm);obtain⟨T2,x2,rfl⟩:=hm.iface;have c0:=(a.bl b0 id).c0;have c1:=(a.bl b0 id).c1;have c2:=(a.bl b1 id).c0;have c3:=(a.bl b1 id).c1;replace a:=zy (((b.o.alloc _).alloc _).trans a u_);clear hm r E b0 b1)
       |(go_at_call 18;apply Y.o.mono;rintro e w3 ⟨v3,d0,rfl,z,a4,B⟩;subst a4;have G:=zy (a.o.trans z u_);have C:=gM B.dat d2 (d1.o _ G);rw[n_ F.o]at C;replace C:=zy C;replace u:=zy (u.o B.dat.ok);have d6:=zy (λV (hV:Fr w3 V N_)=>oU (w0:=w) N (B.fr hV u_) (G.o.trans hV u_).size ((yt.refl w).fr (G.o.trans hV u_) l_ (λ_ f=>f.elim)) h8);obtain⟨T3,x3,rfl⟩:=B.iface;clear z B)
       |(go_at_call 19;apply C.o.mono;rintro e w4 ⟨rfl,D⟩;have d7:=zy (d6.o w4 D);replace D:=zy (G.o.trans D u_))
       |(go_at_call 20;apply d7.o.mono;rintro e w5 ⟨rfl,a8⟩;replace a8:=zy (D.o.trans a8 u_)))
      refine bodyPost_ret (v:=.tuple #[.string (txT (zx ds') x t'),I_ k2,.nilIface]) (by simp[results,results9,go_sem]) rfl ?_;rw[K.o];unfold qQ;rw[g.o];exact⟨_,rfl,a8,Xa (S.o.fr a8),u⟩
 .have g:=zy (show yH sw sr bs=(noB,0,if (zl sw).1=0 then (zl sr).1 else (zl sw).1) by
   unfold yH
   by_cases h0:(zl sw).1=0
   .rw[i_ h0,n_ (λh1=>M ⟨h0,h1⟩),i_ h0]
   .rw[n_ h0,n_ h0])
  have e3:H_ ((if (zl sw).1=0 then (zl sr).1 else (zl sw).1)≠0):=zy (by
   split
   .rename_i h0;exact λh1=>M ⟨h0,h1⟩
   .assumption)
  replace M:=zy M;clear O R a7 N;go_in;go_wp2_with (go_at_call 16;apply hB.o.mono;rintro e w1 ⟨sv,rv,sv',a5,ev,rfl,b,hm⟩;(rcases hm with⟨h0,h1,_⟩|⟨_,rfl,rfl,rfl,rfl,⟨T,x,rfl⟩,hk⟩;(exact absurd ⟨h0,h1⟩ M));replace hk:=zy hk;replace b:=zy b);refine bodyPost_ret (v:=.tuple #[.string noB,O_,.iface T x]) xy_ rfl ?_;rw[K.o];unfold qQ;rw[g.o];exact⟨_,rfl,(b.o.alloc _).alloc _,hk.o.fr (((A_ _ _).alloc _).alloc _),.no g e3⟩
def sM{w:Aw}(S:xg A w)(l:yV w)(q:yJ w)(m:vD w)(i:jK w):Calls prog 4 #[.string sw,.string sr,.string bs] w λe w'=>e=.returned (.tuple #[.string (yH sw sr bs).1,Z_ ((yH sw sr bs).2.1:Int),Z_ (yH sw sr bs).2.2])/\Fr w w' N_/\uj sw sr bs:=by
 refine hq_ λr g=>?_;have a:=iD (sw:=sw) (sr:=sr) (bs:=bs) S l q m i;unfold qQ at a;generalize uj sw sr bs=OK at a g;generalize (yH sw sr bs).1=b at a g;generalize (yH sw sr bs).2.1=j at a g;generalize (yH sw sr bs).2.2=n at a g;replace a:=zy a;go_in;go_wp2_with (first
  |(go_at_call 9;apply a.o.mono;rintro e w1 ⟨a,rfl,h,a,ok⟩;replace ok:=zy ok;replace h:=zy h;have hk:=zy (a w1 (A_ _ _)))
  |(go_at_call 10;apply hk.o.mono;rintro e a ⟨rfl,rfl⟩))
 refine bodyPost_ret (v:=.tuple #[.string b,I_ j,Z_ n]) (by simp[results,results4,go_sem]) rfl ?_;rw[g.o];exact⟨rfl,h,ok⟩
def Kit.res{w:Aw}(h:Kit A w)(sw sr bs:BA):Calls prog 4 #[.string sw,.string sr,.string bs] w λe w'=>e=.returned (.tuple #[.string (yH sw sr bs).1,Z_ ((yH sw sr bs).2.1:Int),Z_ (yH sw sr bs).2.2])/\Fr w w' N_/\uj sw sr bs:=by
 obtain⟨S,b,g,hP,a⟩:=h;exact sM S b g hP a
def SC(W:Aw)(bz:Nat)(s:BA)(ts:Aq)(env:Ay):Prop:=∃P1 P2 rt,SZ W P1 P2 bz s ts env rt
def SC.fr{W':Aw}(h:SC W bz s ts env)(a:Fr W W' N_):SC W' bz s ts env:=by
 obtain⟨P1,P2,rt,Z⟩:=h;exact⟨P1,P2,rt,Z.fr a u_ u_⟩
def SC.type(h:SC W bz s ts env){t:TR}(j:ts[k]?=some t):∃g n i sa sc,W.cell? ⟨bz,0,none⟩=some (S_ g n i)/\(k:Int)<(n:Int)/\W.cell? ⟨g,k*2,none⟩=some (U_ t.kind)/\W.cell? ⟨g,k*2+1,none⟩=some (.slice sa t.subs.length sc)/\W.ownsRow 0 3 1 (.slice sa t.subs.length sc) t.subs.length (t.subs.map λ(n:Nat)=>Value.int .i64 (n:Int)):=by
 obtain⟨P1,P2,rt,Z⟩:=h;obtain⟨g,n,i,sv,a,b,c,d,e,_⟩:=Z.toZ.type j;obtain⟨sa,sc,rfl⟩:=zh e;exact⟨g,n,i,sa,sc,a,M_,c,d,e⟩
def SC.named{q:Nat}(h:SC W bz s ts env)(b:q<6):∃so fa fc sb o n,rP (env (65+q)) so sb o n/\W.cell? ⟨bz,1+q*5,none⟩=some (.int .u8 so)/\W.cell? ⟨bz,1+q*5+1,none⟩=some (.slice fa (yA env q).length fc)/\W.cell? ⟨bz,1+q*5+2,none⟩=some (.string sb)/\W.cell? ⟨bz,1+q*5+3,none⟩=some (Z_ o)/\W.cell? ⟨bz,1+q*5+4,none⟩=some (Z_ n):=by
 obtain⟨P1,P2,rt,Z⟩:=h;obtain⟨tv,zs,a,_,_,c⟩:=Z.z;obtain⟨so,fv,sb,o,n,xs,c1,c2,_,_,c5⟩:=c q b;obtain⟨fa,fc,rfl⟩:=zh c2;have key:∀p,p<5->W.cell? ⟨bz,1+q*5+p,none⟩=[Value.int .u8 so,.slice fa (yA env q).length fc,Value.string sb,Value.int .i64 o,Value.int .i64 n][p]?:=λp hp=>by
  rw[a.cell,show 1+q*5+p=(5*q+p)+1 by omega,ab_];exact c1 p hp
 exact⟨so,fa,fc,sb,o,n,c5,key 0 M_,key 1 M_,key 2 M_,key 3 M_,key 4 M_⟩
def qI(W:Aw)(bz:Nat)(env:Ay)(c:Nat)(so:Int)(fa:Ao)(fn fc:Nat)(sb:BA)(o n:Int):Prop:=
 if zZ c=true then rP (env c) so sb o n/\W.cell? ⟨bz,1+(c-65)*5+1,none⟩=some (.slice fa fn fc) else so=0
def qI.yes(h:qI W bz env c so fa fn fc sb o n)(hn:zZ c=true):rP (env c) so sb o n/\W.cell? ⟨bz,1+(c-65)*5+1,none⟩=some (.slice fa fn fc):=by
 unfold qI at h;rw[i_ hn]at h;exact h
def qI.no(h:qI W bz env c so fa fn fc sb o n)(hn:¬zZ c=true):so=0:=by
 unfold qI at h;rw[n_ hn]at h;exact h
def BV(W:Aw)(bz:Nat)(env:Ay)(c:Nat)(e:Ah)(w':Aw):Prop:=
 ∃so fa fn fc sb o n,e=.returned (.agg #[.int .u8 so,.slice fa fn fc,.string sb,Z_ o,Z_ n])/\Fr W w' N_/\qI W bz env c so fa fn fc sb o n
def kC{t:TR}(Z:SC W bz s ts env)(L:ts[k]?=some t):Calls prog 29 #[P_ bz,I_ k] W (BV W bz env t.kind):=by
 obtain⟨N,z⟩:=y_ (BV W bz env t.kind);rw[<- z.o];obtain⟨g,m,X,sa,sc,c0,X,c1,c2,_⟩:=Z.type L;have X:=zo c0;have l1:=zo c1;obtain⟨c,hc⟩:=x_ t.kind;rw[hc]at c1 z;replace hc:=zy hc;obtain⟨w1,i⟩:=e_ ((W.alloc (.cells #[.int .u8 0,L_,.string ⟨#[]⟩,O_,O_] 39)).alloc (.cells #[U_ c,.slice sa t.subs.length sc] 57));have h:Fr W w1 N_:=by rw[i];exact((A_ W _).alloc _).alloc _
 have j:Blk w1 W.heap.size [.int .u8 0,L_,.string ⟨#[]⟩,O_,O_] 39:=by rw[i];exact(B_ W _ _).alloc _
 have D:Blk w1 (W.heap.size+1) [U_ c,.slice sa t.subs.length sc] 57:=by
  rw[i];have:=B_ (W.alloc (.cells #[.int .u8 0,L_,.string ⟨#[]⟩,O_,O_] 39)) #[U_ c,.slice sa t.subs.length sc] 57;rw[show(W.alloc (.cells #[.int .u8 0,L_,.string ⟨#[]⟩,O_,O_] 39)).heap.size=W.heap.size+1 by show(W.heap.push _).size=_;simp]at this;exact this
 have S:=D.c0;obtain⟨X,X,X,q3,X⟩:=j.d5;obtain⟨X,X,X,t3,t4⟩:=j.t5;have O:H_ (∀a b c d e,Fr W (((((w1.setCell ⟨W.heap.size,0,none⟩ a).setCell ⟨W.heap.size,1,none⟩ b).setCell ⟨W.heap.size,2,none⟩ c).setCell ⟨W.heap.size,3,none⟩ d).setCell ⟨W.heap.size,4,none⟩ e) N_):=zy (λa b c d e=>h.trans (Fr.fi w1 W.heap.size a b c d e) (λx hx e=>b2_ _ (e▸hx)));have E:H_ (∀a b c d e,Blk (((((w1.setCell ⟨W.heap.size,0,none⟩ a).setCell ⟨W.heap.size,1,none⟩ b).setCell ⟨W.heap.size,2,none⟩ c).setCell ⟨W.heap.size,3,none⟩ d).setCell ⟨W.heap.size,4,none⟩ e) W.heap.size [a,b,c,d,e] 39):=zy (λa b c d e=>j.fi a b c d e);replace i:=zy i;replace L:=zy L;cases hn:zZ c with
 |false=>
  have M:(decide ((65:Int)<=(c:Int))&&decide ((c:Int)<=70))=false:=by
   have:¬(65<=c/\c<=70):=zs_
   simp only[Bool.and_eq_false_iff,decide_eq_false_iff_not];omega
  have J:H_ (∀V,Fr W V N_->N (.returned (.agg #[.int .u8 0,L_,.string ⟨#[]⟩,O_,O_])) V):=zy (λV K=>by
   rw[z.o]
   exact⟨0,none,0,0,⟨#[]⟩,0,0,rfl,K,by unfold qI;rw[n_ (by simp[hn])]⟩)
  go_in;go_upto_region 2 with fail;rw[<- i.o];go_wp2_with (go_at_call 39;apply(ya _ _ _ _).mono;rintro e U ⟨rfl,l⟩;rw[l,M]);have r:=E.o (.int .u8 0) (L_) (.string ⟨#[]⟩) (O_) (O_);obtain⟨x0,x1,x2,x3,x4⟩:=r.d5;refine bodyPost_ret (v:=.agg #[.int .u8 0,L_,.string ⟨#[]⟩,O_,O_]) yu_ rfl ?_;exact J.o _ (O.o _ _ _ _ _)
 |true=>
  have L:65<=c/\c<=70:=zs_
  have M:(decide ((65:Int)<=(c:Int))&&decide ((c:Int)<=70))=true:=by
   simp only[a0_,decide_eq_true_eq];omega
  obtain⟨q,C⟩:∃q,c=65+q:=⟨c-65,M_⟩;have L:q<6:=M_;have X:=qW q c C L;obtain⟨so,fa,fc,sb,u,r,hd,F,B,G,H,I⟩:=Z.named L;rw[<- C]at hd;have J:H_ (∀V,Fr W V N_->N (.returned (.agg #[.int .u8 so,.slice fa (yA env q).length fc,.string sb,Z_ u,Z_ r])) V):=zy (λV K=>by
   rw[z.o]
   exact⟨so,fa,_,fc,sb,u,r,rfl,K,by unfold qI;rw[i_ hn];exact⟨hd,by rw[show c-65=q by omega];exact B⟩⟩)
  replace F:=h.ke F;replace B:=h.ke B;replace G:=h.ke G;replace H:=h.ke H;replace I:=h.ke I;have z:(q:Int)<6:=M_;have T:=zy (E.o (.int .u8 so) (.slice fa (yA env q).length fc) (.string sb) (Z_ u) (Z_ r));generalize (yA env q).length=fl at *;replace C:=zy C;go_in;go_upto_region 2 with fail;rw[<- i.o];go_wp2_with (go_at_call 39;apply(ya _ _ _ _).mono;rintro e U ⟨rfl,l⟩;rw[l,M]);refine tr_ 9 (λV=>z_ V (W.heap.size+1) 0 (U_ c)/\z_ V bz (1+q*5) (.int .u8 so)/\z_ V bz (1+q*5+1) (.slice fa fl fc)/\z_ V bz (1+q*5+2) (.string sb)/\z_ V bz (1+q*5+3) (Z_ u)/\z_ V bz (1+q*5+4) (Z_ r)) ?_;refine tz_ 0 ?_;refine tz_ 1 ?_;refine tz_ 2 ?_;refine tz_ 3 ?_;refine tz_ 4 ?_;refine tz_ 5 ?_;refine tz_ 6 ?_;refine tz_ 7 ?_;refine tz_ 8 ?_;refine t1_ 9 ⟨S,F,B,G,H,I⟩ ?_;refine td_ ?_ _;obtain⟨x0,x1,x2,x3,x4⟩:=T.o.d5;go_wp2;refine bodyPost_ret (v:=.agg #[.int .u8 so,.slice fa fl fc,.string sb,Z_ u,Z_ r]) yu_ rfl ?_;exact J.o _ (O.o _ _ _ _ _).drew
def sV(h:zZ c=true):zY c=false:=by
 have hc:65<=c/\c<=70:=y3_
 cases e:zY c with
 |false=>rfl
 |true=>
  simp only[zY,av_,beq_iff_eq]at e;omega
def FX(h:okT ew t)(g:okT er t')(f:t.isAlts=false)(f':t'.isAlts=false)(a:t.kind≠t'.kind):yw ew er t t'=(t.kind==105&&t'.kind==108):=by
 cases t with
 |alts p l=>cases f
 |leaf c p=>
  cases t' with
  |alts p l=>cases f'
  |leaf c' p'=>
   have a:c≠c':=a;have b:(c'==c)=false:=by simpa using Ne.symm a
   have i:(c==c')=false:=by simpa using a
   show(if zY c=true then (c'==c||(c==105&&c'==108)) else c==c'&&_)=(c==105&&c'==108);rw[b,i,Bool.false_or,Bool.false_and];by_cases hb:zY c=true
   .rw[i_ hb]
   .rw[n_ hb];have:(c==105)=false:=by
     cases e:c==105 with
     |false=>rfl
     |true=>simp only[beq_iff_eq]at e;subst e;exact absurd rfl hb
    rw[this,Bool.false_and]
  |wrap c' p' u'=>
   unfold okT at g;have b:(c'==108)=false:=by have:=g.1;simp;omega
   show false=(c==105&&c'==108);rw[b,Bool.and_false]
 |wrap c p u=>
  unfold okT at h;have b:(c==105)=false:=by have:=h.1;simp;omega
  have hk:((PT.wrap c p u).kind==105&&t'.kind==108)=false:=by show(c==105&&_)=false;rw[b,Bool.false_and]
  rw[hk];cases t' with
  |alts p l=>cases f'
  |leaf c' p'=>rfl
  |wrap c' p' u'=>
   have a:c≠c':=a;show(c==c')=false;simpa using a
def JD(h:okT ew t)(g:okT er t')(f:t.isAlts=false)(f':t'.isAlts=false)(he:t.kind=t'.kind){W':Aw}{m:Nat}{j C i:Int}{q:Ao}{z r:Nat}{D:BA}(A:qI W bz ew t.kind so fa fn fc sb o n)(B:qI W' m er t'.kind j q z r D C i):yw ew er t t'=(decide (so=j)&&(decide (so≠102)||decide (n=i))):=by
 rw[<- he]at B;cases t with
 |alts p l=>cases f
 |leaf c p=>
  cases t' with
  |alts p l=>cases f'
  |wrap c' p' u'=>
   obtain rfl:c=c':=he;unfold okT at h g;exfalso;rcases h with h|⟨h,_⟩
   .simp only[zY,av_,beq_iff_eq]at h;omega
   .simp only[zZ,a0_,decide_eq_true_eq]at h;omega
  |leaf c' p'=>
   obtain rfl:c=c':=he;unfold okT at h g;show(if zY c=true then (c==c||(c==105&&c==108)) else c==c&&(match ew c,er c with|some a,some b=>decide (xG a=xG b)|_,_=>false))=_;rw[beq_self_eq_true];rcases h with h|⟨h,X,hX⟩
   .have hn:¬zZ c=true:=λe=>by rw[sV e]at h;cases h
    rw[i_ h,qI.no (c:=c) A hn,qI.no (c:=c) B hn];rfl
   .replace A:=qI.yes (c:=c) A h;replace B:=qI.yes (c:=c) B h;rw[n_ (by simp[sV h]:¬zY c=true)];obtain⟨Y,i⟩:∃Y,er c=some Y:=by
     rcases g with g|⟨_,Y,i⟩
     .rw[sV h]at g;cases g
     .exact⟨Y,i⟩
    rw[hX]at A⊢;rw[i]at B⊢;have a:=A.1;have b:=B.1;unfold rP at a b;cases X<;>cases Y<;>simp only[xG]at a b⊢<;>(try obtain⟨rfl,rfl⟩:=a)<;>(try obtain⟨rfl,rfl⟩:=b)<;>(try obtain⟨rfl,_⟩:=a)<;>(try obtain⟨rfl,_⟩:=b)<;>(try subst a)<;>(try subst b)<;>simp<;>omega
 |wrap c p u=>
  cases t' with
  |alts p l=>cases f'
  |leaf c' p'=>
   obtain rfl:c=c':=he;unfold okT at h g;exfalso;rcases g with g|⟨g,_⟩
   .simp only[zY,av_,beq_iff_eq]at g;omega
   .simp only[zZ,a0_,decide_eq_true_eq]at g;omega
  |wrap c' p' u'=>
   obtain rfl:c=c':=he;unfold okT at h;have hn:¬zZ c=true:=by rcases h.1 with e|e<;>subst e<;>decide
   rw[qI.no (c:=c) A hn,qI.no (c:=c) B hn];show(c==c)=_;simp
def xD(h:isT ts k t):∃a,ts[k]?=some a/\a.kind=t.kind:=by
 cases t with
 |leaf c p=>unfold isT at h;exact⟨_,h,rfl⟩
 |wrap c p t=>unfold isT at h;obtain⟨j,h,_⟩:=h;exact⟨_,h,rfl⟩
 |alts p l=>unfold isT at h;obtain⟨j,h,_⟩:=h;exact⟨_,h,rfl⟩
def jP{ba bb w r:Nat}{ta tb:Aq}(L:SC W ba s ta ew)(M:SC W bb s' tb er)(hx:isT ta w t)(hy:isT tb r t')(h:okT ew t)(I:okT er t')(f:t.isAlts=false)(f':t'.isAlts=false):Calls prog 28 #[P_ ba,I_ w,P_ bb,I_ r] W λe w'=>e=.returned (.bool (yw ew er t t'))/\Fr W w' N_:=by
 obtain⟨a0,B⟩:=y_ (λ(e:Ending) (w':World)=>e=.returned (.bool (yw ew er t t'))/\Fr W w' N_);rw[<- B.o];obtain⟨x,hx,S⟩:=xD hx;obtain⟨y,hy,T⟩:=xD hy;obtain⟨g,m,a4,sa,sc,c0,hw,c1,-,-⟩:=L.type hx;obtain⟨g',m',a5,a6,a7,d0,hr,d1,-,-⟩:=M.type hy;have U:=zy (kC L hx);have X:=zy (λV (Y:Fr W V N_)=>kC (M.fr Y) hy);rw[S]at c1 U;rw[T]at d1 X;by_cases z:t.kind=t'.kind
 .have a1:H_ (∀V M {so j o o' n L:Int} {fa C:Option Addr} {fn fc E D:Nat} {sb H:BA},Fr W V N_->qI W ba ew t.kind so fa fn fc sb o n->qI M bb er t'.kind j C E D H o' L->a0 (.returned (.bool (decide (so=j)&&(decide (so≠102)||decide (n=L))))) V):=zy (λV M so j o o' n L fa C fn fc E D sb H Y a b=>by rw[B.o,JD h I f f' z a b];exact⟨rfl,Y⟩);generalize t.kind=c at *;generalize t'.kind=c' at *;have e1:((c:Int)==(c':Int))=true:=x4_
  replace z:=zy z;go_in;go_upto_region 6 with(go_at_call 29;apply U.o.mono;rintro e K ⟨so,fa,fn,fc,sb,Z,l,rfl,f2,J⟩;obtain⟨w3,G⟩:=e_ (K.alloc (.cells #[.int .u8 so,.slice fa fn fc,.string sb,Z_ Z,Z_ l] 39));have f3:Fr W w3 N_:=(by rw[G];exact f2.alloc _);have b3:Blk w3 K.heap.size [.int .u8 so,.slice fa fn fc,.string sb,Z_ Z,Z_ l] 39:=(by rw[G];exact B_ K _ _);replace G:=zy G;replace J:=zy J);go_upto_region 7 with(go_at_call 29;rw[<- G.o];apply(X.o _ f3).mono;rintro e w4 ⟨j,C,E,D,H,a3,q,rfl,f4,a2⟩;obtain⟨w5,u⟩:=e_ (w4.alloc (.cells #[.int .u8 j,.slice C E D,.string H,Z_ a3,Z_ q] 39));have f5:Fr W w5 N_:=(by rw[u];exact(f3.trans f4 u_).alloc _);have G:Blk w5 w4.heap.size [.int .u8 j,.slice C E D,.string H,Z_ a3,Z_ q] 39:=(by rw[u];exact B_ w4 _ _);have C:Blk w5 K.heap.size [.int .u8 so,.slice fa fn fc,.string sb,Z_ Z,Z_ l] 39:=(by rw[u];exact(f4.bl b3 id).alloc _);replace u:=zy u;have k0:=C.c0;have D:=C.c4;have D:=G.c0;have D:=G.c4;have F:=zy (a1.o _ _ f5 J a2));rw[<- u.o];by_cases h1:so=j
  .have N:(so==j)=true:=by simp[h1]
   by_cases i:so=102
   .have O:(so==102)=true:=by simp[i]
    by_cases u:l=q
    .have C:(l==q)=true:=by simp[u]
     rw[show(decide (so=j)&&(decide (so≠102)||decide (l=q)))=true by simp[h1,u]]at F;revert h1 i u;refine h_ λh1 i u=>?_;go_wp2;try go_ret
     exact F
    .have C:(l==q)=false:=by simp[u]
     rw[show(decide (so=j)&&(decide (so≠102)||decide (l=q)))=false by simp[i,u]]at F;revert h1 i u;refine h_ λh1 i u=>?_;go_wp2;try go_ret
     exact F
   .have O:(so==102)=false:=by simp[i]
    rw[show(decide (so=j)&&(decide (so≠102)||decide (l=q)))=true by simp[h1];omega]at F;replace h1:=zy h1;replace i:=zy i;go_wp2;try go_ret
    exact F
  .have N:(so==j)=false:=by simp[h1]
   rw[show(decide (so=j)&&(decide (so≠102)||decide (l=q)))=false by simp[h1]]at F;replace h1:=zy h1;go_wp2;try go_ret
   exact F
 .have e1:((t.kind:Int)==(t'.kind:Int))=false:=x4_
  have j:H_ (∀b,b=(t.kind==105&&t'.kind==108)->a0 (.returned (.bool b)) W):=zy (λb e=>by rw[B.o,FX h I f f' z,e];exact⟨rfl,A_ _ _⟩);replace z:=zy z;generalize t.kind=c at *;generalize t'.kind=c' at *;by_cases h1:c=105
  .have N:((c:Int)==105)=true:=x4_
   by_cases i:c'=108
   .have O:((c':Int)==108)=true:=x4_
    have f:=zy (j.o true (by simp[h1,i]));replace h1:=zy h1;replace i:=zy i;go_in;go_wp2;try go_ret
    exact f
   .have O:((c':Int)==108)=false:=x4_
    have f:=zy (j.o false (by simp[i]));replace h1:=zy h1;replace i:=zy i;go_in;go_wp2;try go_ret
    exact f
  .have N:((c:Int)==105)=false:=x4_
   have f:=zy (j.o false (by simp[h1]));replace h1:=zy h1;go_in;go_wp2;try go_ret
   exact f
def wI:Option Nat->Int
 |none=>-1
 |some k=>(k:Int)
def td{r:PT}(h:yw ew er t r=true):t.kind=r.kind\/(t.kind=105/\r.kind=108):=by
 cases t with
 |alts p l=>simp[yw]at h
 |leaf c p=>
  cases r with
  |alts p l=>simp[yw]at h
  |wrap c' p' u=>simp[yw]at h
  |leaf c' p'=>
   show c=c'\/(c=105/\c'=108);simp only[yw]at h;by_cases hb:zY c=true
   .rw[i_ hb]at h;simp only[av_,beq_iff_eq,a0_]at h;omega
   .rw[n_ hb]at h;simp only[a0_,beq_iff_eq]at h;exact .inl h.1
 |wrap c p u=>
  cases r with
  |alts p l=>simp[yw]at h
  |leaf c' p'=>simp[yw]at h
  |wrap c' p' u'=>
   simp only[yw]at h;exact .inl (by simpa[PT.kind] using h)
def kq(ew er:Ay)(w:PT):List PT->Nat->Option Nat->Option Nat
 | [],_,k=>k
 |r::rs,i,k=>kq ew er w rs (i+1) (if (yw ew er w r&&(k.isNone||r.kind==w.kind))=true then some i else k)
def nN:∀(rs:List PT) (i:Nat) (k:Option Nat) (a:Nat),(rs.map PT.kind).Nodup->(k≠none->a∉rs.map PT.kind/\(a=t.kind\/(t.kind=105/\a=108)))->kq ew er t rs i k=xp ew er t rs i k
 | [],i,k,a,hd,hk=>rfl
 |r::rs,i,k,a,hd,hk=>by
  rw[aw_,List.nodup_cons]at hd;unfold kq xp;have hb:(yw ew er t r&&(k.isNone||r.kind==t.kind))=(yw ew er t r&&(k.isNone||r.kind==105)):=by
   cases hm:yw ew er t r with
   |false=>rfl
   |true=>
    simp only[Bool.true_and];cases k with
    |none=>rfl
    |some k0=>
     obtain⟨b,g⟩:=hk x8_;simp only[aw_,aq_,not_or]at b;simp only[Option.isNone_some,Bool.false_or];have:=td hm;by_cases e:r.kind=105
     .rw[e];have:t.kind=105:=M_;rw[this]
     .have j:r.kind≠t.kind:=λe'=>by
       rcases g with g|g
       .exact b.1 M_
       .omega
      have h:(r.kind==t.kind)=false:=by simpa using j
      have j:(r.kind==105)=false:=by simpa using e
      rw[h,j]
  rw[hb];by_cases hc:(yw ew er t r&&(k.isNone||r.kind==105))=true
  .rw[i_ hc];refine nN rs (i+1) (some i) r.kind hd.2 (λ_=>⟨hd.1,?_⟩);have:=td (Bool.and_eq_true_iff.1 hc).1;omega
  .rw[n_ hc];refine nN rs (i+1) k a hd.2 (λa=>?_);obtain⟨b,g⟩:=hk a;simp only[aw_,aq_,not_or]at b;exact⟨b.2,g⟩
def cwoz1_{p:Prop}(h:p:=by
 (first|(have _:=cc1;have e1:((c':Int)==(c:Int))=true:=x4_)|(have _:=cc2;have e1:((c':Int)==(c:Int))=false:=x4_)|(have _:=cc3;rw[hm]at hnx hC)|(have nx:H_ (kq ew er t (rs.drop (i+1)) (i+1) (some i)=tot):=hnx));(first|(have _:=cc1;have nx:H_ (kq ew er t (rs.drop (i+1)) (i+1) (some i)=tot):=zy (by have:=hnx.o;simpa[hcc] using this))|(have _:=cc2;have nx:H_ (kq ew er t (rs.drop (i+1)) (i+1) (some k0)=tot):=zy (by have:=hnx.o;simpa[hcc] using this))|(have _:=cc3;have nx:H_ (kq ew er t (rs.drop (i+1)) (i+1) k=tot):=hnx)|(have ek:wI none = -1:=rfl));(first|(have _:=cc3;replace hm:=zy hm)|(clear hnx));(first|(have _:=cc1;replace hcc:=zy hcc)|(have _:=cc2;replace hcc:=zy hcc)|(have _:=cc3;clear hnx)|(skip));go_wp2_with (go_at_call 28;apply hC.o.mono;rintro e w2 ⟨rfl,f2⟩;obtain⟨q1,q2,q3,q4,q5,q6⟩:=item2.o w2 f2;clear f2);go_quiet (fail);go_wp2;go_roundg (rs.length+1-(i+1));case measure=>omega
 case rel=>(first|(have _:=cc2;exact⟨i+1,some k0,rfl,by simp,zy (q6.o.si (zw.drewN _ _)),hlt,l_,nx⟩)|(have _:=cc3;exact⟨i+1,k,rfl,by simp,zy (q6.o.si (zw.drewN _ _)),hlt,l_,nx⟩)|(exact⟨i+1,some i,rfl,by simp,zy (q6.o.si (zw.drewN _ _)),hlt,l_,nx⟩))):p:=h
def oz{ba bb w r:Nat}{ta tb:Aq}{rs:Af}(E:SC W ba s ta ew)(l:SC W bb s' tb er)(hx:isT ta w t)(hy:isT tb r (.alts p rs))(h:okT ew t)(N:eG er rs)(f:t.isAlts=false)(hd:(rs.map PT.kind).Nodup)(Z:rs.length<=300):Calls prog 27 #[P_ ba,I_ w,P_ bb,I_ r] W λe w'=>e=.returned (Z_ (wI (xp ew er t rs 0 none)))/\Fr W w' N_:=by
 obtain⟨X,D⟩:=y_ (λ(e:Ending) (w':World)=>e=.returned (Z_ (wI (xp ew er t rs 0 none)))/\Fr W w' N_);rw[<- D.o];unfold isT at hy;obtain⟨Z,hy,g⟩:=hy;have jl:=bQ g;replace g:=wB g;obtain⟨x,S,Z⟩:=xD hx;obtain⟨m,T,I,sa,sc,c0,hw,c1,_⟩:=E.type S;obtain⟨g',H,J,a3,a4,K,hr,Y,F,C⟩:=l.type hy;rw[Z]at c1;simp only at C F;rw[jl]at C F;have item:H_ (∀V (i:Nat) (u:PT),Fr W V N_->rs[i]?=some u->∃(j b:Nat),a3=some ⟨b,0,none⟩/\V.cell? ⟨b,i,none⟩=some (I_ j)/\V.cell? ⟨bb,0,none⟩=some (S_ g' H J)/\V.cell? ⟨g',j*2,none⟩=some (U_ u.kind)/\V.cell? ⟨ba,0,none⟩=some (S_ m T I)/\V.cell? ⟨m,w*2,none⟩=some (U_ t.kind)/\(j:Int)<(H:Int)/\Calls prog 28 #[P_ ba,I_ w,P_ bb,I_ j] V λe w'=>e=.returned (.bool (yw ew er t u))/\Fr V w' N_):=zy (λV i u a B=>by
  have Z:=(am_.1 B).1
  obtain⟨j,a1,O⟩:=g i u B
  obtain⟨z,hz,ez⟩:=xD O
  have U:=zk C a u_
  obtain⟨b,Z,e⟩:=zu U M_
  cases e
  obtain⟨Z,Z,Z,Z,Z,L,a0,e1,_⟩:=(l.fr a).type hz
  have G:=a.ke K
  rw[L]at G
  simp only[ae_,Value.slice.injEq,Addr.mk.injEq,and_true,true_and]at G
  obtain⟨rfl,rfl,rfl⟩:=G
  obtain⟨o2,o3⟩:=xC N u (al_ B)
  exact⟨j,b,rfl,ze U rfl (by rw[a1_,a1];rfl),L,by rw[<- ez];exact e1,a.ke c0,a.ke c1,a0,jP (E.fr a) (l.fr a) hx O h o3 f o2⟩)
 have M:H_ (∀V k,Fr W V N_->kq ew er t [] rs.length k=kq ew er t rs 0 none->X (.returned (Z_ (wI k))) V):=zy (λV k a e=>by
  have e':k=kq ew er t rs 0 none:=e
  rw[D.o,<- nN rs 0 none 0 hd (λh=>absurd rfl h),<- e']
  exact⟨rfl,a⟩)
 replace hx:=zy hx;replace hy:=zy hy;generalize q:kq ew er t rs 0 none=tot at *;replace q:=zy q;go_in;go_wp2;go_loopg [10,11] (rs.length+1) (λg v u V=>∃(i:Nat) (k:Option Nat),v=Z_ (wI k)/\u=I_ i/\H_ (Fr W V N_)/\i<=rs.length/\rs.length+1-i<=g/\H_ (kq ew er t (rs.drop i) i k=tot));case atStart=>exact⟨0,none,rfl,rfl,zy (A_ _ _),aj_ _,M_,q⟩
 case round=>
  obtain⟨i,k,rfl,rfl,a,B,g,hs⟩:=hrel;by_cases hlt:i<rs.length
  .have a2:(i:Int)<(rs.length:Int):=M_;obtain⟨u,hu⟩:∃u,rs[i]?=some u:=⟨_,ak_ hlt⟩;obtain⟨j,b,rfl,g,l,q,B,C,D,hC⟩:=item.o wr i u a hu;have item2:H_ (∀V,Fr wr V N_->V.cell? ⟨b,i,none⟩=some (I_ j)/\V.cell? ⟨bb,0,none⟩=some (S_ g' H J)/\V.cell? ⟨g',j*2,none⟩=some (U_ u.kind)/\V.cell? ⟨ba,0,none⟩=some (S_ m T I)/\V.cell? ⟨m,w*2,none⟩=some (U_ t.kind)/\H_ (Fr W V N_)):=zy (λV b=>⟨b.ke g,b.ke l,b.ke q,b.ke B,b.ke C,zy (a.o.trans b u_)⟩);have hnx:H_ (kq ew er t (rs.drop (i+1)) (i+1) (if (yw ew er t u&&(k.isNone||u.kind==t.kind))=true then some i else k)=tot):=zy (by
    have:=ak_ hlt
    rw[hu]at this
    cases this
    rw[<- hs.o,bc_ hlt]
    conv=>rhs;unfold kq)
   replace hC:=zy hC;generalize u.kind=c' at *;generalize b:t.kind=c at *;replace b:=zy b;cases hm:yw ew er t u
   .have cc3:=Nat;exact cwoz1_
   .rw[hm]at hnx hC;replace hm:=zy hm;cases k with
    |none=>
     exact cwoz1_
    |some k0=>
     have ek:wI (some k0)=(k0:Int):=rfl;have b:¬((k0:Int)<0):=M_;by_cases hcc:c'=c
     .have cc1:=Nat;exact cwoz1_
     .have cc2:=Nat;exact cwoz1_
  .have a2:¬((i:Int)<(rs.length:Int)):=M_;obtain rfl:i=rs.length:=M_;have f:=zy (M.o wr k a (by rw[ci_ l_]at hs;exact hs));go_wp2;try go_ret
   exact f
def Qx{i:Nat}{x:PF}(h:∀(j:Nat) y,j<i->fs[j]?=some y->y.letter≠c)(a:fs[i]?=some x)(hx:x.letter=c):kA fs c=some i:=by
 unfold kA;have hl:=(am_.1 a).1;rw[List.findIdx?_eq_some_iff_getElem];refine⟨by simpa using hl,?_,λj b=>?_⟩
 .rw[List.getElem_map];have:=ak_ hl;rw[a]at this;cases this;simp[hx]
 .rw[List.getElem_map];have:=h j _ b (ak_ M_);simpa using this
def Qv(h:∀(j:Nat) y,fs[j]?=some y->y.letter≠c):kA fs c=none:=by
 unfold kA;rw[List.findIdx?_eq_none_iff];intro x hx;obtain⟨y,hy,rfl⟩:=bl_.1 hx;obtain⟨j,a⟩:=cf_ hy;simpa using h j y a
def aO(h:∀(i:Nat) (x:PF),fs[i]?=some x->∃g,fa=some ⟨g,0,none⟩/\W.cell? ⟨g,i*10,none⟩=some (U_ x.letter))(B:fs.length<=300):Calls prog 52 #[.slice fa fs.length fc,U_ c] W λe w'=>e=.returned (Z_ (wI (kA fs c)))/\w'=W:=by
 obtain⟨l,a⟩:=y_ (λ(e:Ending) (w':World)=>e=.returned (Z_ (wI (kA fs c)))/\w'=W);rw[<- a.o];replace h:=zy h;have m:H_ (∀i x,(∀(j:Nat) y,j<i->fs[j]?=some y->y.letter≠c)->fs[i]?=some x->x.letter=c->l (.returned (Z_ ((i:Nat):Int))) W):=zy (λi x B C D=>by
  rw[a.o,Qx B C D]
  exact⟨rfl,rfl⟩)
 have E:H_ ((∀(j:Nat) y,fs[j]?=some y->y.letter≠c)->l (.returned (Z_ (-1))) W):=zy (λk=>by
  rw[a.o,Qv k]
  exact⟨rfl,rfl⟩)
 go_in;go_wp2;go_loopg [5] (fs.length+1) (λa v V=>∃i:Nat,v=I_ i/\V=W/\i<=fs.length/\fs.length+1-i<=a/\H_ (∀(j:Nat) y,j<i->fs[j]?=some y->y.letter≠c));case atStart=>exact⟨0,rfl,rfl,aj_ _,M_,zy (λj y q=>absurd q (Nat.not_lt_zero j))⟩
 case round=>
  obtain⟨i,rfl,rfl,a,a,hn⟩:=hrel;by_cases r:i<fs.length
  .have z:(i:Int)<(fs.length:Int):=M_;obtain⟨x,hx⟩:∃x,fs[i]?=some x:=⟨_,ak_ r⟩;obtain⟨g,rfl,k0⟩:=h.o i x hx;by_cases hc:x.letter=c
   .have u:((x.letter:Int)==(c:Int))=true:=x4_
    have b:=zy (m.o i x hn hx hc);replace hc:=zy hc;generalize x.letter=xc at *;go_wp2;try go_ret
    exact b
   .have u:((x.letter:Int)==(c:Int))=false:=x4_
    have nx:H_ (∀(j:Nat) y,j<i+1->fs[j]?=some y->y.letter≠c):=zy (λj y q hy=>by
     by_cases e:j=i
     .subst e
      rw[hx]at hy
      cases hy
      exact hc
     .exact hn.o j y M_ hy)
    replace hc:=zy hc;generalize x.letter=xc at *;go_wp2;go_roundg (fs.length+1-(i+1));case measure=>omega
    case rel=>exact⟨i+1,by simp,rfl,r,l_,nx⟩
  .have z:¬((i:Int)<(fs.length:Int)):=M_;have b:=zy (E.o (λj y hy=>hn.o j y (by have:=(am_.1 hy).1;omega) hy));go_wp2;try go_ret
   exact b
end Go.Proofs.YtahhhgbojlkjnaaGreatDoor
