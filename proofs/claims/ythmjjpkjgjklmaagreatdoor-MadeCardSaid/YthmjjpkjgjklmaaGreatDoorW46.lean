import Derived.Test.YthmjjpkjgjklmaaGreatDoorW45
import Derived.Test.YthmjjpkjgjklmaaGreatDoorW30
import Derived.Test.YthmjjpkjgjklmaaGreatDoorA00
set_option maxHeartbeats 16000000
set_option maxRecDepth 100000
set_option linter.unusedSimpArgs false
open Go.Proofs.Tryz
namespace Go.Proofs.YthmjjpkjgjklmaaGreatDoor
open Go.RowKit
variable {y x:PT}{d:DT}{ew er:Nat->Option PB}{df:PF->Option DT}{f p k0:Nat}{v sv sv' nx:Value}{w0:World}{P Q:Nat->Prop}{s s':BA}{ds ds':List PD}{xs xs':List Value}{nt:TypeId}
section
variable {w:World} {sa ra:Option Addr} {sn sc rn rc:Nat} {sT rT aT bT dT:TypeId} {sx rx ax bx dx:Value}
theorem zev {R:Ending->World->Prop}{la:Option Addr}{ln lc:Nat}(h:∀ W,Fr w W (λ _=>False)->Calls prog 192 #[.agg #[.slice sa sn sc,.iface sT sx,.slice ra rn rc,.iface rT rx],.agg #[.iface aT ax,.iface bT bx],.slice la ln lc] W (λ e w'=>∃ v ev,e=.returned (.tuple #[v,ev])/\R (.returned (.tuple #[v,ev])) w')) :
 Calls prog 144 #[.agg #[.slice sa sn sc,.iface sT sx,.slice ra rn rc,.iface rT rx],.agg #[.iface aT ax,.iface bT bx],.iface 169 (.slice la ln lc)] w R:=by
 refine hq_ λ POST Q_=>?_;have A2:=q_ (λ o o'=>((Fr.refl w (λ _=>False)).alloc o).alloc o');replace h:=q_ h;have ny:=zdc
 go_in
 go_wp2_with (go_at_call 192;refine(h.o _ (A2.o _ _)).mono ?_;rintro e w1 ⟨v,ev,rfl,hR⟩;replace hR:=q_ hR)
 try go_ret
 rw[Q_.o];exact hR.o
theorem zf4 {R:Ending->World->Prop}{la:Option Addr}{ln lc:Nat}(h:∀ W,Fr w W (λ _=>False)->Calls prog 193 #[.agg #[.slice sa sn sc,.iface sT sx,.slice ra rn rc,.iface rT rx],.agg #[.iface aT ax,.iface bT bx],.slice la ln lc] W (λ e w'=>∃ v ev,e=.returned (.tuple #[v,ev])/\R (.returned (.tuple #[v,ev])) w')) :
 Calls prog 144 #[.agg #[.slice sa sn sc,.iface sT sx,.slice ra rn rc,.iface rT rx],.agg #[.iface aT ax,.iface bT bx],.iface 171 (.slice la ln lc)] w R:=by
 refine hq_ λ POST Q_=>?_;have A2:=q_ (λ o o'=>((Fr.refl w (λ _=>False)).alloc o).alloc o');replace h:=q_ h;have n0:=xk_ 171 (by decide);have ny:=zff
 go_in
 go_wp2_with (go_at_call 193;refine(h.o _ (A2.o _ _)).mono ?_;rintro e w1 ⟨v,ev,rfl,hR⟩;replace hR:=q_ hR)
 try go_ret
 rw[Q_.o];exact hR.o
end
theorem zvd {w:World}{K L:Nat->Prop}{R:PT->PT->DT->Option DT}{c:Nat}(hc:zu_ c=true) (hm:matP ew er (.leaf c p) y=true) (hd:Dat ew d (.leaf c p)) (hv:DaV ew w K d (.leaf c p) v):∃ x,mkB R ew er df (.leaf c p) y d=some x/\DaV er w L x y v:=by
 cases y with
 | wrap c' p' u'=>simp[matP] at hm
 | alts p' l'=>simp[matP] at hm
 | leaf c' p'=>
  simp only[matP,if_pos hc,au_,beq_iff_eq,a9_] at hm;have fl:∀ {x:DT},zbi x v->kdD x≠101->DaV er w L x (.leaf c' p') v:=λ h hk=>.flat h (λ n l e=>absurd e (h.nosym hk n l))
  have one:kdD d≠40->kdD d≠91->kdD d≠114->kdD d≠123->kdD d≠101->(c'=108->kdD d=108)->∃ x,mkB R ew er df (.leaf c p) (.leaf c' p') d=some x/\DaV er w L x (.leaf c' p') v:=λ h1 h2 h3 h4 h5 h6=>by
   refine⟨d,?_,fl (hv.leaf h1 h2 h3 h4) h5⟩;obtain⟨k,n,tx,ks,ds⟩:=d;simp only[mkB,if_pos hc];split
   ·rename_i h;rw[show(108:Nat)=k from(h6 h).symm]
   ·rfl
  cases hd with
  | null=>exact one (by decide) (by decide) (by decide) (by decide) (by decide) (λ h=>by omega)
  | bool hq=>exact one (by simp[kdD]) (by simp[kdD]) (by simp[kdD]) (by simp[kdD]) (by simp[kdD]) (λ h=>by omega)
  | num h0 h1=>
   rcases hm with rfl|⟨_,rfl⟩
   ·exact one (by simp[kdD]) (by simp[kdD]) (by simp[kdD]) (by simp[kdD]) (by simp[kdD]) (λ h=>by omega)
   ·refine⟨_,by simp only[mkB,if_pos hc,if_true],fl ((hv.leaf (by simp[kdD]) (by simp[kdD]) (by simp[kdD]) (by simp[kdD])).long rfl) (by simp[kdD])⟩
  | long h0 h1=>exact one (by simp[kdD]) (by simp[kdD]) (by simp[kdD]) (by simp[kdD]) (by simp[kdD]) (λ h=>by simp[kdD])
  | text hx h1=>exact one (by simp[kdD]) (by simp[kdD]) (by simp[kdD]) (by simp[kdD]) (by simp[kdD]) (λ h=>by omega)
  | bytes he hb' hx=>rw[hc] at hb';cases hb'
  | sym he hb' hn=>rw[hc] at hb';cases hb'
  | recd he hb' hl hh=>rw[hc] at hb';cases hb'
theorem zkv {w:World}{sT rT:TypeId}{sx rx:Value}{m:Value}(H:MS w0 ds ds') (ih:MkOK w0 P Q s s' ds ds' sv sv' xs xs' k0 nt nx sT sx rT rx f) (M:MC w0 P Q s s' ds ds' sv sv' xs xs' k0 nt nx w) (h:MtV w P Q s s' (za_ ds) (za_ ds') (ZV ds' xs') x y m) (okx:okT (za_ ds) x) (oky:okT (za_ ds') y) (fy:fewT y) (hd:Dat (za_ ds) d x) (hv:DaV (za_ ds) w (λ g=>g<k0) d x v) (h1:ndT d<=300) (h2:ndT d<=f+1) :
 Calls prog 91 #[.agg #[sv,.iface sT sx,sv',.iface rT rx],m,v] w (y2_ (za_ ds') y k0 w nt nx (if matP (za_ ds) (za_ ds') x y=true then mkB (mkP (za_ ds) (za_ ds') (dfOf (za_ ds') s') f) (za_ ds) (za_ ds') (dfOf (za_ ds') s') x y d else none)):=by
 obtain⟨sa,sc,hsv⟩:=zf_ M.D.row;obtain⟨ra,rc,hrv⟩:=zf_ M.E.row;obtain⟨vT,vx,hvx⟩:=hv.iface
 cases h with
 | never hm=>
  rw[hm,if_neg (by decide)];subst hsv hrv hvx;refine(zea M.err).mono ?_;rintro e w' ⟨rfl,hf⟩;exact⟨_,_,rfl,hf,rfl,.base⟩
 | same hc hm=>
  rw[if_pos hm];obtain⟨z,hz,hzv⟩:=zvd (L:=λ g=>g<k0) (R:=mkP (za_ ds) (za_ ds') (dfOf (za_ ds') s') f) (df:=dfOf (za_ ds') s') hc hm hd hv;rw[hz];subst hsv hrv hvx;refine zf6.mono ?_;rintro e w' ⟨rfl,hf⟩;exact⟨_,_,rfl,hf,rfl,(hzv.fr hf u_).mono (λ g _ hg=>.inl hg)⟩
 | items hc ha hb=>
  rename_i c p p' t t' a b;rw[if_pos (by simp[matP])];unfold okT at okx oky;unfold fewT at fy;obtain⟨aT,ax,rfl⟩:=ha.iface;obtain⟨bT,bx,rfl⟩:=hb.iface
  cases hd with
  | list hl hds=>
   rename_i l0;rw[xv_] at h1 h2
   ·obtain⟨lv,Y0,hlv,ho,hdv⟩:=hv.row_inv rfl (.inl rfl);rw[if_pos rfl] at hlv;subst hlv;obtain⟨la,lc,rfl⟩:=zf_ ho;have hC:=λ W (hW:Fr w W (λ _=>False))=>(zg4 (sT:=sT) (rT:=rT) (sx:=sx) (rx:=rx) (p':=p') H ih (M.new hW) (ha.fr hW u_) (hb.fr hW u_) okx.2 oky.2 fy (zb_ ho hW u_) hds (λ i d e=>(hdv i d e).fr hW u_) (by omega) (by omega))
    have hC2:=λ W (hW:Fr w W (λ _=>False))=>zev (w:=W) (sa:=sa) (sn:=ds.length) (sc:=sc) (ra:=ra) (rn:=ds'.length) (rc:=rc) (sT:=sT) (rT:=rT) (sx:=sx) (rx:=rx) (aT:=aT) (ax:=ax) (bT:=bT) (bx:=bx) (la:=la) (ln:=l0.length) (lc:=lc) (λ V (hV:Fr W V (λ _=>False))=>by
     rw[<- hsv,<- hrv]
     exact(hC V (hW.trans hV u_)).mono (λ e w' q=>(q.pre (hW.trans hV u_)).tup))
    subst hsv hrv
    exact(zb2 (λ W hW=>(hC2 W hW).mono (λ e w' q=>q.tup))).mono (λ e w' q=>by
     simp only[mkB]
     exact q)
  | map hl hk hrs hds=>
   rename_i ks l0;rw[xv_] at h1 h2
   ·obtain⟨lv,Y0,rfl,hkl,hks,ho,hdv⟩:=hv.map_inv rfl;obtain⟨la,lc,rfl⟩:=zf_ ho;have hC:=λ W (hW:Fr w W (λ _=>False))=>(ziv (sT:=sT) (rT:=rT) (sx:=sx) (rx:=rx) (p':=p') H ih (M.new hW) (ha.fr hW u_) (hb.fr hW u_) okx.2 oky.2 fy hkl hks (zb_ ho hW u_) hds (λ i d e=>(hdv i d e).fr hW u_) (by omega) (by omega))
    have hC2:=λ W (hW:Fr w W (λ _=>False))=>zf4 (w:=W) (sa:=sa) (sn:=ds.length) (sc:=sc) (ra:=ra) (rn:=ds'.length) (rc:=rc) (sT:=sT) (rT:=rT) (sx:=sx) (rx:=rx) (aT:=aT) (ax:=ax) (bT:=bT) (bx:=bx) (la:=la) (ln:=l0.length) (lc:=lc) (λ V (hV:Fr W V (λ _=>False))=>by
     rw[<- hsv,<- hrv]
     exact(hC V (hW.trans hV u_)).mono (λ e w' q=>(q.pre (hW.trans hV u_)).tup))
    subst hsv hrv
    exact(zb2 (λ W hW=>(hC2 W hW).mono (λ e w' q=>q.tup))).mono (λ e w' q=>by
     simp only[mkB]
     exact q)
 | body hc hx hy ha hb hz hm hs=>
  rename_i c p p' X Y a b;have hnb:=jh_ hc
  have hnb':¬ zu_ c=true:=by rw[hnb];decide
  rw[if_pos (by simp[matP,hnb,hx,hy,hs])];have hgX:=H.g c X hx;have hgY:=H.g' c Y hy
  cases hm with
  | never h=>exact absurd hs h
  | same=>
   cases hd with
   | null=>exact absurd rfl (y0_ hnb).1
   | bool _=>exact absurd rfl (y0_ hnb).2.1
   | num _ _=>exact absurd rfl (y0_ hnb).2.2.1
   | long _ _=>exact absurd rfl (y0_ hnb).2.2.2.1
   | text _ _=>exact absurd rfl (y0_ hnb).2.2.2.2
   | sym he _ _=>rw[hx] at he;cases he
   | recd he _ _ _=>rw[hx] at he;cases he
   | bytes he _ hlt=>
    have hres:mkB (mkP (za_ ds) (za_ ds') (dfOf (za_ ds') s') f) (za_ ds) (za_ ds') (dfOf (za_ ds') s') (.leaf c p) (.leaf c p') (.mk 102 0 ‹BA› [] [])=some (.mk 102 0 ‹BA› [] []):=by
     simp only[mkB,if_neg hnb',hx,hy]
    rw[hres];have hfl:=hv.leaf (by simp[kdD]) (by simp[kdD]) (by simp[kdD]) (by simp[kdD]);subst hsv hrv hvx;refine zf6.mono ?_;rintro e w' ⟨rfl,hf⟩;exact⟨_,_,rfl,hf,rfl,.flat hfl (λ n l e=>absurd e (hfl.nosym (by simp[kdD]) n l))⟩
  | syms=>
   rename_i lw lr ow or' pp sv0 u qq rv0 u'
   cases hd with
   | null=>exact absurd rfl (y0_ hnb).1
   | bool _=>exact absurd rfl (y0_ hnb).2.1
   | num _ _=>exact absurd rfl (y0_ hnb).2.2.1
   | long _ _=>exact absurd rfl (y0_ hnb).2.2.2.1
   | text _ _=>exact absurd rfl (y0_ hnb).2.2.2.2
   | bytes he _ _=>rw[hx] at he;cases he
   | recd he _ _ _=>rw[hx] at he;cases he
   | sym he _hb hn=>
    rename_i n l o;rw[hx] at he;cases he
    have hres:mkB (mkP (za_ ds) (za_ ds') (dfOf (za_ ds') s') f) (za_ ds) (za_ ds') (dfOf (za_ ds') s') (.leaf c p) (.leaf c p') (.mk 101 (n:Int) noB [] [])=(rdsS lr or' ((lw.map Prod.fst).getD n 0)).map (λ (q:Nat)=>DT.mk 101 (q:Int) noB [] []):=by
     simp only[mkB,if_neg hnb',hx,hy,bc_]
    rw[hres]
    ·obtain⟨l',rfl,hsy,hl256⟩:=hv.sym_inv rfl
     ·have hl':(lw.map Prod.fst).getD n 0=l':=by
       rw[<- hsy];simp only[symL,hx]
      rw[hl']
      cases ha with
      | enum pa hoa hPa hua=>
       cases hb with
       | enum pb hob hPb hub=>
        obtain⟨fa,fc,rfl⟩:=zf_ hoa;obtain⟨ga,gc,rfl⟩:=zf_ hob;obtain⟨ud,rfl⟩:=hua.ptr;obtain⟨ud',rfl⟩:=hub.ptr;have hC:=λ W (hW:Fr w W (λ _=>False))=>zeu (w:=W) (k0:=k0) (pr:=p') (n:=n) (l:=l') (p:=(pa:Int)) (p2:=(pb:Int)) (fa:=fa) (fn:=lw.length) (fc:=fc) (a:=ud) (M.new hW).err (zb_ hob hW u_) (hub.fr hW u_) hgY.1.1 hy hgY.1.2.1;subst hsv hrv;exact zex (λ W hW=>(hC W hW).mono (λ e w' q=>(q.pre hW).tup))
  | flds=>
   rename_i fw fr pp sv0 qq rv0
   cases hd with
   | null=>exact absurd rfl (y0_ hnb).1
   | bool _=>exact absurd rfl (y0_ hnb).2.1
   | num _ _=>exact absurd rfl (y0_ hnb).2.2.1
   | long _ _=>exact absurd rfl (y0_ hnb).2.2.2.1
   | text _ _=>exact absurd rfl (y0_ hnb).2.2.2.2
   | bytes he _ _=>rw[hx] at he;cases he
   | sym he _ _=>rw[hx] at he;cases he
   | recd he _hb hl hh=>
    rename_i fs dl;rw[hx] at he;cases he;rw[xv_] at h1 h2
    have hres:mkB (mkP (za_ ds) (za_ ds') (dfOf (za_ ds') s') f) (za_ ds) (za_ ds') (dfOf (za_ ds') s') (.leaf c p) (.leaf c p') (.mk 114 0 noB [] dl)=(mapO (mkF (mkP (za_ ds) (za_ ds') (dfOf (za_ ds') s') f) (dfOf (za_ ds') s') fw dl) fr).map (λ l=>.mk 114 0 noB [] l):=by
     simp only[mkB,if_neg hnb',hx,hy]
    rw[hres]
    ·obtain⟨lv,Y0,hlv,ho,hdv⟩:=hv.row_inv rfl (.inr rfl);rw[if_neg (by decide)] at hlv;subst hlv
     cases ha with
     | recd pa hoa hPa hVa=>
      cases hb with
      | recd pb hob hPb hVb=>
       have hdm:=λ W (hW:Fr w W (λ _=>False))=>(M.new hW).dvm hz (zb_ hob hW u_) (hVb.fr hW u_);have hF:=(⟨hoa,hPa,hVa⟩:vj_ w P s fw sv0 _);have hG:=(⟨hob,hPb,hVb⟩:vj_ w Q s' fr rv0 _);obtain⟨la,lc,rfl⟩:=zf_ ho;obtain⟨fa,fc,rfl⟩:=zf_ hoa;obtain⟨ga,gc,rfl⟩:=zf_ hob
       have hsub:∀ (i:Nat) (h:PF),fw[i]?=some h->yb_ (za_ ds) (.leaf c p) 0 i=h.ty:=λ i h hi=>by
        simp only[yb_,hx,aq_,a4_,hi,a2_,b0_]
       have hC:=λ W (hW:Fr w W (λ _=>False))=>zew (sT:=sT) (rT:=rT) (sx:=sx) (rx:=rx) (pr:=p') (p:=(pa:Int)) (p2:=(pb:Int)) ih (M.new hW) (hF.fr hW u_) (hG.fr hW u_) hgX.1.1 hgY.1.1 hl hy hgY.1.2.1 (hdm W hW) hgX.2 hgY.2 (H.f' c fr hy).2 (zb_ ho hW u_) (λ i d h hi hf=>⟨hh i d h.ty hi (by rw[a4_,hf];rfl),by
        have:=(hdv i d hi).fr hW u_
        rw[hsub i h hf] at this
        exact this⟩) (by omega) (by omega)
       subst hsv hrv;exact zf5 (λ W hW=>(hC W hW).mono (λ e w' q=>(q.pre hW).tup))
open Go.RowKit
theorem zv2 (fx:jw_ x) (fy:jw_ y):mkP ew er df (f+1) x y d=if matP ew er x y=true then mkB (mkP ew er df f) ew er df x y d else none:=by
 cases x with
 | alts p l=>exact fx.elim
 | leaf c p=>
  cases y with
  | alts p l=>exact fy.elim
  | leaf c p=>rfl
  | wrap c p u=>rfl
 | wrap c p u=>
  cases y with
  | alts p l=>exact fy.elim
  | leaf c p=>rfl
  | wrap c p u=>rfl
theorem zv1 {rs:List PT}(fx:jw_ x):mkP ew er df (f+1) x (.alts p rs) d=match vs_ ew er x rs 0 none with
 | none=>none
 | some k=>match rs[k]? with|none=>none|some r1=>(mkB (mkP ew er df f) ew er df x r1 d).map (λ x=>.mk 40 (k:Int) noB [] [x]):=by
 cases x with
 | alts p l=>exact fx.elim
 | leaf c p=>rfl
 | wrap c p u=>rfl
theorem zyc {n:Nat}{ws:List PT}{w1:PT}{d1:DT}(h:ws[n]?=some w1):mkP ew er df (f+1) (.alts p ws) y (.mk 40 (n:Int) noB [] [d1])=mkP ew er df f w1 y d1:=by
 show(match ws[(n:Int).toNat]?,[d1] with|some w1,d1::_=>mkP ew er df f w1 y d1|_,_=>none)=_;rw[bc_,h]
theorem zya (d:DT):0<ndT d:=by
 obtain⟨k,n,tx,ks,ds⟩:=d;rw[xv_];omega
theorem zye {sT rT:TypeId}{sx rx:Value}(H:MS w0 ds ds'):∀ f,MkOK w0 P Q s s' ds ds' sv sv' xs xs' k0 nt nx sT sx rT rx f:=by
 intro f
 induction f with
 | zero=>intro w x y d a b v _ _ _ _ _ _ _ _ _ h;have:=zya d;omega
 | succ f ih=>
  intro w x y d a b v M ha hb okx oky fy hd hv h1 h2
  have hMeet:=λ W (hW:Fr w W (λ _=>False))=>(zv7 (sT:=sT) (rT:=rT) (sx:=sx) (rx:=rx) (M.new hW).D (M.new hW).E (ha.fr hW u_) (hb.fr hW u_) okx oky fy).mono (λ e w' (q:∃ v,e=.returned v/\Fr W w' (λ _=>False)/\MeV w' P Q s s' (za_ ds) (za_ ds') (ZV ds' xs') x y v)=>show ∃ T u,e=.returned (.iface T u)/\Fr W w' (λ _=>False)/\MeV w' P Q s s' (za_ ds) (za_ ds') (ZV ds' xs') x y (.iface T u) by
   obtain⟨v,h1,h2,h3⟩:=q
   obtain⟨T,u,rfl⟩:=h3.iface
   exact⟨T,u,h1,h2,h3⟩)
  obtain⟨sa,sc,hsv⟩:=zf_ M.D.row;obtain⟨ra,rc,hrv⟩:=zf_ M.E.row;obtain⟨aT,ax,rfl⟩:=ha.iface;obtain⟨bT,bx,rfl⟩:=hb.iface;obtain⟨vT,vx,rfl⟩:=hv.iface
  have hB:∀ W T u,Fr w W (λ _=>False)->MeV W P Q s s' (za_ ds) (za_ ds') (ZV ds' xs') x y (.iface T u)->Calls prog 91 #[.agg #[sv,.iface sT sx,sv',.iface rT rx],.iface T u,.iface vT vx] W (y2_ (za_ ds') y k0 W nt nx (mkP (za_ ds) (za_ ds') (dfOf (za_ ds') s') (f+1) x y d)):=by
   intro W T u hW hN;have M1:=M.new hW;have hv1:=hv.fr hW u_;generalize hm:Value.iface T u=mv at hN⊢
   cases hN with
   | outb X ho hX hb1=>
    rename_i p ws uv b1;unfold okT at okx;have hall:=j6_ okx.2
    cases hd with
    | alts hn hl hd1=>
     rename_i n u1 d1;rw[xv_] at h1 h2;simp only[ndTs] at h1 h2;rw[zyc hl]
     ·obtain⟨hn4,v1,hvv,hd2⟩:=hv1.branch_inv rfl
      have hst:yb_ (za_ ds) (.alts p ws) n 0=u1:=by
       show ws.getD n (.leaf 0 0)=u1;rw[aq_,hl]
       rfl
      rw[hst] at hd2;obtain⟨ua,uc,huv⟩:=zf_ ho;obtain⟨b1T,b1x,hb1x⟩:=hb1.iface;obtain⟨v1T,v1x,hv1x⟩:=hd2.iface;have hC:=λ V (hV:Fr W V (λ _=>False))=>ziu (sT:=sT) (rT:=rT) (sx:=sx) (rx:=rx) H ih (M1.new hV) (zb_ ho hV u_) (λ i t h=>(hX i t h).fr hV u_) (hb1.fr hV u_) hl hn4 (hall u1 (ak_ hl)).2 oky fy hd1 (hd2.fr hV u_) (by omega) (by omega);rw[hvv];subst hsv hrv huv hb1x hv1x;exact zku (λ V hV=>(hC V hV).mono (λ e w' q=>(q.pre hV).tup))
   | into fx h=>
    rename_i p rs;unfold okT at oky;unfold fewT at fy;have hall:=j6_ oky.2;rw[zv1 fx]
    cases hk:vs_ (za_ ds) (za_ ds') x rs 0 none with
    | none=>
     rw[hk] at h;have h:mv=_:=h;subst h;subst hsv hrv;refine(zea M1.err).mono ?_;rintro e w' ⟨rfl,hf⟩;exact⟨_,_,rfl,hf,rfl,.base⟩
    | some k=>
     rw[hk] at h;obtain⟨r,T1,u1,hr,rfl,hmat,hMt⟩:=h;have hrm:=ak_ hr
     have hk4:k<=4000:=by have:=(ao_.1 hr).1;omega
     have hC:=λ V (hV:Fr W V (λ _=>False))=>zkv (sT:=sT) (rT:=rT) (sx:=sx) (rx:=rx) H ih (M1.new hV) (hMt.fr hV u_ u_) okx (hall r hrm).2 (zc9 fy.2 r hrm) hd (hv1.fr hV u_) h1 h2;simp only[hmat,if_true] at hC;simp only[hr]
     have hst:yb_ (za_ ds') (.alts p rs) k 0=r:=by
      show rs.getD k (.leaf 0 0)=r;rw[aq_,hr]
      rfl
     subst hsv hrv;exact zm9 (λ V hV=>(zkt hk4 hst (λ U hU=>hC U (hV.trans hU u_))).mono (λ e w' q=>(q.pre hV).tup))
   | flat fx fy' h=>
    rw[zv2 fx fy'];exact zkv (sT:=sT) (rT:=rT) (sx:=sx) (rx:=rx) H ih M1 h okx oky fy hd hv1 h1 h2
  subst hsv hrv
  exact zwa (N:=λ m W=>MeV W P Q s s' (za_ ds) (za_ ds') (ZV ds' xs') x y m) hMeet (λ W T u hW hN=>(hB W T u hW hN).mono (λ e w' q=>by
   obtain⟨v,ev,he,hq⟩:=(q.pre hW).tup
   exact⟨v,ev,he,(y2_.two hW q).1,hq⟩))
theorem zv9 {w:World}{a b:Value}(H:MS w0 ds ds') (M:MC w0 P Q s s' ds ds' sv sv' xs xs' k0 nt nx w) (ha:TyV w P x a) (hb:TyV w Q y b) (okx:okT (za_ ds) x) (oky:okT (za_ ds') y) (fy:fewT y) (hd:Dat (za_ ds) d x) (hv:DaV (za_ ds) w (λ g=>g<k0) d x v) (h1:ndT d<=300) :
 Calls prog 38 #[.agg #[sv,a],.agg #[sv',b],v] w (y2_ (za_ ds') y k0 w nt nx (mkP (za_ ds) (za_ ds') (dfOf (za_ ds') s') 300 x y d)):=by
 obtain⟨POST,Q_⟩:∃ R,H_ (R=y2_ (za_ ds') y k0 w nt nx (mkP (za_ ds) (za_ ds') (dfOf (za_ ds') s') 300 x y d)):=⟨_,rfl⟩;rw[<- Q_.o];obtain⟨aT,ax,rfl⟩:=ha.iface;obtain⟨bT,bx,rfl⟩:=hb.iface;have hC:=λ W (hW:Fr w W (λ _=>False))=>(zye (P:=P) (Q:=Q) (xs:=xs) (xs':=xs') (s:=s) (s':=s') (sv:=sv) (sv':=sv') (k0:=k0) (nt:=nt) (nx:=nx) (sT:=aT) (sx:=ax) (rT:=bT) (rx:=bx) H 300 W x y d _ _ v (M.new hW) (ha.fr hW u_) (hb.fr hW u_) okx oky fy hd (hv.fr hW u_) h1 h1).mono (λ e w' q=>(q.pre hW).tup);obtain⟨sa,sc,rfl⟩:=zf_ M.D.row;obtain⟨ra,rc,rfl⟩:=zf_ M.E.row;obtain⟨vT,vx,rfl⟩:=hv.iface;replace hC:=q_ hC;have A2:=q_ (λ o o'=>((Fr.refl w (λ _=>False)).alloc o).alloc o');clear M ha hb okx oky fy hd hv H
 go_in
 go_wp2_with (go_at_call 63;refine(hC.o _ (A2.o _ _)).mono ?_;rintro e w1 ⟨v1,ev1,rfl,hR⟩;replace hR:=q_ hR)
 try go_ret
 rw[Q_.o];exact hR.o
end Go.Proofs.YthmjjpkjgjklmaaGreatDoor
