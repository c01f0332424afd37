import Derived.Test.YtokgeopihcopeaaGreatDoorW26
import Derived.WideKeyPair
set_option linter.unusedVariables false
set_option maxHeartbeats 16000000
set_option maxRecDepth 100000
set_option linter.defProp false
set_option linter.unusedSimpArgs false
open Go.Proofs.Tryz
namespace Go.Proofs.YtokgeopihcopeaaGreatDoor
open Go.RowKit
variable {p n c un uc:Nat}{t:PT}{D:Dg}{A:Ev}{d:Ax}{W':Aw}{S:Az}{s:BA}{r:Unit}
def NoD(W:Aw)(S:Az):Prop:=∀x cs T p,S x->W.heap[x]?=some (.cells cs T p)->T≠52/\T≠201
def bu{W:Aw}{B k x:Nat}{e:Av}{lv:Ax}{ys:Ay}(h:W.ownsRow B e k lv n ys)(hx:lv.ownBlock=some x):∃cs,W.heap[x]?=some (.cells cs e):=by
 rcases h.2 with⟨e',_⟩|⟨g',f,a,e',_,b,_⟩
 .subst e';simp[Value.ownBlock]at hx
 .subst e';simp only[Value.ownBlock,af_]at hx;subst hx;exact⟨a,b⟩
def DaV.not{env:Au}{W:Aw}{J:Az}{d:DT}{v:Ax}(h:DaV env W J d t v)(a:NoD W S):DaV env W (λx=>J x/\¬S x) d t v:=by
 induction h with
 |flat h hs=>exact .flat h hs
 |branch n h hd ih=>exact .branch n h ih
 |row Y hc ho hP hd ih=>exact .row Y hc ho (λg e=>⟨hP g e,λk=>by obtain⟨cs,hc⟩:=bu ho e;exact(a _ _ _ _ k hc).1 rfl⟩) ih
 |map Y hl hk ho hP hd ih=>exact .map Y hl hk ho (λg e=>⟨hP g e,λk=>by obtain⟨cs,hc⟩:=bu ho e;exact(a _ _ _ _ k hc).2 rfl⟩) ih
def svD.not{F:FD}{W:Aw}{J:Az}(h:svD F W J D A n d)(a:NoD W S):svD F W (λx=>J x/\¬S x) D A n d:=by
 refine⟨h.1,λe=>?_⟩;obtain⟨x,b,f,i⟩:=h.2 e;exact⟨x,b,f,λe' u hu=>(i e' u hu).not a⟩
def svD.mono{F:FD}{W:Aw}{J b:Az}{a:Dg}(h:svD F W J D A n d)(i:∀x,J x->b x)(f:∀x,D x->a x):svD F W b a A n d:=by
 refine⟨h.1,λe=>?_⟩;obtain⟨x,a,b,j⟩:=h.2 e;exact⟨x,⟨f x a.1,a.2⟩,b,λe' u hu=>(j e' u hu).mono (λg _=>i g)⟩
def svD.frS{F:FD}{W:Aw}{J:Az}(h:svD F W J D A n d)(hf:Fr W W' S)(a:NoD W S):svD F W' J D A n d:=by
 refine⟨h.1,λe=>?_⟩;obtain⟨x,b,f,i⟩:=h.2 e;exact⟨x,b,f,λe' u hu=>(((i e' u hu).not a).fr hf (λg hg=>hg.2)).mono (λg _ hg=>hg.1)⟩
section
variable {α β:Type} {I:TI α} {I':TI β} {fb tb mb fb' tb' mb':Nat} {kf ff rv kf' ff' rv':Ax} {W:Aw} {g g':Aq} {T:List (Rw α)} {T':List (Rw β)}
def TbW.noD(h:TbW I fb tb mb kf ff W rv g T)(h1:I.TT≠52/\I.TT≠201)(a:I.RT≠52/\I.RT≠201):NoD W (TbS tb mb rv):=λ_ _ _ _ hx hc=>
 ⟨λe=>h.ot hc (e▸h1.1.symm) (e▸a.1.symm) hx,λe=>h.ot hc (e▸h1.2.symm) (e▸a.2.symm) hx⟩
def TbW.two(h:TbW I fb tb mb kf ff W rv g T)(k:TbW I' fb' tb' mb' kf' ff' W rv' g' T')(h1:I.TT≠I'.TT)(f:I.TT≠I'.RT)(i:I.RT≠I'.TT)(j:I.RT≠I'.RT)(hm:mb≠mb'):∀x,TbS tb mb rv x->¬TbS tb' mb' rv' x:=by
 rintro x (rfl|rfl|e)
 .have:=h.b;unfold Blk at this;exact k.ot this h1 f
 .obtain⟨D,⟨es,c,a,_⟩,_⟩:=h.map;rintro(rfl|rfl|e)
  .have:=k.b;unfold Blk at this;rw[this]at a;cases a
  .exact hm rfl
  .obtain⟨cs,hc⟩:=bu k.row e;rw[hc]at a;cases a
 .obtain⟨cs,hc⟩:=bu h.row e;exact k.ot hc i j
end
@[reducible] def IU {α:Type}(kv:α->Value) (Q:α->Prop) (num:α->Nat) (N:Nat):TI α:=⟨134,243,93,2,kv,Q,num,N⟩
def okY(F:FD)(y:PT):Prop:=wK F.s' y/\okT (zx F.ds') y/\vq y
def uQ(F:FD)(a:Es):Prop:=okQ F (.ty a.1)/\okY F a.2
def kvU(a:Es):Value:=.agg #[I_ a.1.place,I_ a.2.place]
def uI(F:FD):TI (PT×PT):=IU kvU (uQ F) (λa=>a.1.place*300+a.2.place) 90000
def LL(F:FD)(t:PT)(k:Nat):Prop:=∀d,Dat (zx F.ds) d t->kn k (ndT d)
def ll{F:FD}{T:Dr}(b:Gd (ClD F) T){x:Rw Qu}(hx:x∈T)(ha:x.a=.ty t):LL F t x.n:=λ_ hd=>(Ze b).all hd x.n ⟨x,hx,ha,rfl⟩
structure ClU(F:FD)(T:Ah)(a:Es)(v:Nat):Prop where
 alts0:∀p ws,a.1=.alts p ws->∀w1∈ws,∃k,fV T (w1,a.2) k/\le0 v (jnN [k])
 never:a.1.isAlts=false->Nev (zx F.ds) (zx F.ds') a.1 a.2->∃k,LL F a.1 k/\le0 v k
 items:∀c p p' u u',a.1=.wrap c p u->Via (zx F.ds) (zx F.ds') a.1 a.2 (.wrap c p' u')->∃k,fV T (u,u') k/\le0 v (jnN [k])
 sym:∀c p p' lw lr ow o q,a.1=.leaf c p->Via (zx F.ds) (zx F.ds') a.1 a.2 (.leaf c p')->zi c=false->zx F.ds c=some (.enum lw ow)->zx F.ds' c=some (.enum lr o)->q<lw.length->qh lr o ((lw.map Prod.fst).getD q 0)=none->le0 v 1
 field:∀c p p' fw fr g i h,a.1=.leaf c p->Via (zx F.ds) (zx F.ds') a.1 a.2 (.leaf c p')->zi c=false->zx F.ds c=some (.recd fw)->zx F.ds' c=some (.recd fr)->g∈fr->vV fw g.letter=some i->fw[i]?=some h->∃(ks:List Nat),ks.length=fw.length/\(∀(q:Nat) (f:PF) (k:Nat),fw[q]?=some f->ks[q]?=some k->if q=i then fV T (h.ty,g.ty) k else LL F f.ty k)/\le0 v (jnN ks)
 lack:∀c p p' fw fr g,a.1=.leaf c p->Via (zx F.ds) (zx F.ds') a.1 a.2 (.leaf c p')->zi c=false->zx F.ds c=some (.recd fw)->zx F.ds' c=some (.recd fr)->g∈fr->vV fw g.letter=none->g.dflt=none->∃(ks:List Nat),ks.length=fw.length/\(∀(q:Nat) (f:PF) (k:Nat),fw[q]?=some f->ks[q]?=some k->LL F f.ty k)/\le0 v (jnN ks)
def WS(F:FD):Qi (ClU F):=by
 intro T R a v h;refine⟨λp ws e w1 hw=>?_,h.never,λc p p' u u' e hv=>?_,h.sym,λc p p' fw fr g i C l m o w x y z B=>?_,h.lack⟩
 .obtain⟨k,h1,b⟩:=h.alts0 p ws e w1 hw;exact⟨k,h1.more R,b⟩
 .obtain⟨k,h1,b⟩:=h.items c p p' u u' e hv;exact⟨k,h1.more R,b⟩
 .obtain⟨ks,h1,b,E⟩:=h.field c p p' fw fr g i C l m o w x y z B;refine⟨ks,h1,λq f k e e'=>?_,E⟩;have:=b q f k e e';split at this
  .rename_i j;rw[i_ j];exact this.more R
  .rename_i j;rw[n_ j];exact this
def eI{F:FD}{T:Ah}(h:Gd (ClU F) T):ClP (zx F.ds) (zx F.ds') (LL F) (λx y n=>fV T (x,y) n):=by
 have f:∀{x y n},fV T (x,y) n->∃v,ClU F T (x,y) v/\le0 n v:=λ{x y n} hk=>by
  obtain⟨r,b,e,rfl⟩:=hk;obtain⟨v,h1,a⟩:=h r b;rw[e]at h1;exact⟨v,h1,pm a⟩
 refine⟨λp ws y n hk w1 hw=>?_,λx y n hk hx hv=>?_,λc p p' u u' y n hk hv=>?_,λc p p' y n lw lr ow o q hk hv j l m w z=>?_,λc p p' y n fw fr g i E hk hv j l m w z B=>?_,λc p p' y n fw fr g hk hv j l m w z B=>?_⟩
 .obtain⟨v,h1,a⟩:=f hk;obtain⟨k,b,e⟩:=h1.alts0 p ws rfl w1 hw;exact⟨k,b,a.trans e⟩
 .obtain⟨v,h1,a⟩:=f hk;obtain⟨k,b,e⟩:=h1.never hx hv;exact⟨k,b,a.trans e⟩
 .obtain⟨v,h1,a⟩:=f hk;obtain⟨k,b,e⟩:=h1.items c p p' u u' rfl hv;exact⟨k,b,a.trans e⟩
 .obtain⟨v,h1,a⟩:=f hk;exact a.trans (h1.sym c p p' lw lr ow o q rfl hv j l m w z)
 .obtain⟨v,h1,a⟩:=f hk;obtain⟨ks,b,e,C⟩:=h1.field c p p' fw fr g i E rfl hv j l m w z B;exact⟨ks,b,e,a.trans C⟩
 .obtain⟨v,h1,a⟩:=f hk;obtain⟨ks,b,e,C⟩:=h1.lack c p p' fw fr g rfl hv j l m w z B;exact⟨ks,b,e,a.trans C⟩
def uqv(F:FD)(W:Aw)(a:Es)(v:Ay):Prop:=∃u u',v=[u,u']/\TyV W F.P a.1 u/\TyV W F.P' a.2 u'
def uqv.fr{F:FD}(b:F.OK){W:Aw}{a:Es}{v:Ay}(h:uqv F W a v)(hf:Fr W W' S)(f:∀x,S x->F.fb<x):uqv F W' a v:=by
 obtain⟨u,u',e,h1,i⟩:=h;exact⟨u,u',e,h1.fr hf (λx hx e=>o2_ (f x e) (b.pP x hx)),i.fr hf (λx hx e=>o2_ (f x e) (b.pP' x hx))⟩
abbrev UD(F:FD)(a:Es):DT->Prop:=Un (zx F.ds) (zx F.ds') a.1 a.2
abbrev UA(a:Es):PT->Prop:=λu=>u=a.1
def uT(F:FD):TP (PT×PT) (Value×List (Rw Qu)):=⟨λW r=>TbI (dT F) (dI F) (dL F) W () r.1 false r.2/\Gd (ClD F) r.2,λr x=>TbS F.tb F.mb r.1 x,λW J a n d=>svD F W J (UD F a) (UA a) n d,λW a v=>uqv F W a v/\uQ F a,ClU F⟩
def uL(F:FD):TL:=⟨F.fb,F.tu,F.mu,.func (.func 52) #[] #[],.func (.func 53) #[P_ F.fb] #[]⟩
def MJ{F:FD}{W:Aw}{rv:Ax}{g:Aq}{T:Ah}(h:TbW (uI F) (uL F).fb (uL F).tb (uL F).mb (uL F).kf (uL F).ff W rv g T):NoD W (TbS F.tu F.mu rv):=
 h.noD (by show 134≠_/\134≠_;decide) (by show 243≠_/\243≠_;decide)
def oH{F:FD}(a:F.OK){W:Aw}{rv rv':Ax}{g g':Aq}{T:Dr}{T':Ah}(h:TbW (dI F) (dL F).fb (dL F).tb (dL F).mb (dL F).kf (dL F).ff W rv g T)(k:TbW (uI F) (uL F).fb (uL F).tb (uL F).mb (uL F).kf (uL F).ff W rv' g' T'):∀x,TbS F.tb F.mb rv x->¬TbS F.tu F.mu rv' x:=
 h.two k (by show 213≠134;decide) (by show 213≠243;decide) (by show 297≠134;decide) (by show 297≠243;decide) a.mm
def vH{F:FD}(b:F.OK):(uT F).OK (uI F) (uL F) where
 rs:=λW r x h hx=>h.1.t.li hx
 rfr:=λW W' r rv g T h f hf=>
  ⟨⟨h.1.i.fr b hf (λx hx=>(f.li hx).1),h.1.t.fr hf (λx hx=>oH b h.1.t f x hx),λx hx=>⟨svD.frS (h.1.v x hx).1 hf (MJ f),qvD.fr b (h.1.v x hx).2.1 hf (λx hx=>(f.li hx).1),(h.1.v x hx).2.2⟩⟩,h.2⟩
 rnew:=λW W' r h hf=>⟨h.1.new (fG b) hf,h.2⟩
 sv:=λW W' S S' a n d h hs=>svD.stp h hs
 qv:=λW W' S a v h hf f=>⟨h.1.fr b hf f,h.2⟩
 mono:=WS F
 z:=λW J a=>⟨λ_=>rfl,λe=>absurd rfl e⟩
 put:=λW W' r q cs f h hb hf=>⟨h.1.put (fG b) f hb hf,h.2⟩
 svp:=λW W' J a n d q cs h hb hf=>svD.put h hb D_ D_ hf
 tt:=⟨by show 134≠_;decide,by show 243≠_;decide⟩
def TbI.data{F:FD}(k:F.OK){W:Aw}{r:By}{rv b:Ax}{g:Aq}{T:Ah}{a:Dr}(h:TbI (uT F) (uI F) (uL F) W r rv g T)(m:TbI (dT F) (dI F) (dL F) W' () b false a)(hs:Stp W W' (TSS (dT F) (dL F) r.1 ()) (TSS (dT F) (dL F) b ()))(hg:Gd (ClD F) a):TbI (uT F) (uI F) (uL F) W' (b,a) rv g T/\Stp W W' (TSS (uT F) (uL F) rv r) (TSS (uT F) (uL F) rv (b,a)):=by
 have j:∀rv x,TSS (dT F) (dL F) rv () x->TbS F.tb F.mb rv x:=λrv x h=>h.elim id (λf=>f.elim);have l:Stp W W' (TSS (uT F) (uL F) rv r) (TSS (uT F) (uL F) rv (b,a)):=⟨hs.1.mono (λx _ e=>.inr (j _ x e)),λx hx e=>e.elim .inl (λe=>.inr (j _ x (hs.2 x hx (.inl e))))⟩;refine⟨⟨⟨m,hg⟩,h.t.fr hs.1 (λx hx e=>oH k h.i.1.t h.t x (j _ x e) hx),λx hx=>⟨svD.stp (h.v x hx).1 l,(h.v x hx).2.1.fr k hs.1 (λx hx=>(h.i.1.t.li (j _ x hx)).1),(h.v x hx).2.2⟩⟩,l⟩
def svD.data{F:FD}{W:Aw}{rv a:Ax}{g:Aq}{T:Ah}{b:Dr}(h:TbI (uT F) (uI F) (uL F) W (a,b) rv g T)(hv:svD F W (λy=>¬TSS (dT F) (dL F) a () y) D A n d):svD F W (λy=>¬TSS (uT F) (uL F) rv (a,b) y) D A n d:=
 (hv.not (MJ h.t)).mono (λ_ hx e=>e.elim hx.2 (λe=>hx.1 (.inl e))) (λ_ h=>h)
def VX:∀{n i:Nat}{l:List (Nat×Nat)}{j:Nat},jr s n i=.ok (l,j)->∃c q r,l=(c,q)::r
 | 0,i,l,j,h=>by simp[jr]at h
 |n+1,i,l,j,h=>by
  unfold jr at h;split at h
  .split at h
   .split at h
    .cases h
    .simp only[ae_,ad_]at h;exact⟨_,_,_,h.1.symm⟩
   .simp only[ae_,ad_]at h;exact⟨_,_,_,h.1.symm⟩
  .cases h
def Fh{l:As}{o:Ac}(h:pB s p (.enum l o)):∃c q r,l=(c,q)::r:=by
 obtain⟨j,h⟩:=h;unfold yG at h;split at h
 .split at h<;>cases h
 .split at h
  .split at h
   .cases h
   .rename_i a e j' hp;simp only[ae_,ad_,PB.enum.injEq]at h;obtain⟨⟨rfl,rfl⟩,_⟩:=h;unfold xY at hp;split at hp
    .split at hp
     .cases hp
     .rename_i l1 b hs;have hl:l1=a:=by
       split at hp
       .split at hp
        .split at hp
         .simp only[ae_,ad_]at hp;exact hp.1.1
         .cases hp
        .cases hp
       .split at hp
        .simp only[ae_,ad_]at hp;exact hp.1.1
        .cases hp
      subst hl;exact VX hs
    .cases hp
  .split at h
   .split at h<;>cases h
   .cases h
def aB(h:pB s p (.bytes n)):n<=9:=by
 obtain⟨j,h⟩:=h;unfold yG at h;split at h
 .split at h<;>cases h
 .split at h
  .split at h<;>cases h
  .split at h
   .split at h
    .simp only[ae_,ad_,PB.bytes.injEq]at h;omega
    .cases h
   .cases h
def svD.conv{F:FD}{W:Aw}{J:Az}{b:Dg}{a:Ev}(h:svD F W J D A n d)(i:∀x,D x->b x)(f:∀u,a u->A u):svD F W J b a n d:=by
 refine⟨h.1,λe=>?_⟩;obtain⟨x,a,b,j⟩:=h.2 e;exact⟨x,⟨i x a.1,a.2⟩,b,λe' u hu=>j e' u (f u hu)⟩
def svD.leaf{F:FD}{W:Aw}{J:Az}{q:Qu}{x:DT}{v:Ax}(h1:ndT x=1)(hs:Sh x)(h:∀u,QT F q u->Dat (zx F.ds) x u/\DaV (zx F.ds) W J x u v):svD F W J (QD F q) (QT F q) 1 v:=
 ⟨λe=>M_,λ_=>⟨x,⟨λu hu=>(h u hu).1,hs⟩,by unfold nd3;rw[h1];rfl,λ_ u hu=>(h u hu).2⟩⟩
def yB.leaf{F:FD}(f:F.OK){W:Aw}{rv:Ax}{g:Aq}{T:Dr}{a:Qu}{b:Av}{e:Ax}(h:TbI (dT F) (dI F) (dL F) W r rv g T)(hf:Fr W W' N_)(hc:ClD F T a 1)(hv:∀J,svD F W' J (QD F a) (QT F a) 1 (.iface b e)):yB (dT F) (dI F) (dL F) W r rv g T a (.returned (.agg #[Z_ 1,.iface b e])) W':=
 ⟨r,rv,g,T,1,.iface b e,rfl,M_,.inr ⟨_,_,rfl⟩,h.new (fG f) hf,C_ hf (λ_ h=>h),Grw.refl _ _,hc,hv _⟩
def ju.name{F:FD}{W:Aw}{rv:Ax}{g:Aq}{T:Dr}{p':Nat}{X:PB}{e:Ak}(hb:zi c=false)(hc:zx F.ds c=some X)(h:ju (dT F) (dI F) (dL F) W r rv g T (.bd p' X) e W'):yB (dT F) (dI F) (dL F) W r rv g T (.ty (.leaf c p)) e W':=by
 obtain⟨r',rv',g',T',x,rfl,hx,ha,a,hs,hg⟩:=h;have b:=(a.t.q x hx).2.2;refine⟨r',rv',g',T',x.n,x.d,rfl,b.1,b.2,a,hs,hg,?_,?_⟩
 .show ClD F T' (.ty (.leaf c p)) x.n;simp only[ClD];rw[n_ zs_];exact⟨p',X,hc,x,hx,ha,rfl⟩
 .have h1:=(a.v x hx).1;rw[ha]at h1;exact svD.conv h1 (λy hy u hu=>hy u ⟨c,p,hu,hb,hc⟩) (λu hu=>⟨c,p,hu,hb,hc⟩)
def ql:Prop:=∀(W:World) (n:Nat),n<=9->Calls prog 91 #[.string ⟨#[97]⟩,I_ n] W λe w'=>∃x,e=.returned (.string x)/\Fr W w' N_/\x.size=n/\cF x
section
variable {F:FD} {W:Aw} {J:Az}
def BC:svD F W J (QD F (.ty (.leaf 110 p))) (QT F (.ty (.leaf 110 p))) 1 (.iface 136 (.agg #[])):=
 .leaf (x:=.mk 110 0 noB [] []) rfl (.leaf x6_ D_) (λu hu=>by obtain rfl:u=_:=hu;exact⟨.null,.flat .nothing (λn l e=>by cases e)⟩)
def BU:svD F W J (QD F (.ty (.leaf 116 p))) (QT F (.ty (.leaf 116 p))) 1 (.iface 137 (.bool false)):=
 .leaf (x:=.mk 116 0 noB [] []) rfl (.leaf x6_ D_) (λu hu=>by obtain rfl:u=_:=hu;exact⟨.bool (n:=0) M_,.flat (.truth false) (λn l e=>by cases e)⟩)
def BH:svD F W J (QD F (.ty (.leaf 105 p))) (QT F (.ty (.leaf 105 p))) 1 (.iface 139 (O_)):=
 .leaf (x:=.mk 105 0 noB [] []) rfl (.leaf x6_ D_) (λu hu=>by obtain rfl:u=_:=hu;exact⟨.num M_ M_,.flat (.num 105 0 (.inl rfl) M_ M_) (λn l e=>by cases e)⟩)
def BL:svD F W J (QD F (.ty (.leaf 108 p))) (QT F (.ty (.leaf 108 p))) 1 (.iface 139 (O_)):=
 .leaf (x:=.mk 108 0 noB [] []) rfl (.leaf x6_ D_) (λu hu=>by obtain rfl:u=_:=hu;exact⟨.long M_ M_,.flat (.num 108 0 (.inr rfl) M_ M_) (λn l e=>by cases e)⟩)
def BM:svD F W J (QD F (.ty (.leaf 115 p))) (QT F (.ty (.leaf 115 p))) 1 (.iface 141 (.string ⟨#[]⟩)):=
 .leaf (x:=.mk 115 0 ⟨#[]⟩ [] []) rfl (.leaf (.inr (.inr (.inr (.inl ⟨rfl,rfl⟩)))) D_) (λu hu=>by obtain rfl:u=_:=hu;exact⟨.text (λk hk=>absurd hk (Nat.not_lt_zero k)) (by show(0:Nat)<=_;omega),.flat (.text _ (by show(0:Nat)<=_;omega)) (λn l e=>by cases e)⟩)
def MF:svD F W J (QD F (.ty (.wrap 91 p t))) (QT F (.ty (.wrap 91 p t))) 1 (.iface 144 (L_)):=
 .leaf (x:=.mk 91 0 noB [] []) rfl (.leaf x6_ D_) (λu hu=>by obtain rfl:u=_:=hu;exact⟨.list x6_ (λd hd=>by simp at hd),.row (λ_=>.nilIface) (.inl ⟨rfl,rfl⟩) (World.ownsRow_nil _ _ _ _) (λg e=>by simp[Value.ownBlock]at e) (λi d e=>by simp at e)⟩)
def BP:svD F W J (QD F (.ty (.wrap 123 p t))) (QT F (.ty (.wrap 123 p t))) 1 (.iface 147 (L_)):=
 .leaf (x:=.mk 123 0 noB [] []) rfl (.leaf x6_ D_) (λu hu=>by obtain rfl:u=_:=hu;exact⟨.map x6_ rfl trivial (λd hd=>by simp at hd),.map (λ_=>.nilIface) rfl (λk hk=>by simp at hk) (World.ownsRow_nil _ _ _ _) (λg e=>by simp[Value.ownBlock]at e) (λi d e=>by simp at e)⟩)
def GO{q:Nat}{l:As}{o:Ac}(hc:c<256):svD F W J (QD F (.bd p (.enum ((c,q)::l) o))) (QT F (.bd p (.enum ((c,q)::l) o))) 1 (.iface 154 (.agg #[U_ c,O_])):=
 .leaf (x:=.mk 101 ((0:Nat):Int) noB [] []) rfl (.leaf x6_ D_) (λu hu=>by
  obtain⟨k,p',rfl,hb,he⟩:=hu
  refine⟨.sym he hb x6_,.flat (.sym 0 c M_) (λn a e=>?_)⟩
  simp only[Value.iface.injEq,Value.agg.injEq,true_and,Array.mk.injEq,List.cons.injEq,Value.int.injEq,and_true]at e
  obtain⟨b,b⟩:=e
  obtain rfl:n=0:=M_
  obtain rfl:a=c:=M_
  exact⟨by simp[fU,he],hc⟩)
def Kx{x:BA}(hx:cF x)(a:x.size<=9):svD F W J (QD F (.bd p (.bytes x.size))) (QT F (.bd p (.bytes x.size))) 1 (.iface 155 (.string x)):=
 .leaf (x:=.mk 102 0 x [] []) rfl (.leaf x6_ a) (λu hu=>by
  obtain⟨k,p',rfl,hb,he⟩:=hu
  exact⟨.bytes he hb hx,.flat (.bytes x M_) (λn l e=>by cases e)⟩)
end
def kL(W:Aw)(R:Bt)(e:Ak)(w2:Aw):Prop:=∃(n:Nat) (d:Value),e=.returned (.agg #[I_ n,d])/\IfV d/\Blk w2 W.heap.size [O_,.nilIface] 85/\R (.returned (.agg #[I_ n,d])) ((w2.setCell ⟨W.heap.size,0,none⟩ (I_ n)).setCell ⟨W.heap.size,1,none⟩ d)
def yB.ret{α ρ:Type}{P:TP α ρ}{I:TI α}{L:TL}(b:P.OK I L){W f k:Aw}{r:ρ}{rv:Ax}{g:Aq}{T:List (Rw α)}{a:α}{e:Ak}(h:TbI P I L W r rv g T)(hf:Fr W f N_)(hb:Blk f W.heap.size [O_,.nilIface] 85)(hp:yB P I L f r rv g T a e k):kL W (yB P I L W r rv g T a) e k:=by
 obtain⟨r',rv',g',T',n,d,rfl,hn,hd,m,hs,hg,hc,hv⟩:=hp;have hl:=λx (hx:TSS P L rv r x)=>(h.li b hx);have j:=hs.1.bl hb (λe=>o1_ (hl _ e));have l:L.fb<W.heap.size:=by have:=hl L.tb (.inl (.inl rfl));omega
 have i:=J_ k W.heap.size 0 1 (I_ n) d;have hs':=(C_ hf (λ_ h=>h)).trans hs;exact⟨n,d,rfl,hd,j,r',rv',g',T',n,d,rfl,hn,hd,m.put b l j i,⟨hs'.1.trans i (λx hx e=>M_),hs'.2⟩,hg,hc,b.svp _ _ _ _ _ _ _ _ hv j i⟩
section
variable {W:Aw} {R:Bt} {fb:Nat}
def cq6_{p:Prop}(h:p:=by
 refine hq_ λx q=>?_;have i:H_ (∀o,Fr W ((W.alloc (.cells #[O_,.nilIface] 85)).alloc o) N_/\Blk ((W.alloc (.cells #[O_,.nilIface] 85)).alloc o) W.heap.size [O_,.nilIface] 85):=zy (λo=>⟨((A_ W _).alloc _).alloc _,(B_ W _ _).alloc _⟩);have j:H_ (Fr W (W.alloc (.cells #[O_,.nilIface] 85)) N_/\Blk (W.alloc (.cells #[O_,.nilIface] 85)) W.heap.size [O_,.nilIface] 85):=zy ⟨(A_ W _).alloc _,B_ W _ _⟩;replace h:=zy h;go_in;go_wp2_with ((first|go_at_call 87|go_at_call 90|go_at_call 88);apply(h.o _ ?fr ?bl).mono;(case fr=>(first|exact(i.o _).1|exact j.o.1));(case bl=>(first|exact(i.o _).2|exact j.o.2));rintro e C ⟨n,d,rfl,hd,hb,f⟩;have u:=hb.cell 0;have w:=hb.cell 1;have z:=hb.th 0;have B:=hb.th 1;have y:=(λW a m=>run_store prog W a d m hd.one);have b:=(hb.set 0 (I_ n)).set 1 d;have k:=b.cell 0;have l:=b.cell 1;simp only[an_,ap_,aa_,ab_]at u w k l;replace f:=zy f;clear b hb hd);refine bodyPost_ret (v:=.agg #[I_ n,d]) (by simp[results,results50,go_sem,k,l]) rfl ?_;rw[q.o];exact f.o):p:=h
def dE(h:∀W1,Fr W W1 N_->Blk W1 W.heap.size [O_,.nilIface] 85->Calls prog 87 #[.iface 136 (.agg #[])] W1 (kL W R)):Calls prog 50 #[P_ fb,.iface 215 (.agg #[I_ p])] W R:=by
 have cc6:=Nat
 exact cq6_
def oh(h:∀W1,Fr W W1 N_->Blk W1 W.heap.size [O_,.nilIface] 85->Calls prog 87 #[.iface 137 (.bool false)] W1 (kL W R)):Calls prog 50 #[P_ fb,.iface 217 (.agg #[I_ p])] W R:=by
 have cc5:=Nat
 exact cq6_
def JZ(h:∀W1,Fr W W1 N_->Blk W1 W.heap.size [O_,.nilIface] 85->Calls prog 87 #[.iface 139 (O_)] W1 (kL W R)):Calls prog 50 #[P_ fb,.iface 218 (.agg #[I_ p])] W R:=by
 have cc4:=Nat
 exact cq6_
def Yr(h:∀W1,Fr W W1 N_->Blk W1 W.heap.size [O_,.nilIface] 85->Calls prog 87 #[.iface 139 (O_)] W1 (kL W R)):Calls prog 50 #[P_ fb,.iface 219 (.agg #[I_ p])] W R:=by
 exact cq6_
def Yl(h:∀W1,Fr W W1 N_->Blk W1 W.heap.size [O_,.nilIface] 85->Calls prog 87 #[.iface 141 (.string ⟨#[]⟩)] W1 (kL W R)):Calls prog 50 #[P_ fb,.iface 220 (.agg #[I_ p])] W R:=by
 have cc3:=Nat
 exact cq6_
def Yd{vT:Av}{vx:Ax}(h:∀W1,Fr W W1 N_->Blk W1 W.heap.size [O_,.nilIface] 85->Calls prog 87 #[.iface 144 (L_)] W1 (kL W R)):Calls prog 50 #[P_ fb,.iface 222 (.agg #[I_ p,.iface vT vx])] W R:=by
 have cc2:=Nat
 exact cq6_
def Jo{vT:Av}{vx:Ax}(h:∀W1,Fr W W1 N_->Blk W1 W.heap.size [O_,.nilIface] 85->Calls prog 87 #[.iface 147 (L_)] W1 (kL W R)):Calls prog 50 #[P_ fb,.iface 223 (.agg #[I_ p,.iface vT vx])] W R:=by
 have cc1:=Nat
 exact cq6_
def ol{ua:Am}(h:∀W1,Fr W W1 N_->Blk W1 W.heap.size [O_,.nilIface] 85->Calls prog 88 #[P_ fb,.agg #[I_ p,.slice ua un uc]] W1 (kL W R)):Calls prog 50 #[P_ fb,.iface 226 (.agg #[I_ p,.slice ua un uc])] W R:=by
 have cc8:=Nat
 exact cq6_
def iZ{ua:Am}(h:∀W1,Fr W W1 N_->Blk W1 W.heap.size [O_,.nilIface] 85->Calls prog 90 #[P_ fb,.agg #[I_ p,.slice ua un uc]] W1 (kL W R)):Calls prog 50 #[P_ fb,.iface 231 (.agg #[I_ p,.slice ua un uc])] W R:=by
 have cc7:=Nat
 exact cq6_
def Yt{b:Nat}{f:Am}(hn:0<un)(hc:W.cell? ⟨b,1,none⟩=some (U_ c))(h:∀i,Fr W i N_->Blk i W.heap.size [O_,.nilIface] 85->Calls prog 87 #[.iface 154 (.agg #[U_ c,O_])] i (kL W R)):Calls prog 50 #[P_ fb,.iface 236 (.agg #[I_ p,S_ b un uc,.pointer f])] W R:=by
 refine hq_ λi l=>?_;obtain⟨w1,hw1⟩:=e_ ((W.alloc (.cells #[O_,.nilIface] 85)).alloc (.cells #[I_ p,S_ b un uc,.pointer f] 236));have i:Fr W w1 N_:=x9_
 have j:Blk w1 W.heap.size [O_,.nilIface] 85:=xe_
 have k:Blk w1 (W.heap.size+1) [I_ p,S_ b un uc,.pointer f] 236:=by
  rw[hw1];have:=B_ (W.alloc (.cells #[O_,.nilIface] 85)) #[I_ p,S_ b un uc,.pointer f] 236;rw[zm]at this;exact this
 have c1:=k.c1;have f:=i.ke hc;have f:(0:Int)<(un:Int):=M_;have f:=zy (h w1 i j);replace hw1:=zy hw1;go_in;go_upto_region 31 with fail;rw[<- hw1.o];go_wp2_with (go_at_call 87;apply f.o.mono;rintro e f ⟨n,d,rfl,hd,hb,i⟩;have j:=hb.cell 0;have k:=hb.cell 1;have f:=hb.th 0;have f:=hb.th 1;have f:=(λW a m=>run_store prog W a d m hd.one);have f:=(hb.set 0 (I_ n)).set 1 d;have x0:=f.cell 0;have x1:=f.cell 1;simp only[an_,ap_,aa_,ab_]at j k x0 x1;replace i:=zy i);refine bodyPost_ret (v:=.agg #[I_ n,d]) yb_ rfl ?_;rw[l.o];exact i
def od{n0:Nat}(f:ql)(hn:n0<=9)(h:∀b x,Fr W b N_->Blk b W.heap.size [O_,.nilIface] 85->x.size=n0->cF x->Calls prog 87 #[.iface 155 (.string x)] b (kL W R)):Calls prog 50 #[P_ fb,.iface 238 (.agg #[I_ p,I_ n0])] W R:=by
 refine hq_ λb j=>?_;have i:H_ (∀o,Fr W ((W.alloc (.cells #[O_,.nilIface] 85)).alloc o) N_/\Blk ((W.alloc (.cells #[O_,.nilIface] 85)).alloc o) W.heap.size [O_,.nilIface] 85):=zy (λo=>⟨((A_ W _).alloc _).alloc _,(B_ W _ _).alloc _⟩);have b:=zy (λV=>f V n0 hn);replace h:=zy h;have n0:=eu 238 D_;go_in;go_wp2_with (first
  |(go_at_call 91;apply(b.o _).mono;rintro e b ⟨x,rfl,f5,f,b⟩;revert f5 f b;refine h_ λf5 f b=>?_)
  |(go_at_call 87;apply(h.o _ x ((i.o _).1.trans f5 u_) (f5.o.bl (i.o _).2 id) f b).mono;rintro e b ⟨n,d,rfl,hd,hb,f⟩;have i:=hb.cell 0;have k:=hb.cell 1;have b:=hb.th 0;have b:=hb.th 1;have b:=(λW a m=>run_store prog W a d m hd.one);have b:=(hb.set 0 (I_ n)).set 1 d;have x0:=b.cell 0;have x1:=b.cell 1;simp only[an_,ap_,aa_,ab_]at i k x0 x1;replace f:=zy f))
 refine bodyPost_ret (v:=.agg #[I_ n,d]) yb_ rfl ?_;rw[j.o];exact f
end
def Yh{F:FD}(Y:F.OK){W:Aw}{rv:Ax}{g:Aq}{T:Dr}{m:Nat}{G:PB}(f:KOK (dT F) (dI F) (dL F) 89 (λv=>v.headD .nilIface) m)(h:TbI (dT F) (dI F) (dL F) W r rv g T)(hc:zY c=true)(hX:zx F.ds c=some G)(hm:300<=T.length+m):Calls prog 50 #[P_ F.fb,.iface 229 (.agg #[I_ p,U_ c])] W (yB (dT F) (dI F) (dL F) W r rv g T (.ty (.leaf c p))):=by
 obtain⟨Z,L⟩:=y_ (yB (dT F) (dI F) (dL F) W r rv g T (.ty (.leaf c p)));rw[<- L.o];have l:=fG Y;obtain⟨w1,hw1⟩:=e_ ((W.alloc (.cells #[O_,.nilIface] 85)).alloc (.cells #[I_ p,U_ c] 229));have z:Fr W w1 N_:=x9_
 have H:Blk w1 W.heap.size [O_,.nilIface] 85:=xe_
 have y:Blk w1 (W.heap.size+1) [I_ p,U_ c] 229:=by
  rw[hw1];have:=B_ (W.alloc (.cells #[O_,.nilIface] 85)) #[I_ p,U_ c] 229;rw[zm]at this;exact this
 have hl:=λx (hx:TSS (dT F) (dL F) rv r x)=>(h.li l hx);have cl:H_ (∀V,FX F V->Blk V (W.heap.size+1) [I_ p,U_ c] 229->V.cell? ⟨F.fb,4,none⟩=some (P_ F.tb)/\V.cell? ⟨F.fb,0,none⟩=some F.sv/\V.cell? ⟨F.fb,1,none⟩=some (.iface F.sT F.sx)/\V.cell? ⟨W.heap.size+1,1,none⟩=some (U_ c)):=zy (λV hx hb=>⟨hx.b.cell 4,hx.b.cell 0,hx.b.cell 1,hb.cell 1⟩);have a2:H_ (∀V,Fr w1 V N_->Calls prog 71 #[.agg #[F.sv,.iface F.sT F.sx],U_ c] V (λe j=>∃q bx,e=.returned (.iface q bx)/\Fr V j N_/\Calls prog 89 #[P_ F.tb,.iface q bx] j (λe E=>FX F E/\Blk E (W.heap.size+1) [I_ p,U_ c] 229/\kL W Z e E))):=zy (λV B=>by
  have U:=z.trans B u_
  have h1:=h.new l U
  apply(jp (rv:=.iface F.sT F.sx) c h1.i.D).mono
  rintro e j ⟨v,rfl,w,hv⟩
  rw[hX]at hv
  obtain⟨p',q,bx,rfl,hp,a1,_⟩:=rP hv
  refine⟨q,bx,rfl,w,?_⟩
  have f3:=U.trans w u_
  have ok:okQ F (.bd p' G):=⟨hp,c,hX⟩
  apply(f j r rv g T (.bd p' G) [.iface q bx] (h.new l f3) ok ⟨⟨_,rfl,hv,a1⟩,ok⟩ hm).mono
  intro e E k
  have G:=k
  obtain⟨r',rv',g',T',x,he,hx,ha,E,hs,hg⟩:=G
  have u:=B.trans w u_
  refine⟨E.i,hs.1.bl (u.bl y id) (λe=>o1_ (hl _ e)),?_⟩
  rw[L.o]
  exact yB.ret l h f3 (u.bl H id) (ju.name (xM hc) hX k))
 have M:=cl.o w1 (h.new l z).i y;replace hw1:=zy hw1;replace y:=zy y;replace h:=zy h;have E:=zy z;have a0:H_ (∀V,Fr w1 V N_->FX F V):=zy (λV B=>(h.o.new l (E.o.trans B u_)).i);go_in;go_upto_region 25 with fail;rw[<- hw1.o];refine tr_ 13 (λV=>z_ V F.fb 4 (P_ F.tb)/\z_ V F.fb 0 F.sv/\z_ V F.fb 1 (.iface F.sT F.sx)/\z_ V (W.heap.size+1) 1 (U_ c)) ?_;refine tz_ 0 ?_;refine tz_ 1 ?_;refine tz_ 2 ?_;refine tz_ 3 ?_;refine tz_ 4 ?_;refine tz_ 5 ?_;refine tz_ 6 ?_;refine tz_ 7 ?_;refine tz_ 8 ?_;refine tz_ 9 ?_;refine tz_ 10 ?_;refine zh 11 rfl K_ (λ_=>M) (λK f=>?_);go_simp;apply(a2.o _ (A_ w1 _).drew).mono;rintro e j ⟨q,bx,rfl,w,C⟩;refine f _ _ ?_;have u:=(A_ w1 N_).drew.trans w u_;have O:=cl.o j (a0.o _ u) (u.bl y id);replace C:=zy C;refine zh 12 rfl K_ (λ_=>O) (λK f=>?_);go_simp;apply C.o.mono;rintro e j ⟨hx,X,n,d,rfl,hd,hb,l⟩;refine f _ _ ?_;have q:=cl.o j hx X;have j:=hb.cell 0;have y:=hb.cell 1;have f:=hb.th 0;have f:=hb.th 1;have f:=(λW a m=>run_store prog W a d m hd.one);have f:=(hb.set 0 (I_ n)).set 1 d;have x0:=f.cell 0;have x1:=f.cell 1;simp only[an_,ap_,aa_,ab_]at j y x0 x1;replace l:=zy l;refine t1_ 13 q ?_;refine td_ ?_ _;go_wp2;refine bodyPost_ret (v:=.agg #[I_ n,d]) yb_ rfl ?_;exact l
def lO{F:FD}(j:F.OK)(K:ql){m:Nat}(B:KOK (dT F) (dI F) (dL F) 89 (λv=>v.headD .nilIface) m):FOK (dT F) (dI F) (dL F) 50 (P_ F.fb) (λv=>v.headD .nilIface) m:=by
 intro W r rv g T a v h ha hv hm;obtain⟨hv,z⟩:=hv;have w:=fG j;have C:300<=T.length+m:=hm;have al:∀{q:Qu} {T1:TypeId} {x1:Value},ClD F T q 1->(∀V J,svD F V J (QD F q) (QT F q) 1 (.iface T1 x1))->∀f,Fr W f N_->Blk f W.heap.size [O_,.nilIface] 85->Calls prog 87 #[.iface T1 x1] f (kL W (yB (dT F) (dI F) (dL F) W r rv g T q)):=λ{q T1 x1} hc hsv f hf hb=>nR.mono (λe E k=>by
  obtain⟨rfl,G⟩:=k
  exact yB.ret w h hf hb (yB.leaf j (h.new w hf) G hc (hsv _)))
 cases a with
 |ty t=>
  obtain⟨u,rfl,ty⟩:=hv;show Calls prog 50 #[P_ F.fb,u] W _;cases ty with
  |base c p hb=>
   have y:ClD F T (.ty (.leaf c p)) 1:=by
    show if zi c=true then (1:Nat)=1 else _;rw[i_ hb]
   simp only[zi,ay_,beq_iff_eq]at hb;rcases hb with(((rfl|rfl)|rfl)|rfl)|rfl
   .exact dE (al y (λ_ _=>BC))
   .exact oh (al y (λ_ _=>BU))
   .exact JZ (al y (λ_ _=>BH))
   .exact Yr (al y (λ_ _=>BL))
   .exact Yl (al y (λ_ _=>BM))
  |name c p hn=>
   have ho:=z.2.1;unfold okT at ho;rcases ho with ho|⟨_,X,hX⟩
   .rw[xM hn]at ho;cases ho
   .exact Yh j B h hn hX C
  |wrap c p ht=>
   obtain⟨Y,Z,rfl⟩:=ht.iface;have ho:=z.2.1;unfold okT at ho;rcases ho.1 with rfl|rfl
   .exact Yd (al rfl (λ_ _=>MF))
   .exact Jo (al rfl (λ_ _=>BP))
  |alts p X ho hP hX=>
   obtain⟨L,uc,rfl⟩:=zw ho;exact ol (λf hf hb=>(Qq j B (h.new w hf) (zj ho hf u_) hP (λi t e=>(hX i t e).fr hf u_) z C).mono (λe E k=>yB.ret w h hf hb k))
 |bd p X=>
  obtain⟨u,rfl,hb,hp⟩:=hv;show Calls prog 50 #[P_ F.fb,u] W _;cases hb with
  |recd p' ho hP hX hpp=>
   have e:(p':Int)=(p:Int):=by simpa[Ux] using hp
   obtain rfl:p'=p:=M_;obtain⟨L,uc,rfl⟩:=zw ho;exact iZ (λf hf hb=>(FR j B (h.new w hf) (zj ho hf u_) hP (hX.fr hf u_) z C).mono (λe E k=>yB.ret w h hf hb k))
  |enum p' ho hP hu hpp=>
   rename_i l o sv uv;obtain⟨c,q,O,rfl⟩:=Fh hpp;obtain⟨b,M,rfl⟩:=zg ho x6_;obtain⟨U,rfl⟩:=hu.ptr;obtain⟨_,k,hk⟩:=z;have hs:=(j.g k _ hk).1.2.1 (c,q) x6_;have hc:c<256:=by
    have:97<=c/\c<=122:=by simpa[zl] using hs
    omega
   exact Yt x6_ (zr ho rfl (by simp[zE])) (al rfl (λ_ _=>GO hc))
  |bytes p' n hpp=>
   exact od K (aB hpp) (λf x hf hb hx H=>by
    subst hx
    exact al (q:=.bd p (.bytes x.size)) rfl (λ_ _=>Kx H (aB hpp)) f hf hb)
def qF:∀a W,(callFunc 50 a).run prog W=.ok (.enter 50 a) W:=qZ func50 K_ rfl
def rJ{F:FD}(b:F.OK)(f:ql):∀m,KOK (dT F) (dI F) (dL F) 89 (λv=>v.headD .nilIface) m:=by
 intro m;induction m with
 |zero=>exact nf (oN b) (fG b) qF (λW a v h=>ZJ b h.1 h.2) M_ (λi e=>by cases e)
 |succ m ih=>exact nf (oN b) (fG b) qF (λW a v h=>ZJ b h.1 h.2) M_ (λi e=>by cases e;exact lO b f ih)
def bI{F:FD}(b:F.OK)(o:ql){W:Aw}{rv:Ax}{T:Dr}{uT:Av}{ux:Ax}(h:TbI (dT F) (dI F) (dL F) W () rv false T)(y:Gd (ClD F) T)(ty:TyV W F.P t (.iface uT ux))(ok:okQ F (.ty t)):Calls prog 158 #[P_ F.tb,.iface uT ux] W (cg (dT F) (dI F) (dL F) W () rv (.ty t)):=by
 have j:=fG b;have qv:(dT F).QV W (.ty t) [.iface uT ux]:=⟨⟨_,rfl,ty⟩,ok⟩
 have l:=@Kq Qu Unit (dT F) (λq=>Z_ (bo q:Int)) (okQ F) bo 300 F.fb F.tb F.mb (.func (.methodOf 46 "Place") #[] #[]) (.func (.func 50) #[P_ F.fb] #[]) W () rv T (.ty t) uT ux (oN b) j h y qv M_
 have y:dI F=ID (λq=>Z_ (bo q:Int)) (okQ F) bo 300:=rfl
 have z:dL F=⟨F.fb,F.tb,F.mb,.func (.methodOf 46 "Place") #[] #[],.func (.func 50) #[P_ F.fb] #[]⟩:=rfl
 rw[<- y,<- z]at l;refine l ?_ ?_ ?_
 .intro V l;have y:=j.qv _ _ _ _ _ qv l (λ_ f=>f.elim);have k:=rJ b o 300 V () rv false T (.ty t) [.iface uT ux] (h.new j l) ok y (by show 300<=_;omega);exact k
 .intro V r rv g T l y ha;have k:=mC (oN b) j (λW a v h=>ZJ b h.1 h.2) l y ha;exact k
 .intro V r rv g T i x l hx;have z:=ai_ hx;have k:=PE (oN b) j (λw n m dv kv=>jA) qF l hx (λW' u y e=>by
   have k:=lO b o (rJ b o 300) W' r rv g T x.a x.v (l.new j y) (l.t.q x z).1 (j.qv _ _ _ _ _ (l.v x z).2 y (λ_ f=>f.elim)) (by show 300<=_;omega)
   rw[e]at k
   exact k)
  exact k
section
variable {α ρ:Type} {P:TP α ρ} {kv:α->Value} {Q:α->Prop} {num:α->Nat} {N fb tb mb:Nat} {kf:Ax} {fn:Et} {fa:Ax}
def TbI.cellsU{W:Aw}{r:ρ}{rv:Ax}{g:Aq}{T:List (Rw α)}{L:TL}(h:TbI P (IU kv Q num N) L W r rv g T){i:Nat}{x:Rw α}(hx:T[i]?=some x):∃b j u u',rv=S_ b T.length j/\x.v=[u,u']/\W.cell? ⟨b,i*4,none⟩=some u/\W.cell? ⟨b,i*4+1,none⟩=some u'/\W.cell? ⟨b,i*4+2,none⟩=some (I_ x.n)/\W.cell? ⟨b,i*4+2+1,none⟩=some x.d/\W.frozen? ⟨b,i*4+2,none⟩=false/\W.frozen? ⟨b,i*4+2+1,none⟩=false:=by
 obtain⟨b,j,e,h1⟩:=h.t.cell hx;have hl:x.v.length=2:=(h.t.q x (ai_ hx)).2.1;obtain⟨u,u',hu⟩:∃u u',x.v=[u,u']:=by
  match hv:x.v,hl with
  | [u,u'],_=>exact⟨u,u',rfl⟩
 have k:=h1 0 (by show 0<2+2;omega);have l:=h1 1 (by show 1<2+2;omega);have a:=h1 2 (by show 2<2+2;omega);have f:=h1 3 (by show 3<2+2;omega);simp only[Rw.cells,hu]at k l a f;exact⟨b,j,u,u',e,hu,k.1,l.1,a.1,f.1,a.2,f.2⟩
def PI{W:Aw}{r:ρ}{rv:Ax}{g:Aq}{T:List (Rw α)}{i:Nat}{x:Rw α}(H:(IU kv Q num N).OK)(j:P.OK (IU kv Q num N) ⟨fb,tb,mb,kf,.func (.func fn) #[fa] #[]⟩)(hB:∀(w:World) (n m:Nat) (dv kv:Value),Calls prog 202 #[.agg #[I_ n,dv],.agg #[I_ m,kv]] w λe w'=>e=.returned (.bool (btr n m))/\Fr w w' N_)(a7:∀a3 W,(callFunc fn a3).run prog W=.ok (.enter fn a3) W)(h:TbI P (IU kv Q num N) ⟨fb,tb,mb,kf,.func (.func fn) #[fa] #[]⟩ W r rv g T)(hx:T[i]?=some x)(E:∀W' u u',Fr W W' N_->x.v=[u,u']->Calls prog fn #[fa,.agg #[u,u']] W' (yB P (IU kv Q num N) ⟨fb,tb,mb,kf,.func (.func fn) #[fa] #[]⟩ W' r rv g T x.a)):Calls prog 55 #[P_ tb,I_ i] W (cm P (IU kv Q num N) ⟨fb,tb,mb,kf,.func (.func fn) #[fa] #[]⟩ W r rv g T i):=by
 obtain⟨a2,L⟩:=y_ (cm P (IU kv Q num N) ⟨fb,tb,mb,kf,.func (.func fn) #[fa] #[]⟩ W r rv g T i);rw[<- L.o];obtain⟨b,a4,u,u',rfl,hu,Y,Z,e1,e2,-,-⟩:=h.cellsU hx;have hi:=(ak_.1 hx).1;have a8:(i:Int)<(T.length:Int):=M_;have c1:=h.t.b.c1;have c2:=h.t.b.c2;have a1:=zy (λW' hW=>E W' u u' hW hu);replace h:=zy h;replace hx:=zy hx;replace hB:=zy hB;go_in;go_upto_region 0 with fail;go_cut [4] (λv V=>∃q r' rv' g' T' n d,v=P_ q/\H_ (LkM P (IU kv Q num N) ⟨fb,tb,mb,kf,.func (.func fn) #[fa] #[]⟩ W r (S_ b T.length a4) g T x.a q r' rv' g' T' n d V));case first=>
  refine tr_ 12 (λV=>z_ V tb 1 (.func (.func fn) #[fa] #[])/\z_ V tb 2 (S_ b T.length a4)/\z_ V b (i*4) u/\z_ V b (i*4+1) u') ?_;refine tB_ 0 [1,2,3,12] ?_;refine tB_ 1 [2,3,12] ?_;refine tB_ 2 [3,12] ?_;refine tB_ 3 [12] ?_;refine tB_ 4 [5,6,7,9,10,11,12] ?_;refine tB_ 5 [6,7,9,10,11,12] ?_;refine tB_ 6 [7,9,10,11,12] ?_;refine tB_ 7 [9,10,11,12] ?_;refine tB_ 8 [9,10,11,12] ?_;refine tB_ 9 [10,11,12] ?_;refine tB_ 10 [11,12] ?_;refine tB_ 11 [12] ?_;refine jV 12 13 rfl rfl K_ (λ_=>⟨c1,c2,Y,Z⟩) (λK l=>?_) (λK l=>?_)
  .go_simp;apply(a1.o _ (A_ W _).drew).mono;rintro e w1 ⟨r',rv',g',T',n,d,rfl,hn,hd,f,hs,hg,hc,hv⟩;refine l _ _ ?_;have sD:=λW a m=>run_store prog W a d m hd.one;have k:=(A_ w1 N_).alloc (.cells #[I_ n,d] 85);have fin:=zy (LkM.new j h (A_ W _).drew hn hd (f.new j k) (hs.trans (C_ k (λ_ h=>h))) hg hc (j.sv _ _ _ _ _ _ _ hv (C_ k (λ_ h=>h))) (B_ w1 #[I_ n,d] 85) hs.1.size);refine t0_ 13 ?_;refine t0_ 14 ?_;refine td_ ?_ _;go_wp2;go_meet;exact⟨_,_,_,_,_,_,_,rfl,fin⟩
  .go_simp;refine l _ _ ?_;have k:=(A_ W N_).alloc (.cells #[O_,.nilIface] 85);have G:=B_ W #[O_,.nilIface] 85;have B:=((h.o.t.new k).b.cell 1);have C:=((h.o.t.new k).b.cell 2);have O:(W.alloc (.cells #[O_,.nilIface] 85)).cell? ⟨b,i*4,none⟩=some u:=by
    have:=k.block b (h.o.t.li (x:=b) (.inr (.inr rfl))).2 id;rw[World.cell?_of_block this];exact Y
   have U:(W.alloc (.cells #[O_,.nilIface] 85)).cell? ⟨b,i*4+1,none⟩=some u':=by
    have:=k.block b (h.o.t.li (x:=b) (.inr (.inr rfl))).2 id;rw[World.cell?_of_block this];exact Z
   simp only[aa_,ab_]at B C;refine zh 12 rfl K_ (λ_=>⟨B,C,O,U⟩) (λK l=>?_);go_simp;apply(a1.o _ k.drew).mono;rintro e w1 ⟨r',rv',g',T',n,d,rfl,hn,hd,f,hs,hg,hc,hv⟩;refine l _ _ ?_;have sD:=λW a m=>run_store prog W a d m hd.one;have z:Blk w1 W.heap.size [O_,.nilIface] 85:=hs.1.bl G.drew (λe=>absurd (h.o.li j e).2 (a5_ _));have fin:=zy (LkM.of j h k.drew hn hd f hs hg hc hv z l_);have k0:=z.c0;have X:=z.c1;have X:=z.th 0;have X:=z.th 1;refine t0_ 14 ?_;refine td_ ?_ _;go_wp2;go_meet;exact⟨_,_,_,_,_,_,_,rfl,fin⟩
 case rest=>
  obtain⟨q,r',rv',g',T',n,d,rfl,hM⟩:=hcut;obtain⟨hn,hd,f,hs,hg,hc,hv,hb,Y,Y⟩:=hM.o;obtain⟨R,rfl,g1,g2,g3⟩:=hg;have G:(T++R)[i]?=some x:=by rw[ar_ hi];exact hx
  obtain⟨k,X,Y,Y,rfl,hu,a0,a9,O,U,B,C⟩:=f.cellsU G;have Y:(i:Int)<((T++R).length:Int):=by rw[ag_];omega
  have a5:=((f.t.q x (ai_ G)).2.2.2).one;have c2:=f.t.b.c2;have t4:=f.t.b.th 4;have c4:=f.t.b.c4;have q0:=hb.c0;have q1:=hb.c1;have Y:=λW a m=>run_store prog W a d m hd.one;have Y:=rC;have Y:k≠tb:=λe=>(f.t.apart H).2.1 zn_;have Z:=Ne.symm Y;have no:H_ (∀V,Fr wc V N_->btr n x.n=false->a2 (.returned (.tuple #[])) V):=zy (λV z e=>by
   rw[L.o]
   exact⟨r',_,g',T++R,rfl,f.new j z,hs.trans (C_ z (λ_ h=>h)),R,g1,.inl ⟨rfl,g2,λe'=>⟨g3 e',λy hy=>by rw[hx.o]at hy;cases hy;exact⟨n,hc,e⟩⟩⟩⟩)
  have a6:H_ (∀V,Fr wc V N_->btr n x.n=true->a2 (.returned (.tuple #[])) (((V.setCell ⟨k,i*4+2,none⟩ (I_ n)).setCell ⟨k,i*4+2+1,none⟩ d).setCell ⟨tb,4,none⟩ (.bool true)).drew):=zy (λV z e=>by
   have h1:=f.new j z
   have Y:=((h1.t.set H G hn hd).flag H true).new (A_ _ _).drew
   have E:Fr V (((V.setCell ⟨k,i*4+2,none⟩ (I_ n)).setCell ⟨k,i*4+2+1,none⟩ d).setCell ⟨tb,4,none⟩ (.bool true)).drew (TbS tb mb (S_ k (T++R).length X)):=(((J_ V k _ _ _ _).mono (λx _ e=>.inr (.inr zn_))).setCell _ _ (λ_=>.inl rfl)).drew
   have h3:=h1.turn j (rv':=S_ k (T++R).length X) ⟨E,λ_ _ h=>h⟩ Y (λy hy=>by
    rcases List.mem_or_eq_of_mem_set hy with hy|rfl
    .exact .inl hy
    .refine .inr ⟨j.sv _ _ _ _ _ _ _ (j.sv _ _ _ _ _ _ _ hv (C_ z (λ_ h=>h))) ⟨E.mono (λ_ _ e=>.inl e),λ_ _ h=>h⟩,?_⟩
     exact j.qv _ _ _ _ _ (h1.v x (ai_ G)).2 E (λy hy=>(h1.t.li hy).1))
   rw[L.o]
   exact⟨r',_,true,_,rfl,h3.1,(hs.trans (C_ z (λ_ h=>h))).trans h3.2,R,λ_=>rfl,.inr ⟨rfl,x,n,d,hx,e,hn,rfl⟩⟩)
  generalize x.n=xn at *;generalize x.d=xd at *;generalize (T++R).length=M at *;go_wp2;refine tr_ 10 (λV=>z_ V tb 2 (S_ k M X)/\z_ V q 0 (I_ n)/\z_ V q 1 d/\z_ V k (i*4+2) (I_ xn)/\z_ V k (i*4+2+1) xd) ?_;refine tB_ 0 [1,10] ?_;refine tB_ 1 [10] ?_;refine tB_ 2 [3,4,5,7,8,9,10] ?_;refine tB_ 3 [4,5,7,8,9,10] ?_;refine tB_ 4 [5,7,8,9,10] ?_;refine tB_ 5 [7,8,9,10] ?_;refine tB_ 6 [7,8,9,10] ?_;refine tB_ 7 [8,9,10] ?_;refine tB_ 8 [9,10] ?_;refine tB_ 9 [10] ?_;refine zh 10 rfl K_ (λ_=>⟨c2,q0,q1,O,U⟩) (λK l=>?_);go_simp;apply(hB.o _ n xn d xd).mono;rintro e w2 ⟨rfl,j⟩;refine l _ _ ?_;have f:Fr wc w2 N_:=(A_ wc _).drew.trans j u_;have l:=f.keepF O B;have l:=f.keepF U C;have l:=f.keepF c4 t4;have l:=f.ke c2;have z:=f.ke c4;have z:=f.ke q0;have E:=f.ke q1;replace O:=f.ke O;replace U:=f.ke U;replace f:=zy f;refine td_ ?_ _;cases j:btr n xn
  .go_wp2;go_end0;exact no.o _ f j
  .go_wp2;refine tr_ 8 (λV=>z_ V tb 2 (S_ k M X)/\z_ V q 0 (I_ n)/\z_ V q 1 d) ?_;refine tz_ 0 ?_;refine tz_ 1 ?_;refine tz_ 2 ?_;refine tz_ 3 ?_;refine tz_ 4 ?_;refine tz_ 5 ?_;refine tB_ 6 [7,8] ?_;refine tz_ 7 ?_;refine t1_ 8 ⟨l,z,E⟩ ?_;refine td_ ?_ _;go_wp2;go_end0;exact a6.o _ f j
end
end Go.Proofs.YtokgeopihcopeaaGreatDoor
