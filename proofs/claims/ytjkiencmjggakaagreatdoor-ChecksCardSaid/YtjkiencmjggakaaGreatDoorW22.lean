import Derived.Test.YtjkiencmjggakaaGreatDoorW21
import Derived.WideKeyPair
import Derived.DeepKeys4
set_option maxHeartbeats 16000000
set_option maxRecDepth 100000
set_option linter.unusedVariables false
set_option linter.defProp false
set_option linter.unusedSimpArgs false
open Go.Proofs.Tryz
namespace Go.Proofs.YtjkiencmjggakaaGreatDoor
open Go.RowKit
variable {p n c b un uc:Nat}{rv:Value}{g:Bool}{s:BA}{T:List (Rw Qu)}{t:PT}{r:Unit}
def Yi:∀{n i:Nat}{l:List (Nat×Nat)}{j:Nat},vA s n i=.ok (l,j)->∃c q r,l=(c,q)::r
 | 0,i,l,j,h=>by simp[vA]at h
 |n+1,i,l,j,h=>by
  unfold vA at h;split at h
  .split at h
   .split at h
    .cases h
    .simp only[ag_,ad_]at h;exact⟨_,_,_,h.1.symm⟩
   .simp only[ag_,ad_]at h;exact⟨_,_,_,h.1.symm⟩
  .cases h
def ZY{l:List (Nat×Nat)}{o:Option (Nat×Nat)}(h:pB s p (.enum l o)):∃c q r,l=(c,q)::r:=by
 obtain⟨j,h⟩:=h;unfold yZ at h;split at h
 .split at h<;>cases h
 .split at h
  .split at h
   .cases h
   .rename_i d f j' hp;simp only[ag_,ad_,PB.enum.injEq]at h;obtain⟨⟨rfl,rfl⟩,_⟩:=h;unfold xz at hp;split at hp
    .split at hp
     .cases hp
     .rename_i l1 e hs;have hl:l1=d:=by
       split at hp
       .split at hp
        .split at hp
         .simp only[ag_,ad_]at hp;exact hp.1.1
         .cases hp
        .cases hp
       .split at hp
        .simp only[ag_,ad_]at hp;exact hp.1.1
        .cases hp
      subst hl;exact Yi hs
    .cases hp
  .split at h
   .split at h<;>cases h
   .cases h
def ij(h:pB s p (.bytes n)):n<=9:=by
 obtain⟨j,h⟩:=h;unfold yZ at h;split at h
 .split at h<;>cases h
 .split at h
  .split at h<;>cases h
  .split at h
   .split at h
    .simp only[ag_,ad_,PB.bytes.injEq]at h;omega
    .cases h
   .cases h
def svD.conv{F:FD}{W:World}{J:Nat->Prop}{D i:DT->Prop}{A f:PT->Prop}{d:Value}(h:svD F W J D A n d)(k:∀x,D x->i x)(j:∀u,f u->A u):svD F W J i f n d:=by
 refine⟨h.1,λe=>?_⟩;obtain⟨x,l,m,q⟩:=h.2 e;exact⟨x,k x l,m,λe' u hu=>q e' u (j u hu)⟩
def svD.leaf{F:FD}{W:World}{J:Nat->Prop}{q:Qu}{x:DT}{v:Value}(h1:ndT x=1)(h:∀u,QT F q u->Dat (zx F.ds) x u/\DaV (zx F.ds) W J x u v):svD F W J (QD F q) (QT F q) 1 v:=
 ⟨λe=>M_,λ_=>⟨x,λu hu=>(h u hu).1,by unfold nd3;rw[h1];rfl,λ_ u hu=>(h u hu).2⟩⟩
def yi.leaf{F:FD}(f:F.OK){W W':World}{a:Qu}{d:TypeId}{e:Value}(h:TbI (dT F) (dI F) (dL F) W r rv g T)(hf:Fr W W' N_)(hc:ClD F T a 1)(hv:∀J,svD F W' J (QD F a) (QT F a) 1 (.iface d e)):yi (dT F) (dI F) (dL F) W r rv g T a (.returned (.agg #[z_ 1,.iface d e])) W':=
 ⟨r,rv,g,T,1,.iface d e,rfl,M_,.inr ⟨_,_,rfl⟩,h.new (gc f) hf,E_ hf (λ_ h=>h),Grw.refl _ _,hc,hv _⟩
def vN.name{F:FD}{W W':World}{p':Nat}{X:PB}{e:Ending}(hb:zu c=false)(hc:zx F.ds c=some X)(h:vN (dT F) (dI F) (dL F) W r rv g T (.bd p' X) e W'):yi (dT F) (dI F) (dL F) W r rv g T (.ty (.leaf c p)) e W':=by
 obtain⟨r',rv',g',T',x,rfl,hx,ha,f,hs,hg⟩:=h;have i:=(f.t.q x hx).2.2;refine⟨r',rv',g',T',x.n,x.d,rfl,i.1,i.2,f,hs,hg,?_,?_⟩
 .show ClD F T' (.ty (.leaf c p)) x.n;simp only[ClD];rw[n_ (by simp[hb])];exact⟨p',X,hc,x,hx,ha,rfl⟩
 .have h1:=(f.v x hx).1;rw[ha]at h1;exact svD.conv h1 (λy hy u hu=>hy u ⟨c,p,hu,hb,hc⟩) (λu hu=>⟨c,p,hu,hb,hc⟩)
def jM:Prop:=∀(W:World) (n:Nat),n<=9->Calls prog 80 #[.string ⟨#[97]⟩,I_ n] W λe w'=>∃x,e=.returned (.string x)/\Fr W w' N_/\x.size=n/\Vh x
section
variable {F:FD} {W:World} {J:Nat->Prop}
def GB:svD F W J (QD F (.ty (.leaf 110 p))) (QT F (.ty (.leaf 110 p))) 1 (.iface 134 (.agg #[])):=
 .leaf (x:=.mk 110 0 noB [] []) rfl (λu hu=>by obtain rfl:u=_:=hu;exact⟨.null,.flat .nothing (λn l e=>by cases e)⟩)
def GF:svD F W J (QD F (.ty (.leaf 116 p))) (QT F (.ty (.leaf 116 p))) 1 (.iface 135 (.bool false)):=
 .leaf (x:=.mk 116 0 noB [] []) rfl (λu hu=>by obtain rfl:u=_:=hu;exact⟨.bool (n:=0) M_,.flat (.truth false) (λn l e=>by cases e)⟩)
def GM:svD F W J (QD F (.ty (.leaf 105 p))) (QT F (.ty (.leaf 105 p))) 1 (.iface 137 (O_)):=
 .leaf (x:=.mk 105 0 noB [] []) rfl (λu hu=>by obtain rfl:u=_:=hu;exact⟨.num M_ M_,.flat (.num 105 0 (.inl rfl) M_ M_) (λn l e=>by cases e)⟩)
def GU:svD F W J (QD F (.ty (.leaf 108 p))) (QT F (.ty (.leaf 108 p))) 1 (.iface 137 (O_)):=
 .leaf (x:=.mk 108 0 noB [] []) rfl (λu hu=>by obtain rfl:u=_:=hu;exact⟨.long M_ M_,.flat (.num 108 0 (.inr rfl) M_ M_) (λn l e=>by cases e)⟩)
def GP:svD F W J (QD F (.ty (.leaf 115 p))) (QT F (.ty (.leaf 115 p))) 1 (.iface 139 (.string ⟨#[]⟩)):=
 .leaf (x:=.mk 115 0 ⟨#[]⟩ [] []) rfl (λu hu=>by obtain rfl:u=_:=hu;exact⟨.text (λk hk=>absurd hk (bt_ k)) (by show(0:Nat)<=_;omega),.flat (.text _ (by show(0:Nat)<=_;omega)) (λn l e=>by cases e)⟩)
def Pt:svD F W J (QD F (.ty (.wrap 91 p t))) (QT F (.ty (.wrap 91 p t))) 1 (.iface 142 (L_)):=
 .leaf (x:=.mk 91 0 noB [] []) rfl (λu hu=>by obtain rfl:u=_:=hu;exact⟨.list (by simp) (λd hd=>by simp at hd),.row (λ_=>.nilIface) (.inl ⟨rfl,rfl⟩) (World.ownsRow_nil _ _ _ _) (λg e=>by simp[Value.ownBlock]at e) (λi d e=>by simp at e)⟩)
def GG:svD F W J (QD F (.ty (.wrap 123 p t))) (QT F (.ty (.wrap 123 p t))) 1 (.iface 145 (L_)):=
 .leaf (x:=.mk 123 0 noB [] []) rfl (λu hu=>by obtain rfl:u=_:=hu;exact⟨.map (by simp) rfl trivial (λd hd=>by simp at hd),.map (λ_=>.nilIface) rfl (λk hk=>by simp at hk) (World.ownsRow_nil _ _ _ _) (λg e=>by simp[Value.ownBlock]at e) (λi d e=>by simp at e)⟩)
def Kd{q:Nat}{l:List (Nat×Nat)}{o:Option (Nat×Nat)}(hc:c<256):svD F W J (QD F (.bd p (.enum ((c,q)::l) o))) (QT F (.bd p (.enum ((c,q)::l) o))) 1 (.iface 152 (.agg #[U_ c,O_])):=
 .leaf (x:=.mk 101 ((0:Nat):Int) noB [] []) rfl (λu hu=>by
  obtain⟨k,p',rfl,hb,he⟩:=hu
  refine⟨.sym he hb (by simp),.flat (.sym 0 c M_) (λn d e=>?_)⟩
  simp only[Value.iface.injEq,Value.agg.injEq,true_and,Array.mk.injEq,List.cons.injEq,Value.int.injEq,and_true]at e
  obtain⟨f,h⟩:=e
  obtain rfl:n=0:=M_
  obtain rfl:d=c:=M_
  exact⟨by simp[sk,he],hc⟩)
def VD{x:BA}(hx:Vh x)(d:x.size<=9):svD F W J (QD F (.bd p (.bytes x.size))) (QT F (.bd p (.bytes x.size))) 1 (.iface 153 (.string x)):=
 .leaf (x:=.mk 102 0 x [] []) rfl (λu hu=>by
  obtain⟨k,p',rfl,hb,he⟩:=hu
  exact⟨.bytes he hb hx,.flat (.bytes x M_) (λn l e=>by cases e)⟩)
end
def qS(W:World)(R:Ending->World->Prop)(e:Ending)(w2:World):Prop:=∃(n:Nat) (d:Value),e=.returned (.agg #[I_ n,d])/\IfV d/\Blk w2 W.heap.size [O_,.nilIface] 88/\R (.returned (.agg #[I_ n,d])) ((w2.setCell ⟨W.heap.size,0,none⟩ (I_ n)).setCell ⟨W.heap.size,1,none⟩ d)
def yi.ret{α ρ:Type}{P:TP α ρ}{I:TI α}{L:TL}(f:P.OK I L){W i l:World}{r:ρ}{T:List (Rw α)}{a:α}{e:Ending}(h:TbI P I L W r rv g T)(hf:Fr W i N_)(hb:Blk i W.heap.size [O_,.nilIface] 88)(hp:yi P I L i r rv g T a e l):qS W (yi P I L W r rv g T a) e l:=by
 obtain⟨r',rv',g',T',n,d,rfl,hn,hd,q,hs,hg,hc,hv⟩:=hp;have hl:=λx (hx:TSS P L rv r x)=>(h.li f hx);have k:=hs.1.bl hb (λe=>by have:=hl _ e;omega);have m:L.fb<W.heap.size:=by have:=hl L.tb (.inl (.inl rfl));omega
 have j:=V_ l W.heap.size 0 1 (I_ n) d;have hs':=(E_ hf (λ_ h=>h)).trans hs;exact⟨n,d,rfl,hd,k,r',rv',g',T',n,d,rfl,hn,hd,q.put f m k j,⟨hs'.1.trans j (λx hx e=>M_),hs'.2⟩,hg,hc,f.svp _ _ _ _ _ _ _ _ hv k j⟩
section
variable {W:World} {R:Ending->World->Prop} {fb:Nat}
def cq5_{p:Prop}(h:p:=by
 refine hq_ λz u=>?_;have j:H_ (∀o,Fr W ((W.alloc (.cells #[O_,.nilIface] 88)).alloc o) N_/\Blk ((W.alloc (.cells #[O_,.nilIface] 88)).alloc o) W.heap.size [O_,.nilIface] 88):=zy (λo=>⟨((A_ W _).alloc _).alloc _,(B_ W _ _).alloc _⟩);have k:H_ (Fr W (W.alloc (.cells #[O_,.nilIface] 88)) N_/\Blk (W.alloc (.cells #[O_,.nilIface] 88)) W.heap.size [O_,.nilIface] 88):=zy ⟨(A_ W _).alloc _,B_ W _ _⟩;replace h:=zy h;go_in;go_wp2_with ((first|go_at_call 76|go_at_call 79|go_at_call 77);apply(h.o _ ?fr ?bl).mono;(case fr=>(first|exact(j.o _).1|exact k.o.1));(case bl=>(first|exact(j.o _).2|exact k.o.2));rintro e D ⟨n,d,rfl,hd,hb,i⟩;have x:=hb.cell 0;have y:=hb.cell 1;have B:=hb.th 0;have C:=hb.th 1;have A:=(λW a m=>run_store prog W a d m hd.one);have f:=(hb.set 0 (I_ n)).set 1 d;have l:=f.cell 0;have q:=f.cell 1;simp only[am_,an_,aa_,ab_]at x y l q;replace i:=zy i;clear f hb hd);refine bodyPost_ret (v:=.agg #[I_ n,d]) (by simp[results,results48,go_sem,l,q]) rfl ?_;rw[u.o];exact i.o):p:=h
def lj(h:∀W1,Fr W W1 N_->Blk W1 W.heap.size [O_,.nilIface] 88->Calls prog 76 #[.iface 134 (.agg #[])] W1 (qS W R)):Calls prog 48 #[P_ fb,.iface 199 (.agg #[I_ p])] W R:=by
 exact cq5_
def iK(h:∀W1,Fr W W1 N_->Blk W1 W.heap.size [O_,.nilIface] 88->Calls prog 76 #[.iface 135 (.bool false)] W1 (qS W R)):Calls prog 48 #[P_ fb,.iface 201 (.agg #[I_ p])] W R:=by
 exact cq5_
def Xt(h:∀W1,Fr W W1 N_->Blk W1 W.heap.size [O_,.nilIface] 88->Calls prog 76 #[.iface 137 (O_)] W1 (qS W R)):Calls prog 48 #[P_ fb,.iface 202 (.agg #[I_ p])] W R:=by
 exact cq5_
def oz(h:∀W1,Fr W W1 N_->Blk W1 W.heap.size [O_,.nilIface] 88->Calls prog 76 #[.iface 137 (O_)] W1 (qS W R)):Calls prog 48 #[P_ fb,.iface 203 (.agg #[I_ p])] W R:=by
 exact cq5_
def aA(h:∀W1,Fr W W1 N_->Blk W1 W.heap.size [O_,.nilIface] 88->Calls prog 76 #[.iface 139 (.string ⟨#[]⟩)] W1 (qS W R)):Calls prog 48 #[P_ fb,.iface 204 (.agg #[I_ p])] W R:=by
 exact cq5_
def oq{vT:TypeId}{vx:Value}(h:∀W1,Fr W W1 N_->Blk W1 W.heap.size [O_,.nilIface] 88->Calls prog 76 #[.iface 142 (L_)] W1 (qS W R)):Calls prog 48 #[P_ fb,.iface 206 (.agg #[I_ p,.iface vT vx])] W R:=by
 exact cq5_
def Xd{vT:TypeId}{vx:Value}(h:∀W1,Fr W W1 N_->Blk W1 W.heap.size [O_,.nilIface] 88->Calls prog 76 #[.iface 145 (L_)] W1 (qS W R)):Calls prog 48 #[P_ fb,.iface 207 (.agg #[I_ p,.iface vT vx])] W R:=by
 exact cq5_
def iQ{ua:Option Addr}(h:∀W1,Fr W W1 N_->Blk W1 W.heap.size [O_,.nilIface] 88->Calls prog 77 #[P_ fb,.agg #[I_ p,.slice ua un uc]] W1 (qS W R)):Calls prog 48 #[P_ fb,.iface 210 (.agg #[I_ p,.slice ua un uc])] W R:=by
 exact cq5_
def tG{ua:Option Addr}(h:∀W1,Fr W W1 N_->Blk W1 W.heap.size [O_,.nilIface] 88->Calls prog 79 #[P_ fb,.agg #[I_ p,.slice ua un uc]] W1 (qS W R)):Calls prog 48 #[P_ fb,.iface 215 (.agg #[I_ p,.slice ua un uc])] W R:=by
 exact cq5_
def og{i:Option Addr}(hn:0<un)(hc:W.cell? ⟨b,1,none⟩=some (U_ c))(h:∀l,Fr W l N_->Blk l W.heap.size [O_,.nilIface] 88->Calls prog 76 #[.iface 152 (.agg #[U_ c,O_])] l (qS W R)):Calls prog 48 #[P_ fb,.iface 220 (.agg #[I_ p,S_ b un uc,.pointer i])] W R:=by
 refine hq_ λE A=>?_;obtain⟨w1,f⟩:=e_ ((W.alloc (.cells #[O_,.nilIface] 88)).alloc (.cells #[I_ p,S_ b un uc,.pointer i] 220));have j:Fr W w1 N_:=by rw[f];exact((A_ W _).alloc _).alloc _
 have u:Blk w1 W.heap.size [O_,.nilIface] 88:=by rw[f];exact(B_ W _ _).alloc _
 have x:Blk w1 (W.heap.size+1) [I_ p,S_ b un uc,.pointer i] 220:=by
  rw[f];have:=B_ (W.alloc (.cells #[O_,.nilIface] 88)) #[I_ p,S_ b un uc,.pointer i] 220;rw[zi]at this;exact this
 have c1:=x.c1;have G:=j.ke hc;have B:=zy (h w1 j u);replace f:=zy f;go_in;go_upto_region 31 with fail;rw[<- f.o];go_wp2_with (go_at_call 76;apply B.o.mono;rintro e O ⟨n,d,rfl,hd,hb,q⟩;have C:=hb.cell 0;have D:=hb.cell 1;have L:=hb.th 0;have M:=hb.th 1;have I:=(λW a m=>run_store prog W a d m hd.one);have k:=(hb.set 0 (I_ n)).set 1 d;have y:=k.cell 0;have z:=k.cell 1;simp only[am_,an_,aa_,ab_]at C D y z;replace q:=zy q);refine bodyPost_ret (v:=.agg #[I_ n,d]) (by simp[results,results48,go_sem,y,z]) rfl ?_;rw[A.o];exact q
def iW{f:Nat}(z:jM)(hn:f<=9)(h:∀k x,Fr W k N_->Blk k W.heap.size [O_,.nilIface] 88->x.size=f->Vh x->Calls prog 76 #[.iface 153 (.string x)] k (qS W R)):Calls prog 48 #[P_ fb,.iface 222 (.agg #[I_ p,I_ f])] W R:=by
 refine hq_ λH C=>?_;have y:H_ (∀o,Fr W ((W.alloc (.cells #[O_,.nilIface] 88)).alloc o) N_/\Blk ((W.alloc (.cells #[O_,.nilIface] 88)).alloc o) W.heap.size [O_,.nilIface] 88):=zy (λo=>⟨((A_ W _).alloc _).alloc _,(B_ W _ _).alloc _⟩);have D:=zy (λV=>z V f hn);replace h:=zy h;have f:=nX 222 D_;go_in;go_wp2_with (first
  |(go_at_call 80;apply(D.o _).mono;rintro e S ⟨x,rfl,i,u,q⟩;revert i u q;refine h_ λi u q=>?_)
  |(go_at_call 76;apply(h.o _ x ((y.o _).1.trans i u_) (i.o.bl (y.o _).2 id) u q).mono;rintro e O ⟨n,d,rfl,hd,hb,l⟩;have E:=hb.cell 0;have G:=hb.cell 1;have L:=hb.th 0;have M:=hb.th 1;have I:=(λW a m=>run_store prog W a d m hd.one);have j:=(hb.set 0 (I_ n)).set 1 d;have A:=j.cell 0;have B:=j.cell 1;simp only[am_,an_,aa_,ab_]at E G A B;replace l:=zy l))
 refine bodyPost_ret (v:=.agg #[I_ n,d]) (by simp[results,results48,go_sem,A,B]) rfl ?_;rw[C.o];exact l
end
def aO{F:FD}(a1:F.OK){W:World}{m:Nat}{I:PB}(f:KOK (dT F) (dI F) (dL F) 78 (λv=>v.headD .nilIface) m)(h:TbI (dT F) (dI F) (dL F) W r rv g T)(hc:zp c=true)(hX:zx F.ds c=some I)(hm:300<=T.length+m):Calls prog 48 #[P_ F.fb,.iface 213 (.agg #[I_ p,U_ c])] W (yi (dT F) (dI F) (dL F) W r rv g T (.ty (.leaf c p))):=by
 obtain⟨a2,O⟩:=y_ (yi (dT F) (dI F) (dL F) W r rv g T (.ty (.leaf c p)));rw[<- O.o];have l:=gc a1;obtain⟨w1,z⟩:=e_ ((W.alloc (.cells #[O_,.nilIface] 88)).alloc (.cells #[I_ p,U_ c] 213));have B:Fr W w1 N_:=by rw[z];exact((A_ W _).alloc _).alloc _
 have M:Blk w1 W.heap.size [O_,.nilIface] 88:=by rw[z];exact(B_ W _ _).alloc _
 have A:Blk w1 (W.heap.size+1) [I_ p,U_ c] 213:=by
  rw[z];have:=B_ (W.alloc (.cells #[O_,.nilIface] 88)) #[I_ p,U_ c] 213;rw[zi]at this;exact this
 have hl:=λx (hx:TSS (dT F) (dL F) rv r x)=>(h.li l hx);have cl:H_ (∀V,FX F V->Blk V (W.heap.size+1) [I_ p,U_ c] 213->V.cell? ⟨F.fb,4,none⟩=some (P_ F.tb)/\V.cell? ⟨F.fb,0,none⟩=some F.sv/\V.cell? ⟨F.fb,1,none⟩=some (.iface F.sT F.sx)/\V.cell? ⟨W.heap.size+1,1,none⟩=some (U_ c)):=zy (λV hx hb=>⟨hx.b.cell 4,hx.b.cell 0,hx.b.cell 1,hb.cell 1⟩);have a5:H_ (∀V,Fr w1 V N_->Calls prog 69 #[.agg #[F.sv,.iface F.sT F.sx],U_ c] V (λe j=>∃q bx,e=.returned (.iface q bx)/\Fr V j N_/\Calls prog 78 #[P_ F.tb,.iface q bx] j (λe G=>FX F G/\Blk G (W.heap.size+1) [I_ p,U_ c] 213/\qS W a2 e G))):=zy (λV C=>by
  have X:=B.trans C u_
  have h1:=h.new l X
  apply(jV (rv:=.iface F.sT F.sx) c h1.i.D).mono
  rintro e j ⟨v,rfl,y,hv⟩
  rw[hX]at hv
  obtain⟨p',q,bx,rfl,hp,a4,_⟩:=cm hv
  refine⟨q,bx,rfl,y,?_⟩
  have Y:=X.trans y u_
  have ok:okQ F (.bd p' I):=⟨hp,c,hX⟩
  apply(f j r rv g T (.bd p' I) [.iface q bx] (h.new l Y) ok ⟨⟨_,rfl,hv,a4⟩,ok⟩ hm).mono
  intro e G k
  have k':=k
  obtain⟨r',rv',g',T',x,he,hx,ha,ht,hs,hg⟩:=k'
  have u:=C.trans y u_
  refine⟨ht.i,hs.1.bl (u.bl A id) (λe=>by have:=hl _ e;omega),?_⟩
  rw[O.o]
  exact yi.ret l h Y (u.bl M id) (vN.name (xM hc) hX k))
 have S:=cl.o w1 (h.new l B).i A;replace z:=zy z;replace A:=zy A;replace h:=zy h;have a0:=zy B;have a3:H_ (∀V,Fr w1 V N_->FX F V):=zy (λV C=>(h.o.new l (a0.o.trans C u_)).i);go_in;go_upto_region 25 with fail;rw[<- z.o];refine tr_ 13 (λV=>f_ V F.fb 4 (P_ F.tb)/\f_ V F.fb 0 F.sv/\f_ V F.fb 1 (.iface F.sT F.sx)/\f_ V (W.heap.size+1) 1 (U_ c)) ?_;refine tz_ 0 ?_;refine tz_ 1 ?_;refine tz_ 2 ?_;refine tz_ 3 ?_;refine tz_ 4 ?_;refine tz_ 5 ?_;refine tz_ 6 ?_;refine tz_ 7 ?_;refine tz_ 8 ?_;refine tz_ 9 ?_;refine tz_ 10 ?_;refine zw 11 rfl K_ (λ_=>S) (λK f=>?_);go_simp;apply(a5.o _ (A_ w1 _).drew).mono;rintro e j ⟨q,bx,rfl,y,E⟩;refine f _ _ ?_;have u:=(A_ w1 N_).drew.trans y u_;have U:=cl.o j (a3.o _ u) (u.bl A id);replace E:=zy E;refine zw 12 rfl K_ (λ_=>U) (λK f=>?_);go_simp;apply E.o.mono;rintro e j ⟨hx,Z,n,d,rfl,hd,hb,L⟩;refine f _ _ ?_;have e3:=cl.o j hx Z;have q0:=hb.cell 0;have q1:=hb.cell 1;have t0:=hb.th 0;have t1:=hb.th 1;have sD:=(λW a m=>run_store prog W a d m hd.one);have H:=(hb.set 0 (I_ n)).set 1 d;have x0:=H.cell 0;have x1:=H.cell 1;simp only[am_,an_,aa_,ab_]at q0 q1 x0 x1;replace L:=zy L;refine t1_ 13 e3 ?_;refine td_ ?_ _;go_wp2;refine bodyPost_ret (v:=.agg #[I_ n,d]) (by simp[results,results48,go_sem,x0,x1]) rfl ?_;exact L
def mQ{F:FD}(f:F.OK)(G:jM){m:Nat}(A:KOK (dT F) (dI F) (dL F) 78 (λv=>v.headD .nilIface) m):FOK (dT F) (dI F) (dL F) 48 (P_ F.fb) (λv=>v.headD .nilIface) m:=by
 intro W r rv g T a v h ha hv hm;obtain⟨hv,z⟩:=hv;have j:=gc f;have B:300<=T.length+m:=hm;have al:∀{q:Qu} {T1:TypeId} {x1:Value},ClD F T q 1->(∀V J,svD F V J (QD F q) (QT F q) 1 (.iface T1 x1))->∀d,Fr W d N_->Blk d W.heap.size [O_,.nilIface] 88->Calls prog 76 #[.iface T1 x1] d (qS W (yi (dT F) (dI F) (dL F) W r rv g T q)):=λ{q T1 x1} hc hsv d hf hb=>rL.mono (λe C k=>by
  obtain⟨rfl,D⟩:=k
  exact yi.ret j h hf hb (yi.leaf f (h.new j hf) D hc (hsv _)))
 cases a with
 |ty t=>
  obtain⟨u,rfl,ty⟩:=hv;show Calls prog 48 #[P_ F.fb,u] W _;cases ty with
  |base c p hb=>
   have y:ClD F T (.ty (.leaf c p)) 1:=by
    show if zu c=true then (1:Nat)=1 else _;rw[i_ hb]
   simp only[zu,au_,beq_iff_eq]at hb;rcases hb with(((rfl|rfl)|rfl)|rfl)|rfl
   .exact lj (al y (λ_ _=>GB))
   .exact iK (al y (λ_ _=>GF))
   .exact Xt (al y (λ_ _=>GM))
   .exact oz (al y (λ_ _=>GU))
   .exact aA (al y (λ_ _=>GP))
  |name c p hn=>
   have ho:=z.2.1;unfold okT at ho;rcases ho with ho|⟨_,X,hX⟩
   .rw[xM hn]at ho;cases ho
   .exact aO f A h hn hX B
  |wrap c p ht=>
   obtain⟨M,O,rfl⟩:=ht.iface;have ho:=z.2.1;unfold okT at ho;rcases ho.1 with rfl|rfl
   .exact oq (al rfl (λ_ _=>Pt))
   .exact Xd (al rfl (λ_ _=>GG))
  |alts p X ho hP hX=>
   obtain⟨H,uc,rfl⟩:=zl ho;exact iQ (λd hf hb=>(Vx f A (h.new j hf) (zj ho hf u_) hP (λi t e=>(hX i t e).fr hf u_) z B).mono (λe C k=>yi.ret j h hf hb k))
 |bd p X=>
  obtain⟨u,rfl,hb,hp⟩:=hv;show Calls prog 48 #[P_ F.fb,u] W _;cases hb with
  |recd p' ho hP hX hpp=>
   have e:(p':Int)=(p:Int):=by simpa[GS] using hp
   obtain rfl:p'=p:=M_;obtain⟨H,uc,rfl⟩:=zl ho;exact tG (λd hf hb=>(Wb f A (h.new j hf) (zj ho hf u_) hP (hX.fr hf u_) z B).mono (λe C k=>yi.ret j h hf hb k))
  |enum p' ho hP hu hpp=>
   rename_i l o sv uv;obtain⟨c,q,I,rfl⟩:=ZY hpp;obtain⟨b,cap,rfl⟩:=zm ho (by simp);obtain⟨L,rfl⟩:=hu.ptr;obtain⟨_,k,hk⟩:=z;have hs:=(f.g k _ hk).1.2.1 (c,q) (by simp);have hc:c<256:=by
    have:97<=c/\c<=122:=by simpa[zh] using hs
    omega
   exact og (by simp) (zr ho rfl (by simp[zE])) (al rfl (λ_ _=>Kd hc))
  |bytes p' n hpp=>
   exact iW G (ij hpp) (λd x hf hb hx E=>by
    subst hx
    exact al (q:=.bd p (.bytes x.size)) rfl (λ_ _=>VD E (ij hpp)) d hf hb)
def qw:∀d W,(callFunc 48 d).run prog W=.ok (.enter 48 d) W:=jA func48 K_ rfl
def cq{F:FD}(d:F.OK)(f:jM):∀m,KOK (dT F) (dI F) (dL F) 78 (λv=>v.headD .nilIface) m:=by
 intro m;induction m with
 |zero=>exact rp (eZ d) (gc d) qw (λW a v h=>aw d h.1 h.2) M_ (λi e=>by cases e)
 |succ m ih=>exact rp (eZ d) (gc d) qw (λW a v h=>aw d h.1 h.2) M_ (λi e=>by cases e;exact mQ d f ih)
def fE{F:FD}(d:F.OK)(y:jM){W:World}{uT:TypeId}{ux:Value}(h:TbI (dT F) (dI F) (dL F) W () rv false T)(E:Gd (ClD F) T)(ty:TyV W F.P t (.iface uT ux))(ok:okQ F (.ty t)):Calls prog 121 #[P_ F.tb,.iface uT ux] W (uy (dT F) (dI F) (dL F) W () rv (.ty t)):=by
 have j:=gc d;have qv:(dT F).QV W (.ty t) [.iface uT ux]:=⟨⟨_,rfl,ty⟩,ok⟩
 have B:=@VI Qu Unit (dT F) (λq=>z_ (fJ q:Int)) (okQ F) fJ 300 F.fb F.tb F.mb (.func (.methodOf 53 "Place") #[] #[]) (.func (.func 48) #[P_ F.fb] #[]) W () rv T (.ty t) uT ux (eZ d) j h E qv M_
 have C:dI F=ID (λq=>z_ (fJ q:Int)) (okQ F) fJ 300:=rfl
 have D:dL F=⟨F.fb,F.tb,F.mb,.func (.methodOf 53 "Place") #[] #[],.func (.func 48) #[P_ F.fb] #[]⟩:=rfl
 rw[<- C,<- D]at B;refine B ?_ ?_ ?_
 .intro V z;have A:=j.qv _ _ _ _ _ qv z (λ_ f=>f.elim);have k:=cq d y 300 V () rv false T (.ty t) [.iface uT ux] (h.new j z) ok A (by show 300<=_;omega);exact k
 .intro V r rv g T l G ha;have k:=bH (eZ d) j (λW a v h=>aw d h.1 h.2) l G ha;exact k
 .intro V r rv g T i x l hx;have A:=aj_ hx;have k:=Gx (eZ d) j (λw n m dv kv=>jJ) qw l hx (λW' u z e=>by
   have k:=mQ d y (cq d y 300) W' r rv g T x.a x.v (l.new j z) (l.t.q x A).1 (j.qv _ _ _ _ _ (l.v x A).2 z (λ_ f=>f.elim)) (by show 300<=_;omega)
   rw[e]at k
   exact k)
  exact k
section
variable {α ρ:Type} {P:TP α ρ} {kv:α->Value} {Q:α->Prop} {num:α->Nat} {N fb tb mb:Nat} {kf:Value} {fn:FuncId} {fa:Value}
def TbI.cellsU{W:World}{r:ρ}{T:List (Rw α)}{L:TL}(h:TbI P (IU kv Q num N) L W r rv g T){i:Nat}{x:Rw α}(hx:T[i]?=some x):∃b cap u u',rv=S_ b T.length cap/\x.v=[u,u']/\W.cell? ⟨b,i*4,none⟩=some u/\W.cell? ⟨b,i*4+1,none⟩=some u'/\W.cell? ⟨b,i*4+2,none⟩=some (I_ x.n)/\W.cell? ⟨b,i*4+2+1,none⟩=some x.d/\W.frozen? ⟨b,i*4+2,none⟩=false/\W.frozen? ⟨b,i*4+2+1,none⟩=false:=by
 obtain⟨b,cap,e,h1⟩:=h.t.cell hx;have hl:x.v.length=2:=(h.t.q x (aj_ hx)).2.1;obtain⟨u,u',hu⟩:∃u u',x.v=[u,u']:=by
  match hv:x.v,hl with
  | [u,u'],_=>exact⟨u,u',rfl⟩
 have k:=h1 0 (by show 0<2+2;omega);have l:=h1 1 (by show 1<2+2;omega);have f:=h1 2 (by show 2<2+2;omega);have j:=h1 3 (by show 3<2+2;omega);simp only[Rw.cells,hu]at k l f j;exact⟨b,cap,u,u',e,hu,k.1,l.1,f.1,j.1,f.2,j.2⟩
def Gy{W:World}{r:ρ}{T:List (Rw α)}{i:Nat}{x:Rw α}(I:(IU kv Q num N).OK)(k:P.OK (IU kv Q num N) ⟨fb,tb,mb,kf,.func (.func fn) #[fa] #[]⟩)(hB:∀(w:World) (n m:Nat) (dv kv:Value),Calls prog 136 #[.agg #[I_ n,dv],.agg #[I_ m,kv]] w λe w'=>e=.returned (.bool (btr n m))/\Fr w w' N_)(a8:∀a2 W,(callFunc fn a2).run prog W=.ok (.enter fn a2) W)(h:TbI P (IU kv Q num N) ⟨fb,tb,mb,kf,.func (.func fn) #[fa] #[]⟩ W r rv g T)(hx:T[i]?=some x)(E:∀W' u u',Fr W W' N_->x.v=[u,u']->Calls prog fn #[fa,.agg #[u,u']] W' (yi P (IU kv Q num N) ⟨fb,tb,mb,kf,.func (.func fn) #[fa] #[]⟩ W' r rv g T x.a)):Calls prog 53 #[P_ tb,I_ i] W (uq P (IU kv Q num N) ⟨fb,tb,mb,kf,.func (.func fn) #[fa] #[]⟩ W r rv g T i):=by
 obtain⟨a1,L⟩:=y_ (uq P (IU kv Q num N) ⟨fb,tb,mb,kf,.func (.func fn) #[fa] #[]⟩ W r rv g T i);rw[<- L.o];obtain⟨b,cap,u,u',rfl,hu,X,Y,e1,e2,-,-⟩:=h.cellsU hx;have hi:=(ae_.1 hx).1;have b5:(i:Int)<(T.length:Int):=M_;have c1:=h.t.b.c1;have c2:=h.t.b.c2;have Z:=zy (λW' hW=>E W' u u' hW hu);replace h:=zy h;replace hx:=zy hx;replace hB:=zy hB;go_in;go_upto_region 0 with fail;go_cut [4] (λv V=>∃q r' rv' g' T' n d,v=P_ q/\H_ (LkM P (IU kv Q num N) ⟨fb,tb,mb,kf,.func (.func fn) #[fa] #[]⟩ W r (S_ b T.length cap) g T x.a q r' rv' g' T' n d V));case first=>
  refine tr_ 12 (λV=>f_ V tb 1 (.func (.func fn) #[fa] #[])/\f_ V tb 2 (S_ b T.length cap)/\f_ V b (i*4) u/\f_ V b (i*4+1) u') ?_;refine tB_ 0 [1,2,3,12] ?_;refine tB_ 1 [2,3,12] ?_;refine tB_ 2 [3,12] ?_;refine tB_ 3 [12] ?_;refine tB_ 4 [5,6,7,9,10,11,12] ?_;refine tB_ 5 [6,7,9,10,11,12] ?_;refine tB_ 6 [7,9,10,11,12] ?_;refine tB_ 7 [9,10,11,12] ?_;refine tB_ 8 [9,10,11,12] ?_;refine tB_ 9 [10,11,12] ?_;refine tB_ 10 [11,12] ?_;refine tB_ 11 [12] ?_;refine jp 12 13 rfl rfl K_ (λ_=>⟨c1,c2,X,Y⟩) (λK z=>?_) (λK z=>?_)
  .go_simp;apply(Z.o _ (A_ W _).drew).mono;rintro e w1 ⟨r',rv',g',T',n,d,rfl,hn,hd,f,hs,hg,hc,hv⟩;refine z _ _ ?_;have sD:=λW a m=>run_store prog W a d m hd.one;have j:=(A_ w1 N_).alloc (.cells #[I_ n,d] 88);have fin:=zy (LkM.new k h (A_ W _).drew hn hd (f.new k j) (hs.trans (E_ j (λ_ h=>h))) hg hc (k.sv _ _ _ _ _ _ _ hv (E_ j (λ_ h=>h))) (B_ w1 #[I_ n,d] 88) hs.1.size);refine t0_ 13 ?_;refine t0_ 14 ?_;refine td_ ?_ _;go_wp2;go_meet;exact⟨_,_,_,_,_,_,_,rfl,fin⟩
  .go_simp;refine z _ _ ?_;have A:=(A_ W N_).alloc (.cells #[O_,.nilIface] 88);have B0:=B_ W #[O_,.nilIface] 88;have C:=((h.o.t.new A).b.cell 1);have D:=((h.o.t.new A).b.cell 2);have f0:(W.alloc (.cells #[O_,.nilIface] 88)).cell? ⟨b,i*4,none⟩=some u:=by
    have:=A.block b (h.o.t.li (x:=b) (.inr (.inr rfl))).2 id;rw[World.cell?_of_block this];exact X
   have f9:(W.alloc (.cells #[O_,.nilIface] 88)).cell? ⟨b,i*4+1,none⟩=some u':=by
    have:=A.block b (h.o.t.li (x:=b) (.inr (.inr rfl))).2 id;rw[World.cell?_of_block this];exact Y
   simp only[aa_,ab_]at C D;refine zw 12 rfl K_ (λ_=>⟨C,D,f0,f9⟩) (λK z=>?_);go_simp;apply(Z.o _ A.drew).mono;rintro e w1 ⟨r',rv',g',T',n,d,rfl,hn,hd,f,hs,hg,hc,hv⟩;refine z _ _ ?_;have sD:=λW a m=>run_store prog W a d m hd.one;have B:Blk w1 W.heap.size [O_,.nilIface] 88:=hs.1.bl B0.drew (λe=>absurd (h.o.li k e).2 (a3_ _));have fin:=zy (LkM.of k h A.drew hn hd f hs hg hc hv B l_);have k0:=B.c0;have k1:=B.c1;have t0:=B.th 0;have t1:=B.th 1;refine t0_ 14 ?_;refine td_ ?_ _;go_wp2;go_meet;exact⟨_,_,_,_,_,_,_,rfl,fin⟩
 case rest=>
  obtain⟨q,r',rv',g',T',n,d,rfl,hM⟩:=hcut;obtain⟨hn,hd,f,hs,hg,hc,hv,hb,hq,b4⟩:=hM.o;obtain⟨R,rfl,g1,g2,g3⟩:=hg;have H:(T++R)[i]?=some x:=by rw[ar_ hi];exact hx
  obtain⟨l,U,z1,z2,rfl,hu,a0,a9,O,S,C,D⟩:=f.cellsU H;have b6:(i:Int)<((T++R).length:Int):=by rw[ai_];omega
  have a6:=((f.t.q x (aj_ H)).2.2.2).one;have c2:=f.t.b.c2;have t4:=f.t.b.th 4;have c4:=f.t.b.c4;have q0:=hb.c0;have q1:=hb.c1;have s1:=λW a m=>run_store prog W a d m hd.one;have a7:=cd;have a5:l≠tb:=λe=>(f.t.apart I).2.1 (by rw[e];rfl);have no:H_ (∀V,Fr wc V N_->btr n x.n=false->a1 (.returned (.tuple #[])) V):=zy (λV G e=>by
   rw[L.o]
   exact⟨r',_,g',T++R,rfl,f.new k G,hs.trans (E_ G (λ_ h=>h)),R,g1,.inl ⟨rfl,g2,λe'=>⟨g3 e',λy hy=>by rw[hx.o]at hy;cases hy;exact⟨n,hc,e⟩⟩⟩⟩)
  have yes:H_ (∀V,Fr wc V N_->btr n x.n=true->a1 (.returned (.tuple #[])) (((V.setCell ⟨l,i*4+2,none⟩ (I_ n)).setCell ⟨l,i*4+2+1,none⟩ d).setCell ⟨tb,4,none⟩ (.bool true)).drew):=zy (λV G e=>by
   have h1:=f.new k G
   have h2:=((h1.t.set I H hn hd).flag I true).new (A_ _ _).drew
   have E:Fr V (((V.setCell ⟨l,i*4+2,none⟩ (I_ n)).setCell ⟨l,i*4+2+1,none⟩ d).setCell ⟨tb,4,none⟩ (.bool true)).drew (TbS tb mb (S_ l (T++R).length U)):=(((V_ V l _ _ _ _).mono (λx _ e=>.inr (.inr (by rw[e];rfl)))).setCell _ _ (λ_=>.inl rfl)).drew
   have h3:=h1.turn k (rv':=S_ l (T++R).length U) ⟨E,λ_ _ h=>h⟩ h2 (λy hy=>by
    rcases cb_ hy with hy|rfl
    .exact .inl hy
    .refine .inr ⟨k.sv _ _ _ _ _ _ _ (k.sv _ _ _ _ _ _ _ hv (E_ G (λ_ h=>h))) ⟨E.mono (λ_ _ e=>.inl e),λ_ _ h=>h⟩,?_⟩
     exact k.qv _ _ _ _ _ (h1.v x (aj_ H)).2 E (λy hy=>(h1.t.li hy).1))
   rw[L.o]
   exact⟨r',_,true,_,rfl,h3.1,(hs.trans (E_ G (λ_ h=>h))).trans h3.2,R,λ_=>rfl,.inr ⟨rfl,x,n,d,hx,e,hn,rfl⟩⟩)
  generalize x.n=xn at *;generalize x.d=xd at *;generalize (T++R).length=M at *;go_wp2;refine tr_ 10 (λV=>f_ V tb 2 (S_ l M U)/\f_ V q 0 (I_ n)/\f_ V q 1 d/\f_ V l (i*4+2) (I_ xn)/\f_ V l (i*4+2+1) xd) ?_;refine tB_ 0 [1,10] ?_;refine tB_ 1 [10] ?_;refine tB_ 2 [3,4,5,7,8,9,10] ?_;refine tB_ 3 [4,5,7,8,9,10] ?_;refine tB_ 4 [5,7,8,9,10] ?_;refine tB_ 5 [7,8,9,10] ?_;refine tB_ 6 [7,8,9,10] ?_;refine tB_ 7 [8,9,10] ?_;refine tB_ 8 [9,10] ?_;refine tB_ 9 [10] ?_;refine zw 10 rfl K_ (λ_=>⟨c2,q0,q1,O,S⟩) (λK z=>?_);go_simp;apply(hB.o _ n xn d xd).mono;rintro e w2 ⟨rfl,a4⟩;refine z _ _ ?_;have j:Fr wc w2 N_:=(A_ wc _).drew.trans a4 u_;have x1:=j.keepF O C;have x2:=j.keepF S D;have x3:=j.keepF c4 t4;have k2:=j.ke c2;have k4:=j.ke c4;have p0:=j.ke q0;have p1:=j.ke q1;replace O:=j.ke O;replace S:=j.ke S;replace j:=zy j;refine td_ ?_ _;cases a3:btr n xn
  .go_wp2;go_end0;exact no.o _ j a3
  .go_wp2;refine tr_ 8 (λV=>f_ V tb 2 (S_ l M U)/\f_ V q 0 (I_ n)/\f_ V q 1 d) ?_;refine tz_ 0 ?_;refine tz_ 1 ?_;refine tz_ 2 ?_;refine tz_ 3 ?_;refine tz_ 4 ?_;refine tz_ 5 ?_;refine tB_ 6 [7,8] ?_;refine tz_ 7 ?_;refine t1_ 8 ⟨k2,p0,p1⟩ ?_;refine td_ ?_ _;go_wp2;go_end0;exact yes.o _ j a3
end
def JD:laidOutB prog=true:=K_
def WT:WideMaps.ArrKey prog 96 3 2:=⟨K_,K_,K_,K_⟩
def VQ:Tryz.prog.underlying 130=some (.map 96 3):=K_
def Ku:Tryz.prog.underlying 129=some (.slice 230):=K_
def Fl:(Tryz.prog.info? 230).map (λi=>(i.zero,i.size,i.bytes))=some (some (.agg #[.nilIface,.nilIface,O_,.nilIface]),4,56):=K_
def gY:Maps.Keyed prog 96:=Maps.Keyed.of_law (deep_law_laid JD (m:=2) M_ (of_decide_eq_true K_) K_ (by rw[WT.hu]))
def mq{a:Nat}(ha:a<=1000000)(hb:b<=1000000):∃l,keyOf prog 96 (.agg #[I_ a,I_ b])=some l:=
 ⟨_,WideMaps.keyOf_pair WT qz ⟨425-1,K_⟩ (WalkArith.wf_i64 M_) (WalkArith.wf_i64 M_)⟩
def VC{t':PT}(h:kM s t)(d:kM s t')(e:t.place=t'.place):t=t':=by
 obtain⟨j,h1⟩:=h;obtain⟨j',f⟩:=d;rw[e,f]at h1;cases h1;rfl
def Zr{F:FD}(d:F.OK):(uI F).OK:=by
 have lt:∀a,uQ F a->a.1.place<300/\a.2.place<300:=λa ha=>by
  have h1:=mw ha.1.1;have f:=mw ha.2.1;have:=d.hs;have:=d.hs';omega
 have inj:∀a b,uQ F a->uQ F b->a.1.place=b.1.place->a.2.place=b.2.place->a=b:=λa b ha hb e e'=>Prod.ext (VC ha.1.1 hb.1.1 e) (VC ha.2.1 hb.2.1 e');refine⟨by show 132≠230;decide,gY,λa ha=>mq (by have:=lt a ha;omega) (by have:=lt a ha;omega),λa b ha hb e=>?_,λa ha=>?_,λa b ha hb e=>?_⟩
 .have e':Value.agg #[I_ a.1.place,I_ a.2.place]=.agg #[I_ b.1.place,I_ b.2.place]:=e;simp only[Value.agg.injEq,Array.mk.injEq,List.cons.injEq,Value.int.injEq,true_and,and_true]at e';exact inj a b ha hb M_ M_
 .have:=lt a ha;show a.1.place*300+a.2.place<90000;omega
 .have h1:=lt a ha;have f:=lt b hb;have e':a.1.place*300+a.2.place=b.1.place*300+b.2.place:=e;exact inj a b ha hb M_ M_
section
variable {o:Oper} {a:Act} {K:Act->World->Prop} {Q:Exit->Act->World->Prop} {w:World}
def ZX(m x:Operand)(ho:o.op=Op.lookup 130 m x true){D:DataW Unit}{key:Value}{d:Lit}(hm:a.eval m=.map (some b))(f:w.ownsMap prog 96 (plainElem prog 3) b n D)(hx:a.eval x=key)(e:keyOf prog 96 key=some d)(h:∀c:Int,D.atKey d (.lit (.int .i64 0))=.lit (.int .i64 c)->K (a.put o.dst (.tuple #[.int .i64 c,.bool (Maps.has D d)])) w):o.wp prog a w K Q:=by
 obtain⟨v,k,i,hv⟩:=f.look_ok gY VQ (Vt w) (plainElem_int qz D_) e;obtain⟨c,rfl,hc,j⟩:=plainElem_int_inv qz hv;unfold Oper.wp;simp[execOp,ho,hm,hx,i,Result.andThen];exact h c (congrArg Prod.fst hc)
def GI(m x v:Operand)(ho:o.op=Op.mapUpdate 130 m x v){D:DataW Unit}{key:Value}{d:Lit}{z:Nat}(hm:a.eval m=.map (some b))(f:w.ownsMap prog 96 (plainElem prog 3) b n D)(hn:n<=1000000)(hx:a.eval x=key)(e:keyOf prog 96 key=some d)(hv:a.eval v=I_ z)(hz:z<=1000000)(h:∀w',w'.ownsMap prog 96 (plainElem prog 3) b (n+1) (D.put d (.lit (.int .i64 (z:Int))))->w.grownBy w' (some b)->K (a.put o.dst undef) w'):o.wp prog a w K Q:=by
 obtain⟨w',i,r1,j⟩:=f.update gY VQ (by unfold maxLen;omega) e (plainElem_int qz (WalkArith.wf_i64 (by omega : -9223372036854775808<=(z:Int)/\(z:Int)<=9223372036854775807)));unfold Oper.wp;simp[execOp,ho,hm,hx,hv,i,Result.andThen];exact h w' r1 j
def GE(s x:Operand)(ho:o.op=.call { callee:=.builtin .append,args:=#[s,x],argTypes:=#[129,129] }){B g n:Nat}{v c0 c1 c2 c3:Value}{xs:List Value}(hb:w.ownsRow B 230 4 v n xs)(A:n<=1000000)(hB:B<=w.heap.size)(hg:g=w.heap.size)(hs:a.eval s=v)(hx:a.eval x=S_ g 1 1)(h0:c0.oneCell'=true)(h1:c1.oneCell'=true)(e:c2.oneCell'=true)(f:c3.oneCell'=true)(h:∀d w',w'.ownsRow B 230 4 d (n+1) (xs++[c0,c1,c2,c3])->(w.alloc (.cells #[c0,c1,c2,c3] 230)).grownBy w' v.ownBlock->(d.ownBlock=v.ownBlock\/d.ownBlock=some (w.alloc (.cells #[c0,c1,c2,c3] 230)).heap.size)->K (a.put o.dst d) w'):o.wp prog a (w.alloc (.cells #[c0,c1,c2,c3] 230)) K Q:=by
 obtain⟨ti,j,k,l,m⟩:=info_parts Fl;obtain⟨y,z,hr,u,i,_,q⟩:=run_append_own_at (P:=prog) (w.alloc (.cells #[c0,c1,c2,c3] 230)) B 129 o.type 230 ti _ 4 56 Ku j k l m rfl D_ _ n xs (World.ownsRow.alloc hb _) ⟨g,0,none⟩ 1 1 [c0,c1,c2,c3] rfl (zN _ #[c0,c1,c2,c3] _ _ hg) (by simp[h0,h1,e,f]) (by unfold maxLen;omega) M_ (by simp;omega);unfold Oper.wp execOp;simp only[ho,resolve,invoke,builtin,Sem.run_bind,Sem.run_pure,Result.andThen_ok,List.map_toArray,aw_,bd_,hs,hx,hr];exact h y z u i q
end
def ku{W:World}{uT i:TypeId}{ux j:Value}{k d:Nat}(hm:∀W,(method 525 uT ux "Place").run prog W=.ok (70,I_ k) W)(S:∀W,(method 525 i j "Place").run prog W=.ok (70,I_ d) W):Calls prog 50 #[.agg #[.iface uT ux,.iface i j]] W λe w'=>e=.returned (.agg #[I_ k,I_ d])/\Fr W w' N_:=by
 obtain⟨I,C⟩:=y_ (λ(e:Ending) (w':World)=>e=.returned (.agg #[I_ k,I_ d])/\Fr W w' N_);rw[<- C.o];obtain⟨w1,h⟩:=e_ ((W.alloc (.cells #[.iface uT ux,.iface i j] 95)).alloc (.cells #[O_,O_] 96));have A:Fr W w1 N_:=by rw[h];exact((A_ W _).alloc _).alloc _
 have u:Blk w1 W.heap.size [.iface uT ux,.iface i j] 95:=by rw[h];exact(B_ W _ _).alloc _
 have B:Blk w1 (W.heap.size+1) [O_,O_] 96:=by
  rw[h];have:=B_ (W.alloc (.cells #[.iface uT ux,.iface i j] 95)) #[O_,O_] 96;rw[zi]at this;exact this
 have c0:=u.c0;have c1:=u.c1;replace h:=zy h;go_in;go_upto_region 1 with fail;rw[<- h.o];refine tr_ 7 (λV=>f_ V W.heap.size 0 (.iface uT ux)/\f_ V W.heap.size 1 (.iface i j)) ?_;refine tz_ 0 ?_;refine tz_ 1 ?_;refine tz_ 3 ?_;refine tz_ 4 ?_;refine zw 2 rfl K_ (λ_=>⟨c0,c1⟩) (λK m=>?_);go_simp;apply(yR (k:Int) _).mono;rintro e O ⟨rfl,D⟩;refine m _ _ ?_;clear m K;have q:Fr w1 O N_:=by rw[D];exact(A_ w1 _).drew
 clear D;refine zw 5 rfl K_ (λ_=>⟨q.ke c0,q.ke c1⟩) (λK m=>?_);go_simp;apply(yR (d:Int) _).mono;rintro e z ⟨rfl,E⟩;refine m _ _ ?_;clear m K;have l:Fr w1 z N_:=by rw[E];exact q
 clear E q;have f:=l.bl B id;have L:=f.cell 0;have M:=f.cell 1;have U:=f.th 0;have X:=f.th 1;have y:=(f.set 0 (I_ k)).set 1 (I_ d);have G:=y.cell 0;have H:=y.cell 1;simp only[am_,an_,aa_,ab_]at L M G H;have fin:H_ (I (.returned (.agg #[I_ k,I_ d])) ((z.setCell ⟨W.heap.size+1,0,none⟩ (I_ k)).setCell ⟨W.heap.size+1,1,none⟩ (I_ d))):=zy (by
  rw[C.o]
  exact⟨rfl,(A.trans l u_).trans (V_ z (W.heap.size+1) 0 1 _ _) (λx hx e=>M_)⟩)
 have c3:=l.ke c0;have c4:=l.ke c1;clear y f B u A l;refine t1_ 6 ⟨c3,c4⟩ ?_;refine t1_ 7 ⟨c3,c4⟩ ?_;refine td_ ?_ _;go_wp2;refine bodyPost_ret (v:=.agg #[I_ k,I_ d]) (by simp[results,results50,go_sem,G,H]) rfl ?_;exact fin
end Go.Proofs.YtjkiencmjggakaaGreatDoor
