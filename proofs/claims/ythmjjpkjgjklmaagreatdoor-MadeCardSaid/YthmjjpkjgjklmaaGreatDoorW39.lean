import Derived.Test.YthmjjpkjgjklmaaGreatDoorW38
import Derived.Test.YthmjjpkjgjklmaaGreatDoorW37
import Derived.Test.YthmjjpkjgjklmaaGreatDoorW13
import Derived.Test.YthmjjpkjgjklmaaGreatDoorA00
set_option maxHeartbeats 16000000
set_option maxRecDepth 100000
set_option linter.unusedSimpArgs false
open Go.Proofs.Tryz
namespace Go.Proofs.YthmjjpkjgjklmaaGreatDoor
open Go.RowKit
variable {A:Nat->Addr}{w:World}
def Kit (A:Nat->Addr) (w:World):Prop:=xg_ A w/\yi_ w/\yd_ w/\xh_ w/\vq_ w
theorem Kit.fr {w':World}(h:Kit A w) (hf:Fr w w' (λ _=>False)):Kit A w':=by
 obtain⟨S,hI,hQ,hP,hA⟩:=h;have hz:=hf.size;have tr:∀ W,y1_ w' W->y1_ w W:=λ W hG g hg=>(hG g (by omega)).trans (hf.block g hg id);exact⟨S.fr hf,λ W hG=>hI W (tr W hG),λ W hG=>hQ W (tr W hG),λ W hG=>hP W (tr W hG),λ W B h0 hB hG=>hA W B (by omega) hB (tr W hG)⟩
theorem Kit.dec (h:Kit A w) (s bs:BA):Calls prog 15 #[.string s,.string bs] w λ e w'=>e=.returned (.tuple #[.string (ys_ s bs).1,.int .i64 ((ys_ s bs).2.1:Int),.int .i64 (ys_ s bs).2.2])/\Fr w w' (λ _=>False):=by
 obtain⟨S,hI,hQ,hP,hA⟩:=h;exact(znc S hI hQ hP hA).mono λ e w' h=>⟨h.1,h.2.1⟩
theorem Kit.enc (h:Kit A w) (s dm:BA):Calls prog 17 #[.string s,.string dm] w λ e w'=>e=.returned (.tuple #[.string (x0_ s dm).1,.int .i64 (x0_ s dm).2])/\Fr w w' (λ _=>False):=by
 obtain⟨S,hI,hQ,hP,hA⟩:=h;exact(znb S hI hQ hP).mono λ e w' h=>⟨h.1,h.2.1⟩
theorem zv0:noB=⟨#[]⟩:=rfl
abbrev eI:BA:=⟨#[91,105,93]⟩
abbrev eD:BA:=⟨#[91,49,44,45,49,44,54,52,93]⟩
abbrev eC:BA:=⟨#[6,2,1,128,1]⟩
def eT:PT:=.wrap 91 0 (.leaf 105 1)
def eX:DT:=.mk 91 0 noB [] [.mk 105 1 noB [] [],.mk 105 (-1) noB [] [],.mk 105 64 noB [] []]
theorem zwl:zq_ eI=.ok ([],eT):=by kernel_rfl
theorem zi2:(zj_ eI).1=0:=by kernel_rfl
theorem zz6 (env:Nat->Option PB):Dat env eX eT:=by
 refine .list (by decide) (λ d hd=>?_);simp only[an_,bf_,or_false] at hd
 rcases hd with rfl|rfl|rfl<;>exact .num (by decide) (by decide)
theorem e_tx (env:Nat->Option PB):txT env eX eT=eD:=by
 have d1:decB 1=bts [49]:=zhp (u:=1) (by decide)
 have d2:decB (-1)=bts [45]++bts [49]:=by rw[<- d1];exact zws (u:=1) (by decide)
 have d3:decB 64=bts [54]++bts [52]:=by
  have h:=zwt (u:=64) (by decide);have h6:decB ((6:Nat):Int)=bts [54]:=zhp (u:=6) (by decide);rw[show((64 / 10:Nat):Int)=((6:Nat):Int) from rfl,h6] at h;exact h
 unfold eX eT;rw[zmd 0 (.leaf 105 1) [noB,noB,noB],xs_,xs_,xs_,jf_,jd_,zk4,jd_,zk4,jd_,zbs];simp only[yb_,zrr,d1,d2,d3,keyT,az_,if_false,xl_,j9_,<- zd0]
 rfl
theorem e_by:byT eX=eC:=by
 unfold eX;simp only[byT,byTs]
 rfl
theorem e_nd:ndT eX=4:=by
 unfold eX;simp only[ndT,ndTs]
theorem z09:x0_ eI eD=(eC,0):=by
 obtain⟨g1,g2,g3,g4,g5⟩:=zhe zi2 zwl;have hr:=zw7 g1 g2 eD (2*eD.size+2) eX eT (zz6 _) g3 0 (by rw[e_tx];exact At.self _) (by rw[e_tx];unfold stp;rw[bg_,zef l_];omega) (by rw[e_tx];omega);rw[e_tx,bg_] at hr;unfold x0_ xn_;rw[if_pos zi2,if_neg (by decide),zwl];simp only[hr,if_true];rw[if_neg (by rw[e_nd];decide),e_by]
theorem z1a:ys_ eI (eC++⟨#[122]⟩)=(eD,5,0):=by
 obtain⟨g1,g2,g3,g4,g5⟩:=zhe zi2 zwl;have hr:=zq0 g5 (zz6 (za_ [])) (by rw[e_nd];decide) ⟨#[122]⟩;rw[e_by] at hr;unfold ys_;rw[if_pos zi2,if_neg (by decide),zwl];simp only[hr,e_tx]
 rfl
theorem zun (K:Kit A w):Calls prog 14 #[] w λ e w'=>e=.returned (.bool true)/\Fr w w' (λ _=>False):=by
 refine hq_ λ POST Q_=>?_;have hE:=K.enc eI eD;rw[z09] at hE
 have hD:∀ W,Fr w W (λ _=>False)->Calls prog 15 #[.string eI,.string (eC++⟨#[122]⟩)] W λ e w'=>e=.returned (.tuple #[.string eD,.int .i64 5,.int .i64 0])/\Fr W w' (λ _=>False):=λ W hW=>by
  have h:=(K.fr hW).dec eI (eC++⟨#[122]⟩);rw[z1a] at h;exact h
 replace hE:=q_ hE;replace hD:=q_ hD;clear K
 go_in
 go_wp2_with (first
  |(go_at_call 17;refine hE.o.mono ?_;rintro e w1 ⟨rfl,hf1⟩;replace hf1:=q_ hf1)
  |(go_at_call 15;refine(hD.o _ hf1.o).mono ?_;rintro e w2 ⟨rfl,hf2⟩;replace hf2:=q_ hf2)
  | go_in)
 rw[Q_.o];exact⟨rfl,hf1.o.trans hf2.o u_⟩
end Go.Proofs.YthmjjpkjgjklmaaGreatDoor
