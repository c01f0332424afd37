import Derived.Test.YtiifagiebikmdaaGreatDoorW44
import Derived.Test.YtiifagiebikmdaaGreatDoorW43
import Derived.Test.YtiifagiebikmdaaGreatDoorTie
import Derived.Test.YtiifagiebikmdaaGreatDoorCards
import Derived.SevenTiedAt
import Derived.Test.YtiifagiebikmdaaGreatDoorA00
set_option maxHeartbeats 16000000
set_option maxRecDepth 100000
set_option linter.unusedSimpArgs false
open Go.Proofs.Tryz
namespace Go.Proofs.YtiifagiebikmdaaGreatDoor
open Go.ChangeShapes Go.WideShapes Go.ChangeAt Go.RowKit
open Go.ChangeMaps (open_string shut_string)
theorem zkv {W:World}(s d:BA) (h:laidMetH prog Rows.decodesRow.laid W) :
 Calls prog 4 #[.string s,.string d] W λ e w'=>e=.returned (.bool true)/\Fr W w' (λ _=>False):=by
 obtain⟨A,S,a,b,hP,c⟩:=zo8 h;exact zuo S a b hP (zsv c)
theorem zgx (os:Os) (r:os.Started) (i:Type) (enc:TypeId×Value->i) :
 ReturnsInHanded {} Tryz.checked os 4 .any (λ w a=>(Rows.decodesSpec.pre enc prog Tryz.f4 [] false w a/\laidMetH prog Rows.decodesRow.laid w)/\sizedMet enc prog Tryz.f4 (OpenSpec.ofChange Rows.decodesSpec) false w a)
  (Rows.decodesSpec.post enc prog Tryz.f4 false true false false):=by
 refine returnsInHanded_of_change_and (C:=Tryz.checked) (X:=λ w _=>laidMetH prog Rows.decodesRow.laid w) (λ _ _ _ n h=>laidMetH.of_heap n h) Tryz.own r (by kernel_rfl) func4
  (ChangeSpec.witness_shaped (enc:=enc) (C:=Tryz.checked) (os:=os) (X:=λ w _=>laidMetH prog Rows.decodesRow.laid w) false ((World.holding prog os ⟨#[],#[],[]⟩).layVars prog z4_) #[.string ⟨#[]⟩,.string ⟨#[]⟩] 8 (zkd os)
   (zeo os _) (by kernel_rfl) (by kernel_rfl) (by kernel_rfl) (zia os _)) ?_
 intro W base a ds E A o f _ _ l _;have b:∀ (j:Nat) t v,Tryz.f4.params[j]?=some t->a[j]?=some v->Value.okWide prog W .any base t v:=o;have g:=f;obtain⟨p,q,k,m,rfl,_,_⟩:=f;have c:DataW.TrodAll enc prog W 0 (λ _=>true) true Tryz.f4.params.toList a.toList ds p:=k;rw[Tryz.params4] at c b;obtain⟨u,x,B,D,F,G,rfl,rfl,rfl,h0,h1⟩:=trodAll_two c;obtain⟨rfl,rfl⟩:=trodVars_none m;obtain⟨s,rfl,rfl,rfl,z⟩:=open_string underlying9 (b 0 9 u rfl rfl) h0;obtain⟨d,rfl,rfl,rfl,y⟩:=open_string underlying9 (b 1 9 x rfl rfl) h1;simp only[bc_] at g;refine(zkv s d l).mono λ e W' ⟨he,hf⟩=>?_;subst he;exact⟨_,rfl,_,_,_,[],[],[],g,trodAll_mk1 (shut_bool underlying4 _),trodAll_mk2 (shut_string underlying9 z) (shut_string underlying9 y),rfl,hf.kept.frame _,λ h=>by cases h⟩
theorem zil:Rows.DecodesSaid:=
 OpenClaim.holds_of_wide 4 Tryz.f4 rfl rfl rfl rfl rfl rfl rfl ⟨rfl,rfl,rfl,rfl,rfl⟩ rfl rfl rfl rfl rfl (by kernel_rfl) func4 (by kernel_rfl)
  (of_decide_eq_true (by kernel_rfl)) (by unfold Func.isWrapper;rw[if_neg (of_decide_eq_false (by kernel_rfl))];exact⟨rfl,rfl⟩)
  (λ os c a b _=>zgx os c a b)
open Go
theorem decodes_card:Rows.DecodesCardSaid:=
 Claim7.holds_tied_plain_at .later [] Rows.decodesCard.laidKinds true Rows.decodesCard.stood.harness true
  zil (λ _ h=>by cases h) (by kernel_rfl) (λ _ h=>by cases h) decodes_row_tie rfl ⟨rfl,rfl⟩ (by kernel_rfl) rfl
  (λ f b d e=>by
   obtain rfl:f=4:=Option.some.inj ((show Tryz.prog.funcNamed "kin/kinlaw.Decodes" = some 4 by kernel_rfl).symm.trans d) |>.symm
   obtain rfl:b=Tryz.f4:=(Option.some.inj (func4.symm.trans e)).symm
   exact⟨by kernel_rfl,λ j t a=>by
    rw[Tryz.params4] at a
    have c:t=9:=by
     rcases j with _|_|j
     ·simpa using a.symm
     ·simpa using a.symm
     ·simp at a
    subst c
    exact(show Tryz.prog.wantsStandIn 9=false by kernel_rfl)⟩)
  (by kernel_rfl)
end Go.Proofs.YtiifagiebikmdaaGreatDoor
