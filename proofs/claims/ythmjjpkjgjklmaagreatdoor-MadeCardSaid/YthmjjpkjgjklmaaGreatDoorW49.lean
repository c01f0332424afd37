import Derived.Test.YthmjjpkjgjklmaaGreatDoorW48
import Derived.Test.YthmjjpkjgjklmaaGreatDoorW47
import Derived.Test.YthmjjpkjgjklmaaGreatDoorTie
import Derived.Test.YthmjjpkjgjklmaaGreatDoorCards
import Derived.SevenTiedAt
import Derived.Test.YthmjjpkjgjklmaaGreatDoorA00
set_option maxHeartbeats 16000000
set_option maxRecDepth 100000
set_option linter.unusedSimpArgs false
open Go.Proofs.Tryz
namespace Go.Proofs.YthmjjpkjgjklmaaGreatDoor
open Go.ChangeShapes Go.WideShapes Go.ChangeAt Go.RowKit
open Go.ChangeMaps (open_string shut_string)
theorem zs8 {W:World}(s d x:BA) (h:laidMetH prog Rows.madeRow.laid W) :
 Calls prog 4 #[.string s,.string d,.string x] W λ e w'=>e=.returned (.bool true)/\Fr W w' (λ _=>False):=by
 obtain⟨A,S,hI,hQ,hP,hT⟩:=zqf h;exact zwb ⟨S,hI,hQ,hP,zul hT⟩
theorem zm7 (os:Os) (started:os.Started) (H:Type) (enc:TypeId×Value->H) :
 ReturnsInHanded {} Tryz.checked os 4 .any (λ w args=>(Rows.madeSpec.pre enc prog Tryz.f4 [] false w args/\laidMetH prog Rows.madeRow.laid w)/\sizedMet enc prog Tryz.f4 (OpenSpec.ofChange Rows.madeSpec) false w args)
  (Rows.madeSpec.post enc prog Tryz.f4 false true false false):=by
 refine returnsInHanded_of_change_and (C:=Tryz.checked) (X:=λ w _=>laidMetH prog Rows.madeRow.laid w) (λ _ _ _ hh h=>laidMetH.of_heap hh h) Tryz.own started (by kernel_rfl) func4
  (ChangeSpec.witness_shaped (enc:=enc) (C:=Tryz.checked) (os:=os) (X:=λ w _=>laidMetH prog Rows.madeRow.laid w) false ((World.holding prog os ⟨#[],#[],[]⟩).layVars prog zx_) #[.string ⟨#[]⟩,.string ⟨#[]⟩,.string ⟨#[]⟩] 8 (zk2 os)
   (zez os _) (by kernel_rfl) (by kernel_rfl) (by kernel_rfl) (ziy os _)) ?_
 intro W base args ds gs before hval0 hW _ _ hL _;have hval:∀ (j:Nat) t v,Tryz.f4.params[j]?=some t->args[j]?=some v->Value.okWide prog W .any base t v:=hval0;have hW':=hW;obtain⟨p,q,hA0,hV,rfl,_,_⟩:=hW;have hA:DataW.TrodAll enc prog W 0 (λ _=>true) true Tryz.f4.params.toList args.toList ds p:=hA0;rw[Tryz.params4] at hA hval;obtain⟨v0,v1,v2,d0,d1,d2,p0,p1,p2,rfl,rfl,rfl,h0,h1,h2⟩:=trodAll_three hA;obtain⟨rfl,rfl⟩:=trodVars_none hV;obtain⟨s,rfl,rfl,rfl,ws⟩:=open_string underlying9 (hval 0 9 v0 rfl rfl) h0;obtain⟨d,rfl,rfl,rfl,wd⟩:=open_string underlying9 (hval 1 9 v1 rfl rfl) h1;obtain⟨x,rfl,rfl,rfl,wx⟩:=open_string underlying9 (hval 2 9 v2 rfl rfl) h2;simp only[a8_] at hW';refine(zs8 s d x hL).mono λ e W' ⟨he,hf⟩=>?_;subst he;exact⟨_,rfl,_,_,_,[],[],[],hW',trodAll_mk1 (shut_bool underlying4 _),trodAll_mk3 (shut_string underlying9 ws) (shut_string underlying9 wd) (shut_string underlying9 wx),rfl,hf.kept.frame _,λ h=>by cases h⟩
theorem zm8:joinedFacts prog 4 Tryz.f4 Rows.madeSpec Rows.madeRow=true:=by
 unfold joinedFacts;simp only[a9_]
 repeat' apply And.intro
 ·as_aux_lemma=>kernel_rfl
 ·as_aux_lemma=>kernel_rfl
 ·as_aux_lemma=>kernel_rfl
 ·as_aux_lemma=>kernel_rfl
 ·as_aux_lemma=>kernel_rfl
 ·as_aux_lemma=>kernel_rfl
 ·as_aux_lemma=>kernel_rfl
 ·as_aux_lemma=>kernel_rfl
 ·as_aux_lemma=>kernel_rfl
 ·as_aux_lemma=>kernel_rfl
 ·as_aux_lemma=>kernel_rfl
 ·as_aux_lemma=>kernel_rfl
 ·as_aux_lemma=>kernel_rfl
 ·as_aux_lemma=>kernel_rfl
 ·as_aux_lemma=>kernel_rfl
 ·as_aux_lemma=>kernel_rfl
 ·as_aux_lemma=>kernel_rfl
 ·as_aux_lemma=>kernel_rfl
 ·as_aux_lemma=>kernel_rfl
 ·as_aux_lemma=>kernel_rfl
 ·as_aux_lemma=>kernel_rfl
 ·as_aux_lemma=>kernel_rfl
 ·as_aux_lemma=>kernel_rfl
 ·as_aux_lemma=>kernel_rfl
 ·as_aux_lemma=>kernel_rfl
 ·as_aux_lemma=>kernel_rfl
 ·as_aux_lemma=>kernel_rfl
 ·as_aux_lemma=>kernel_rfl
 ·as_aux_lemma=>kernel_rfl
 ·as_aux_lemma=>kernel_rfl
 ·as_aux_lemma=>kernel_rfl
 ·as_aux_lemma=>kernel_rfl
theorem zqa:Tryz.prog.funcNamed Rows.madeRow.func=some 4:=by kernel_rfl
theorem zs9:Tryz.f4.isInstance prog Rows.madeRow.origin Rows.madeRow.targs:=of_decide_eq_true (by kernel_rfl)
theorem zs7:Tryz.f4.isWrapper prog Rows.madeRow.wrapper Rows.madeRow.mainSum:=by unfold Func.isWrapper;rw[if_neg (of_decide_eq_false (by kernel_rfl))];exact⟨rfl,rfl⟩
theorem zqb:Rows.MadeSaid:=
 OpenClaim.holds_of_wide 4 Tryz.f4 rfl rfl rfl rfl rfl rfl rfl ⟨rfl,rfl,rfl,rfl,rfl⟩ rfl rfl rfl rfl rfl zqa func4 zm8 zs9 zs7
  (λ os started H enc _=>zm7 os started H enc)
open Go
theorem made_card:Rows.MadeCardSaid:=
 Claim7.holds_tied_plain_at .later [] Rows.madeCard.laidKinds true Rows.madeCard.stood.harness true
  zqb (λ _ h=>by cases h) (by kernel_rfl) (λ _ h=>by cases h) made_row_tie rfl ⟨rfl,rfl⟩ (by kernel_rfl) rfl
  (λ f fn hf hfn=>by
   obtain rfl:f=4:=Option.some.inj ((show Tryz.prog.funcNamed "kin/kinlaw.Made" = some 4 by kernel_rfl).symm.trans hf) |>.symm
   obtain rfl:fn=Tryz.f4:=(Option.some.inj (func4.symm.trans hfn)).symm
   exact⟨by kernel_rfl,λ j t ht=>by
    rw[Tryz.params4] at ht
    have h9:t=9:=by
     rcases j with _|_|_|j
     ·simpa using ht.symm
     ·simpa using ht.symm
     ·simpa using ht.symm
     ·simp at ht
    subst h9
    exact(show Tryz.prog.wantsStandIn 9=false by kernel_rfl)⟩)
  (by kernel_rfl)
end Go.Proofs.YthmjjpkjgjklmaaGreatDoor
