import Derived.Test.YtiifagiebikmdaaGreatDoorAG50
import Derived.Test.YtiifagiebikmdaaGreatDoorAG49
import Derived.Test.YtiifagiebikmdaaGreatDoorTie
import Derived.Test.YtiifagiebikmdaaGreatDoorCards
import Derived.SevenTiedAt
namespace Go.Proofs.YtiifagiebikmdaaGreatDoor
open Go.ChangeShapes Go.WideShapes Go.ChangeAt Go.RowKit
open Go.ChangeMaps (open_string shut_string)
theorem again_laid {W:World}(s d:ByteArray) (h:laidMetH Tryz.prog Rows.againRow.laid W) :
 Calls Tryz.prog 6 #[.string s,.string d] W fun e w'=>e=.returned (.bool true)∧Fr W w' (fun _=>False):=by
 obtain⟨A,S,hI,hQ,hP,hT⟩:=laid_gives h
 exact again_any ⟨S,hI,hQ,hP,appInt_ok hT⟩
set_option maxRecDepth 100000 in
theorem again_lifted (os:Os) (started:os.Started) (H:Type) (enc:TypeId×Value→H) :
 ReturnsInHanded {} Tryz.checked os 6 .any (fun w args=>(Rows.againSpec.pre enc Tryz.prog Tryz.f6 [] false w args∧laidMetH Tryz.prog Rows.againRow.laid w)∧sizedMet enc Tryz.prog Tryz.f6 (OpenSpec.ofChange Rows.againSpec) false w args)
  (Rows.againSpec.post enc Tryz.prog Tryz.f6 false true false false):=by
 refine returnsInHanded_of_change_and (C:=Tryz.checked) (X:=fun w _=>laidMetH Tryz.prog Rows.againRow.laid w) (fun _ _ _ hh h=>laidMetH.of_heap hh h) Tryz.own started (by kernel_rfl) Tryz.func6
  (ChangeSpec.witness_shaped (enc:=enc) (C:=Tryz.checked) (os:=os) (X:=fun w _=>laidMetH Tryz.prog Rows.againRow.laid w) false ((World.holding Tryz.prog os ⟨#[],#[],[]⟩).layVars Tryz.prog laidPlain) #[.string ⟨#[]⟩,.string ⟨#[]⟩] 8 (laidWorld_os os)
   (laidWorld_shaped os _) (by kernel_rfl) (by kernel_rfl) (by kernel_rfl) (laidWorld_met os _)) ?_
 intro W base args ds gs before hval0 hW _ _ hL _
 have hval:∀ (j:Nat) t v,Tryz.f6.params[j]?=some t→args[j]?=some v→Value.okWide Tryz.prog W .any base t v:=hval0
 have hW':=hW
 obtain⟨p,q,hA0,hV,rfl,_,_⟩:=hW
 have hA:DataW.TrodAll enc Tryz.prog W 0 (fun _=>true) true Tryz.f6.params.toList args.toList ds p:=hA0
 rw[Tryz.params6] at hA hval
 obtain⟨v0,v1,d0,d1,p0,p1,rfl,rfl,rfl,h0,h1⟩:=trodAll_two hA
 obtain⟨rfl,rfl⟩:=trodVars_none hV
 obtain⟨s,rfl,rfl,rfl,ws⟩:=open_string Tryz.underlying9 (hval 0 9 v0 rfl rfl) h0
 obtain⟨d,rfl,rfl,rfl,wd⟩:=open_string Tryz.underlying9 (hval 1 9 v1 rfl rfl) h1
 simp only[List.append_nil] at hW'
 refine(again_laid s d hL).mono fun e W' ⟨he,hf⟩=>?_
 subst he
 exact⟨_,rfl,_,_,_,[],[],[],hW',trodAll_mk1 (shut_bool Tryz.underlying4 _),trodAll_mk2 (shut_string Tryz.underlying9 ws) (shut_string Tryz.underlying9 wd),rfl,hf.kept.frame _,fun h=>by cases h⟩
theorem again_holds:Rows.AgainSaid:=
 OpenClaim.holds_of_wide 6 Tryz.f6 rfl rfl rfl rfl rfl rfl rfl ⟨rfl,rfl,rfl,rfl,rfl⟩ rfl rfl rfl rfl rfl (by kernel_rfl) Tryz.func6 (by kernel_rfl)
  (of_decide_eq_true (by kernel_rfl)) (by unfold Func.isWrapper;rw[if_neg (of_decide_eq_false (by kernel_rfl))];exact⟨rfl,rfl⟩)
  (fun os started H enc _=>again_lifted os started H enc)
open Go
theorem again_card:Rows.AgainCardSaid:=
 Claim7.holds_tied_plain_at .later [] Rows.againCard.laidKinds true Rows.againCard.stood.harness true
  again_holds (fun _ h=>by cases h) (by kernel_rfl) (fun _ h=>by cases h) again_row_tie rfl ⟨rfl,rfl⟩ (by kernel_rfl) rfl
  (fun f fn hf hfn=>by
   obtain rfl:f=6:=Option.some.inj ((show Tryz.prog.funcNamed "kin/kinlaw.Again" = some 6 by kernel_rfl).symm.trans hf) |>.symm
   obtain rfl:fn=Tryz.f6:=(Option.some.inj (Tryz.func6.symm.trans hfn)).symm
   exact⟨by kernel_rfl,fun j t ht=>by
    rw[Tryz.params6] at ht
    have h9:t=9:=by
     rcases j with _|_|j
     ·simpa using ht.symm
     ·simpa using ht.symm
     ·simp at ht
    subst h9
    exact(show Tryz.prog.wantsStandIn 9=false by kernel_rfl)⟩)
  (by kernel_rfl)
end Go.Proofs.YtiifagiebikmdaaGreatDoor
