import Derived.Test.YthndngbnioacpaaGreatDoorW43
import Derived.Stop.Joined
import Derived.Test.YthndngbnioacpaaGreatDoorW42
import Derived.Test.YthndngbnioacpaaGreatDoorW38
import Derived.Test.YthndngbnioacpaaGreatDoorTie
import Derived.Test.YthndngbnioacpaaGreatDoorCards
import Derived.SevenTiedAt
namespace Go.Proofs.YthndngbnioacpaaGreatDoor
open Go.ChangeShapes Go.WideShapes Go.ChangeAt Go.RowKit
open Go.ChangeMaps (open_string shut_string)
theorem Tryz.own : ownKnob Tryz.prog.godebug = none := by kernel_rfl
theorem clone_ok : CloneOK := by
  intro s w hs
  refine (Tryz.stringslite_Clone s w (by omega)).mono ?_
  rintro e w' ⟨rfl, hb⟩
  exact ⟨rfl, Fr.ofBelow hb⟩
theorem sentL_names : ∀ g ∈ sentL, ∃ x ∈ errNames, x.1 = g := by decide
theorem var_cell {W : World} {n : String} {g : Nat} {v : Value} (hg : Tryz.prog.globalNamed n = some g) (h : W.var? Tryz.prog n = some #[v]) : W.cell? ⟨g, 0, none⟩ = some v := by simpa using World.var?_cell hg h 0
theorem law_laid {W : World} (s : ByteArray) (h : laidMetH Tryz.prog Rows.schemasRow.laid W) :
    Calls Tryz.prog 3 #[.string s] W fun e w' => e = .returned (.bool true) ∧ Fr W w' (fun _ => False) := by
  obtain ⟨hL, hH⟩ := laid_parts h
  obtain ⟨A, hv, hr, hne⟩ := errs_of_laid hL
  have S : Sents A W := by
    refine ⟨fun g hg => ?_, fun g hg => ?_, fun g hg g' hg' e => ?_⟩
    · obtain ⟨x, hx, rfl⟩ := sentL_names g hg
      exact var_cell (errNames_g x hx) (hv x hx)
    · obtain ⟨x, hx, rfl⟩ := sentL_names g hg
      exact hr x hx
    · obtain ⟨x, hx, rfl⟩ := sentL_names g hg
      obtain ⟨y, hy, rfl⟩ := sentL_names g' hg'
      exact hne x hx y hy e
  have h1 := hv (11, "strconv.ErrSyntax", 5) (by decide)
  have h2 := hv (12, "strconv.ErrRange", 4) (by decide)
  exact law_any S (errTy_of_laid hH) (itoa_ok (pow10_of_laid hL)) (quote_ok (print_of_laid hL) (utf8_of_laid hL)) (num_all (parseInt_ok h1 h2)) clone_ok
theorem Fr.kept {W W' : World} (h : Fr W W' (fun _ => False)) : Below W.heap.size W W' := ⟨h.os, h.tape, h.output, h.size, fun k hk => h.block k hk id⟩
set_option maxRecDepth 100000 in
theorem schemas_lifted (os : Os) (started : os.Started) (H : Type) (enc : TypeId × Value → H) :
    ReturnsInHanded {} Tryz.checked os 3 .any (fun w args => (Rows.schemasSpec.pre enc Tryz.prog Tryz.f3 [] false w args ∧ laidMetH Tryz.prog Rows.schemasRow.laid w) ∧ sizedMet enc Tryz.prog Tryz.f3 (OpenSpec.ofChange Rows.schemasSpec) false w args)
      (Rows.schemasSpec.post enc Tryz.prog Tryz.f3 false true false false) := by
  refine returnsInHanded_of_change_and (C := Tryz.checked) (X := fun w _ => laidMetH Tryz.prog Rows.schemasRow.laid w) (fun _ _ _ hh h => laidMetH.of_heap hh h) Tryz.own started (by kernel_rfl) Tryz.func3
    (ChangeSpec.witness_shaped (enc := enc) (C := Tryz.checked) (os := os) (X := fun w _ => laidMetH Tryz.prog Rows.schemasRow.laid w) false ((heldWorld (World.holding Tryz.prog os ⟨#[], #[], []⟩)).layVars Tryz.prog laidPlain) #[.string ⟨#[]⟩] 8 (laidWorld_os os)
      (laidWorld_shaped os _) (by kernel_rfl) (by kernel_rfl) (by kernel_rfl) (laidWorld_met os _)) ?_
  intro W base args ds gs before hval0 hW _ _ hL _
  have hval : ∀ (j : Nat) t v, Tryz.f3.params[j]? = some t → args[j]? = some v → Value.okWide Tryz.prog W .any base t v := hval0
  have hW' := hW
  obtain ⟨p, q, hA0, hV, rfl, _, _⟩ := hW
  have hA : DataW.TrodAll enc Tryz.prog W 0 (fun _ => true) true Tryz.f3.params.toList args.toList ds p := hA0
  rw [Tryz.params3] at hA hval
  obtain ⟨v0, d0, rfl, rfl, h0⟩ := trodAll_one hA
  obtain ⟨rfl, rfl⟩ := trodVars_none hV
  obtain ⟨s, rfl, rfl, rfl, ws⟩ := open_string Tryz.underlying9 (hval 0 9 v0 rfl rfl) h0
  simp only [List.append_nil] at hW'
  refine (law_laid s hL).mono fun e W' ⟨he, hf⟩ => ?_
  subst he
  exact ⟨_, rfl, _, _, _, [], [], [], hW', trodAll_mk1 (shut_bool Tryz.underlying4 _), trodAll_mk1 (shut_string Tryz.underlying9 ws), rfl, hf.kept.frame _, fun h => by cases h⟩
theorem schemas_holds : Rows.SchemasSaid :=
  OpenClaim.holds_of_wide 3 Tryz.f3 rfl rfl rfl rfl rfl rfl rfl ⟨rfl, rfl, rfl, rfl, rfl⟩ rfl rfl rfl rfl rfl (by kernel_rfl) Tryz.func3 (by kernel_rfl)
    (of_decide_eq_true (by kernel_rfl)) (by unfold Func.isWrapper; rw [if_neg (of_decide_eq_false (by kernel_rfl))]; exact ⟨rfl, rfl⟩)
    (fun os started H enc _ => schemas_lifted os started H enc)
end Go.Proofs.YthndngbnioacpaaGreatDoor
namespace Go.Proofs.YthndngbnioacpaaGreatDoor
open Go
theorem schemas_card : Rows.SchemasCardSaid :=
  Claim7.holds_tied_plain_at .later [] Rows.schemasCard.laidKinds true Rows.schemasCard.stood.harness true
    schemas_holds (fun _ h => by cases h) (by kernel_rfl) (fun _ h => by cases h) schemas_row_tie rfl ⟨rfl, rfl⟩ (by kernel_rfl) rfl
    (fun f fn hf hfn => by
      obtain rfl : f = 3 := Option.some.inj ((show Tryz.prog.funcNamed "kin/kinlaw.Schemas" = some 3 by kernel_rfl).symm.trans hf) |>.symm
      obtain rfl : fn = Tryz.f3 := (Option.some.inj (Tryz.func3.symm.trans hfn)).symm
      exact ⟨by kernel_rfl, fun j t ht => by
        rw [Tryz.params3] at ht
        have h9 : t = 9 := by
          rcases j with _ | j
          · simpa using ht.symm
          · simp at ht
        subst h9
        exact (show Tryz.prog.wantsStandIn 9 = false by kernel_rfl)⟩)
    (by kernel_rfl)
end Go.Proofs.YthndngbnioacpaaGreatDoor
