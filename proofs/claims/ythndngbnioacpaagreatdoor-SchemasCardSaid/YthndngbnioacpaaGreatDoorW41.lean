import Derived.Test.YthndngbnioacpaaGreatDoorW40
namespace Go.Proofs.YthndngbnioacpaaGreatDoor
open Go.RowKit
def sentL : List Nat := [0, 1, 2, 3, 4, 5, 6, 7, 8, 9]
structure Sents (A : Nat → Addr) (w : World) : Prop where
  var : ∀ g ∈ sentL, ErrV g w 266 (.pointer (some (A g)))
  row : ∀ g ∈ sentL, ∃ c t, w.heap[(A g).block]? = some (.cells c t (0, 0))
  ne : ∀ g ∈ sentL, ∀ g' ∈ sentL, g ≠ g' → A g ≠ A g'
theorem Sents.fr {A : Nat → Addr} {w w' : World} (h : Sents A w) (hf : Fr w w' (fun _ => False)) : Sents A w' := by
  refine ⟨fun g hg => (h.var g hg).fr hf id, fun g hg => ?_, h.ne⟩
  obtain ⟨c, t, hr⟩ := h.row g hg
  have hl : (A g).block < w.heap.size := by
    by_cases hh : (A g).block < w.heap.size
    · exact hh
    · rw [Array.getElem?_eq_none (by omega)] at hr; cases hr
  exact ⟨c, t, (hf.block _ hl id).trans hr⟩
theorem eIs_sent {A : Nat → Addr} {w : World} (S : Sents A w) {g g0 n : Nat} {E : Value} (hg0 : g0 ∈ sentL) (hg : g ∈ sentL) (h : Chain w (A g0) n E) :
    Calls Tryz.prog 19 #[E, .iface 266 (.pointer (some (A g)))] w fun e w' => e = .returned (.bool (decide (g0 = g))) ∧ w' = w := by
  obtain ⟨c, t, ha⟩ := S.row g0 hg0
  obtain ⟨c', t', hb⟩ := S.row g hg
  refine (eIs_any ha hb h).mono ?_
  rintro e w' ⟨rfl, rfl⟩
  refine ⟨?_, rfl⟩
  by_cases e : g0 = g
  · subst e; simp
  · simp [e, S.ne g0 hg0 g hg e]
set_option maxHeartbeats 2000000 in
set_option maxRecDepth 100000 in
theorem isLong_schemasErrLong {A : Nat → Addr} {w : World} (S : Sents A w) {n : Nat} {E : Value} (h : Chain w (A 0) n E) :
    Calls Tryz.prog 18 #[E] w fun e w' => e = .returned (.bool true) ∧ w' = w := by
  have vschemasErrLong := S.var 0 (by decide)
  have vnotationErrLong := S.var 8 (by decide)
  have vwireErrLong := S.var 9 (by decide)
  unfold ErrV at vschemasErrLong vnotationErrLong vwireErrLong
  have hschemasErrLong := hide (eIs_sent S (g0 := 0) (g := 0) (by decide) (by decide) h)
  have hnotationErrLong := hide (eIs_sent S (g0 := 0) (g := 8) (by decide) (by decide) h)
  have hwireErrLong := hide (eIs_sent S (g0 := 0) (g := 9) (by decide) (by decide) h)
  obtain ⟨T1, x1, rfl⟩ := h.iface
  clear h S
  go_enter Tryz.func18, Tryz.ntmps18
  go_wp2_with (go_at_call 19; first | (with_reducible refine hschemasErrLong.out.mono ?_; rintro e w' ⟨rfl, rfl⟩) | (with_reducible refine hnotationErrLong.out.mono ?_; rintro e w' ⟨rfl, rfl⟩) | (with_reducible refine hwireErrLong.out.mono ?_; rintro e w' ⟨rfl, rfl⟩))
  go_ret
  exact ⟨rfl, rfl⟩
set_option maxHeartbeats 4000000 in
set_option maxRecDepth 100000 in
theorem number_schemasErrLong {A : Nat → Addr} {w : World} (S : Sents A w) {n : Nat} {E : Value} (h : Chain w (A 0) n E) :
    Calls Tryz.prog 8 #[E] w fun e w' => e = .returned (.int .i64 1) ∧ w' = w := by
  have vschemasErrGrammar := S.var 1 (by decide)
  have vschemasErrName := S.var 2 (by decide)
  have vschemasErrUnion := S.var 3 (by decide)
  have vnotationErrNotOf := S.var 4 (by decide)
  have vwireErrData := S.var 5 (by decide)
  have vdataErrBig := S.var 6 (by decide)
  have vreadingErrNothing := S.var 7 (by decide)
  unfold ErrV at vschemasErrGrammar vschemasErrName vschemasErrUnion vnotationErrNotOf vwireErrData vdataErrBig vreadingErrNothing
  have hL := hide (isLong_schemasErrLong S h)
  have hschemasErrGrammar := hide (eIs_sent S (g0 := 0) (g := 1) (by decide) (by decide) h)
  have hschemasErrName := hide (eIs_sent S (g0 := 0) (g := 2) (by decide) (by decide) h)
  have hschemasErrUnion := hide (eIs_sent S (g0 := 0) (g := 3) (by decide) (by decide) h)
  have hnotationErrNotOf := hide (eIs_sent S (g0 := 0) (g := 4) (by decide) (by decide) h)
  have hwireErrData := hide (eIs_sent S (g0 := 0) (g := 5) (by decide) (by decide) h)
  have hdataErrBig := hide (eIs_sent S (g0 := 0) (g := 6) (by decide) (by decide) h)
  have hreadingErrNothing := hide (eIs_sent S (g0 := 0) (g := 7) (by decide) (by decide) h)
  obtain ⟨T1, x1, rfl⟩ := h.iface
  clear h S
  go_enter Tryz.func8, Tryz.ntmps8
  go_wp2_with (first
    | (go_at_call 18; refine hL.out.mono ?_; rintro e w' ⟨rfl, rfl⟩)
    | (go_at_call 19; first | (with_reducible refine hschemasErrGrammar.out.mono ?_; rintro e w' ⟨rfl, rfl⟩) | (with_reducible refine hschemasErrName.out.mono ?_; rintro e w' ⟨rfl, rfl⟩) | (with_reducible refine hschemasErrUnion.out.mono ?_; rintro e w' ⟨rfl, rfl⟩) | (with_reducible refine hnotationErrNotOf.out.mono ?_; rintro e w' ⟨rfl, rfl⟩) | (with_reducible refine hwireErrData.out.mono ?_; rintro e w' ⟨rfl, rfl⟩) | (with_reducible refine hdataErrBig.out.mono ?_; rintro e w' ⟨rfl, rfl⟩) | (with_reducible refine hreadingErrNothing.out.mono ?_; rintro e w' ⟨rfl, rfl⟩)))
  go_ret
  exact ⟨rfl, rfl⟩
set_option maxHeartbeats 2000000 in
set_option maxRecDepth 100000 in
theorem isLong_schemasErrGrammar {A : Nat → Addr} {w : World} (S : Sents A w) {n : Nat} {E : Value} (h : Chain w (A 1) n E) :
    Calls Tryz.prog 18 #[E] w fun e w' => e = .returned (.bool false) ∧ w' = w := by
  have vschemasErrLong := S.var 0 (by decide)
  have vnotationErrLong := S.var 8 (by decide)
  have vwireErrLong := S.var 9 (by decide)
  unfold ErrV at vschemasErrLong vnotationErrLong vwireErrLong
  have hschemasErrLong := hide (eIs_sent S (g0 := 1) (g := 0) (by decide) (by decide) h)
  have hnotationErrLong := hide (eIs_sent S (g0 := 1) (g := 8) (by decide) (by decide) h)
  have hwireErrLong := hide (eIs_sent S (g0 := 1) (g := 9) (by decide) (by decide) h)
  obtain ⟨T1, x1, rfl⟩ := h.iface
  clear h S
  go_enter Tryz.func18, Tryz.ntmps18
  go_wp2_with (go_at_call 19; first | (with_reducible refine hschemasErrLong.out.mono ?_; rintro e w' ⟨rfl, rfl⟩) | (with_reducible refine hnotationErrLong.out.mono ?_; rintro e w' ⟨rfl, rfl⟩) | (with_reducible refine hwireErrLong.out.mono ?_; rintro e w' ⟨rfl, rfl⟩))
  go_ret
  exact ⟨rfl, rfl⟩
set_option maxHeartbeats 4000000 in
set_option maxRecDepth 100000 in
theorem number_schemasErrGrammar {A : Nat → Addr} {w : World} (S : Sents A w) {n : Nat} {E : Value} (h : Chain w (A 1) n E) :
    Calls Tryz.prog 8 #[E] w fun e w' => e = .returned (.int .i64 2) ∧ w' = w := by
  have vschemasErrGrammar := S.var 1 (by decide)
  have vschemasErrName := S.var 2 (by decide)
  have vschemasErrUnion := S.var 3 (by decide)
  have vnotationErrNotOf := S.var 4 (by decide)
  have vwireErrData := S.var 5 (by decide)
  have vdataErrBig := S.var 6 (by decide)
  have vreadingErrNothing := S.var 7 (by decide)
  unfold ErrV at vschemasErrGrammar vschemasErrName vschemasErrUnion vnotationErrNotOf vwireErrData vdataErrBig vreadingErrNothing
  have hL := hide (isLong_schemasErrGrammar S h)
  have hschemasErrGrammar := hide (eIs_sent S (g0 := 1) (g := 1) (by decide) (by decide) h)
  have hschemasErrName := hide (eIs_sent S (g0 := 1) (g := 2) (by decide) (by decide) h)
  have hschemasErrUnion := hide (eIs_sent S (g0 := 1) (g := 3) (by decide) (by decide) h)
  have hnotationErrNotOf := hide (eIs_sent S (g0 := 1) (g := 4) (by decide) (by decide) h)
  have hwireErrData := hide (eIs_sent S (g0 := 1) (g := 5) (by decide) (by decide) h)
  have hdataErrBig := hide (eIs_sent S (g0 := 1) (g := 6) (by decide) (by decide) h)
  have hreadingErrNothing := hide (eIs_sent S (g0 := 1) (g := 7) (by decide) (by decide) h)
  obtain ⟨T1, x1, rfl⟩ := h.iface
  clear h S
  go_enter Tryz.func8, Tryz.ntmps8
  go_wp2_with (first
    | (go_at_call 18; refine hL.out.mono ?_; rintro e w' ⟨rfl, rfl⟩)
    | (go_at_call 19; first | (with_reducible refine hschemasErrGrammar.out.mono ?_; rintro e w' ⟨rfl, rfl⟩) | (with_reducible refine hschemasErrName.out.mono ?_; rintro e w' ⟨rfl, rfl⟩) | (with_reducible refine hschemasErrUnion.out.mono ?_; rintro e w' ⟨rfl, rfl⟩) | (with_reducible refine hnotationErrNotOf.out.mono ?_; rintro e w' ⟨rfl, rfl⟩) | (with_reducible refine hwireErrData.out.mono ?_; rintro e w' ⟨rfl, rfl⟩) | (with_reducible refine hdataErrBig.out.mono ?_; rintro e w' ⟨rfl, rfl⟩) | (with_reducible refine hreadingErrNothing.out.mono ?_; rintro e w' ⟨rfl, rfl⟩)))
  go_ret
  exact ⟨rfl, rfl⟩
set_option maxHeartbeats 2000000 in
set_option maxRecDepth 100000 in
theorem isLong_schemasErrName {A : Nat → Addr} {w : World} (S : Sents A w) {n : Nat} {E : Value} (h : Chain w (A 2) n E) :
    Calls Tryz.prog 18 #[E] w fun e w' => e = .returned (.bool false) ∧ w' = w := by
  have vschemasErrLong := S.var 0 (by decide)
  have vnotationErrLong := S.var 8 (by decide)
  have vwireErrLong := S.var 9 (by decide)
  unfold ErrV at vschemasErrLong vnotationErrLong vwireErrLong
  have hschemasErrLong := hide (eIs_sent S (g0 := 2) (g := 0) (by decide) (by decide) h)
  have hnotationErrLong := hide (eIs_sent S (g0 := 2) (g := 8) (by decide) (by decide) h)
  have hwireErrLong := hide (eIs_sent S (g0 := 2) (g := 9) (by decide) (by decide) h)
  obtain ⟨T1, x1, rfl⟩ := h.iface
  clear h S
  go_enter Tryz.func18, Tryz.ntmps18
  go_wp2_with (go_at_call 19; first | (with_reducible refine hschemasErrLong.out.mono ?_; rintro e w' ⟨rfl, rfl⟩) | (with_reducible refine hnotationErrLong.out.mono ?_; rintro e w' ⟨rfl, rfl⟩) | (with_reducible refine hwireErrLong.out.mono ?_; rintro e w' ⟨rfl, rfl⟩))
  go_ret
  exact ⟨rfl, rfl⟩
set_option maxHeartbeats 4000000 in
set_option maxRecDepth 100000 in
theorem number_schemasErrName {A : Nat → Addr} {w : World} (S : Sents A w) {n : Nat} {E : Value} (h : Chain w (A 2) n E) :
    Calls Tryz.prog 8 #[E] w fun e w' => e = .returned (.int .i64 3) ∧ w' = w := by
  have vschemasErrGrammar := S.var 1 (by decide)
  have vschemasErrName := S.var 2 (by decide)
  have vschemasErrUnion := S.var 3 (by decide)
  have vnotationErrNotOf := S.var 4 (by decide)
  have vwireErrData := S.var 5 (by decide)
  have vdataErrBig := S.var 6 (by decide)
  have vreadingErrNothing := S.var 7 (by decide)
  unfold ErrV at vschemasErrGrammar vschemasErrName vschemasErrUnion vnotationErrNotOf vwireErrData vdataErrBig vreadingErrNothing
  have hL := hide (isLong_schemasErrName S h)
  have hschemasErrGrammar := hide (eIs_sent S (g0 := 2) (g := 1) (by decide) (by decide) h)
  have hschemasErrName := hide (eIs_sent S (g0 := 2) (g := 2) (by decide) (by decide) h)
  have hschemasErrUnion := hide (eIs_sent S (g0 := 2) (g := 3) (by decide) (by decide) h)
  have hnotationErrNotOf := hide (eIs_sent S (g0 := 2) (g := 4) (by decide) (by decide) h)
  have hwireErrData := hide (eIs_sent S (g0 := 2) (g := 5) (by decide) (by decide) h)
  have hdataErrBig := hide (eIs_sent S (g0 := 2) (g := 6) (by decide) (by decide) h)
  have hreadingErrNothing := hide (eIs_sent S (g0 := 2) (g := 7) (by decide) (by decide) h)
  obtain ⟨T1, x1, rfl⟩ := h.iface
  clear h S
  go_enter Tryz.func8, Tryz.ntmps8
  go_wp2_with (first
    | (go_at_call 18; refine hL.out.mono ?_; rintro e w' ⟨rfl, rfl⟩)
    | (go_at_call 19; first | (with_reducible refine hschemasErrGrammar.out.mono ?_; rintro e w' ⟨rfl, rfl⟩) | (with_reducible refine hschemasErrName.out.mono ?_; rintro e w' ⟨rfl, rfl⟩) | (with_reducible refine hschemasErrUnion.out.mono ?_; rintro e w' ⟨rfl, rfl⟩) | (with_reducible refine hnotationErrNotOf.out.mono ?_; rintro e w' ⟨rfl, rfl⟩) | (with_reducible refine hwireErrData.out.mono ?_; rintro e w' ⟨rfl, rfl⟩) | (with_reducible refine hdataErrBig.out.mono ?_; rintro e w' ⟨rfl, rfl⟩) | (with_reducible refine hreadingErrNothing.out.mono ?_; rintro e w' ⟨rfl, rfl⟩)))
  go_ret
  exact ⟨rfl, rfl⟩
set_option maxHeartbeats 2000000 in
set_option maxRecDepth 100000 in
theorem isLong_schemasErrUnion {A : Nat → Addr} {w : World} (S : Sents A w) {n : Nat} {E : Value} (h : Chain w (A 3) n E) :
    Calls Tryz.prog 18 #[E] w fun e w' => e = .returned (.bool false) ∧ w' = w := by
  have vschemasErrLong := S.var 0 (by decide)
  have vnotationErrLong := S.var 8 (by decide)
  have vwireErrLong := S.var 9 (by decide)
  unfold ErrV at vschemasErrLong vnotationErrLong vwireErrLong
  have hschemasErrLong := hide (eIs_sent S (g0 := 3) (g := 0) (by decide) (by decide) h)
  have hnotationErrLong := hide (eIs_sent S (g0 := 3) (g := 8) (by decide) (by decide) h)
  have hwireErrLong := hide (eIs_sent S (g0 := 3) (g := 9) (by decide) (by decide) h)
  obtain ⟨T1, x1, rfl⟩ := h.iface
  clear h S
  go_enter Tryz.func18, Tryz.ntmps18
  go_wp2_with (go_at_call 19; first | (with_reducible refine hschemasErrLong.out.mono ?_; rintro e w' ⟨rfl, rfl⟩) | (with_reducible refine hnotationErrLong.out.mono ?_; rintro e w' ⟨rfl, rfl⟩) | (with_reducible refine hwireErrLong.out.mono ?_; rintro e w' ⟨rfl, rfl⟩))
  go_ret
  exact ⟨rfl, rfl⟩
set_option maxHeartbeats 4000000 in
set_option maxRecDepth 100000 in
theorem number_schemasErrUnion {A : Nat → Addr} {w : World} (S : Sents A w) {n : Nat} {E : Value} (h : Chain w (A 3) n E) :
    Calls Tryz.prog 8 #[E] w fun e w' => e = .returned (.int .i64 4) ∧ w' = w := by
  have vschemasErrGrammar := S.var 1 (by decide)
  have vschemasErrName := S.var 2 (by decide)
  have vschemasErrUnion := S.var 3 (by decide)
  have vnotationErrNotOf := S.var 4 (by decide)
  have vwireErrData := S.var 5 (by decide)
  have vdataErrBig := S.var 6 (by decide)
  have vreadingErrNothing := S.var 7 (by decide)
  unfold ErrV at vschemasErrGrammar vschemasErrName vschemasErrUnion vnotationErrNotOf vwireErrData vdataErrBig vreadingErrNothing
  have hL := hide (isLong_schemasErrUnion S h)
  have hschemasErrGrammar := hide (eIs_sent S (g0 := 3) (g := 1) (by decide) (by decide) h)
  have hschemasErrName := hide (eIs_sent S (g0 := 3) (g := 2) (by decide) (by decide) h)
  have hschemasErrUnion := hide (eIs_sent S (g0 := 3) (g := 3) (by decide) (by decide) h)
  have hnotationErrNotOf := hide (eIs_sent S (g0 := 3) (g := 4) (by decide) (by decide) h)
  have hwireErrData := hide (eIs_sent S (g0 := 3) (g := 5) (by decide) (by decide) h)
  have hdataErrBig := hide (eIs_sent S (g0 := 3) (g := 6) (by decide) (by decide) h)
  have hreadingErrNothing := hide (eIs_sent S (g0 := 3) (g := 7) (by decide) (by decide) h)
  obtain ⟨T1, x1, rfl⟩ := h.iface
  clear h S
  go_enter Tryz.func8, Tryz.ntmps8
  go_wp2_with (first
    | (go_at_call 18; refine hL.out.mono ?_; rintro e w' ⟨rfl, rfl⟩)
    | (go_at_call 19; first | (with_reducible refine hschemasErrGrammar.out.mono ?_; rintro e w' ⟨rfl, rfl⟩) | (with_reducible refine hschemasErrName.out.mono ?_; rintro e w' ⟨rfl, rfl⟩) | (with_reducible refine hschemasErrUnion.out.mono ?_; rintro e w' ⟨rfl, rfl⟩) | (with_reducible refine hnotationErrNotOf.out.mono ?_; rintro e w' ⟨rfl, rfl⟩) | (with_reducible refine hwireErrData.out.mono ?_; rintro e w' ⟨rfl, rfl⟩) | (with_reducible refine hdataErrBig.out.mono ?_; rintro e w' ⟨rfl, rfl⟩) | (with_reducible refine hreadingErrNothing.out.mono ?_; rintro e w' ⟨rfl, rfl⟩)))
  go_ret
  exact ⟨rfl, rfl⟩
set_option maxHeartbeats 2000000 in
set_option maxRecDepth 100000 in
theorem isLong_notationErrNotOf {A : Nat → Addr} {w : World} (S : Sents A w) {n : Nat} {E : Value} (h : Chain w (A 4) n E) :
    Calls Tryz.prog 18 #[E] w fun e w' => e = .returned (.bool false) ∧ w' = w := by
  have vschemasErrLong := S.var 0 (by decide)
  have vnotationErrLong := S.var 8 (by decide)
  have vwireErrLong := S.var 9 (by decide)
  unfold ErrV at vschemasErrLong vnotationErrLong vwireErrLong
  have hschemasErrLong := hide (eIs_sent S (g0 := 4) (g := 0) (by decide) (by decide) h)
  have hnotationErrLong := hide (eIs_sent S (g0 := 4) (g := 8) (by decide) (by decide) h)
  have hwireErrLong := hide (eIs_sent S (g0 := 4) (g := 9) (by decide) (by decide) h)
  obtain ⟨T1, x1, rfl⟩ := h.iface
  clear h S
  go_enter Tryz.func18, Tryz.ntmps18
  go_wp2_with (go_at_call 19; first | (with_reducible refine hschemasErrLong.out.mono ?_; rintro e w' ⟨rfl, rfl⟩) | (with_reducible refine hnotationErrLong.out.mono ?_; rintro e w' ⟨rfl, rfl⟩) | (with_reducible refine hwireErrLong.out.mono ?_; rintro e w' ⟨rfl, rfl⟩))
  go_ret
  exact ⟨rfl, rfl⟩
set_option maxHeartbeats 4000000 in
set_option maxRecDepth 100000 in
theorem number_notationErrNotOf {A : Nat → Addr} {w : World} (S : Sents A w) {n : Nat} {E : Value} (h : Chain w (A 4) n E) :
    Calls Tryz.prog 8 #[E] w fun e w' => e = .returned (.int .i64 5) ∧ w' = w := by
  have vschemasErrGrammar := S.var 1 (by decide)
  have vschemasErrName := S.var 2 (by decide)
  have vschemasErrUnion := S.var 3 (by decide)
  have vnotationErrNotOf := S.var 4 (by decide)
  have vwireErrData := S.var 5 (by decide)
  have vdataErrBig := S.var 6 (by decide)
  have vreadingErrNothing := S.var 7 (by decide)
  unfold ErrV at vschemasErrGrammar vschemasErrName vschemasErrUnion vnotationErrNotOf vwireErrData vdataErrBig vreadingErrNothing
  have hL := hide (isLong_notationErrNotOf S h)
  have hschemasErrGrammar := hide (eIs_sent S (g0 := 4) (g := 1) (by decide) (by decide) h)
  have hschemasErrName := hide (eIs_sent S (g0 := 4) (g := 2) (by decide) (by decide) h)
  have hschemasErrUnion := hide (eIs_sent S (g0 := 4) (g := 3) (by decide) (by decide) h)
  have hnotationErrNotOf := hide (eIs_sent S (g0 := 4) (g := 4) (by decide) (by decide) h)
  have hwireErrData := hide (eIs_sent S (g0 := 4) (g := 5) (by decide) (by decide) h)
  have hdataErrBig := hide (eIs_sent S (g0 := 4) (g := 6) (by decide) (by decide) h)
  have hreadingErrNothing := hide (eIs_sent S (g0 := 4) (g := 7) (by decide) (by decide) h)
  obtain ⟨T1, x1, rfl⟩ := h.iface
  clear h S
  go_enter Tryz.func8, Tryz.ntmps8
  go_wp2_with (first
    | (go_at_call 18; refine hL.out.mono ?_; rintro e w' ⟨rfl, rfl⟩)
    | (go_at_call 19; first | (with_reducible refine hschemasErrGrammar.out.mono ?_; rintro e w' ⟨rfl, rfl⟩) | (with_reducible refine hschemasErrName.out.mono ?_; rintro e w' ⟨rfl, rfl⟩) | (with_reducible refine hschemasErrUnion.out.mono ?_; rintro e w' ⟨rfl, rfl⟩) | (with_reducible refine hnotationErrNotOf.out.mono ?_; rintro e w' ⟨rfl, rfl⟩) | (with_reducible refine hwireErrData.out.mono ?_; rintro e w' ⟨rfl, rfl⟩) | (with_reducible refine hdataErrBig.out.mono ?_; rintro e w' ⟨rfl, rfl⟩) | (with_reducible refine hreadingErrNothing.out.mono ?_; rintro e w' ⟨rfl, rfl⟩)))
  go_ret
  exact ⟨rfl, rfl⟩
set_option maxHeartbeats 2000000 in
set_option maxRecDepth 100000 in
theorem isLong_wireErrData {A : Nat → Addr} {w : World} (S : Sents A w) {n : Nat} {E : Value} (h : Chain w (A 5) n E) :
    Calls Tryz.prog 18 #[E] w fun e w' => e = .returned (.bool false) ∧ w' = w := by
  have vschemasErrLong := S.var 0 (by decide)
  have vnotationErrLong := S.var 8 (by decide)
  have vwireErrLong := S.var 9 (by decide)
  unfold ErrV at vschemasErrLong vnotationErrLong vwireErrLong
  have hschemasErrLong := hide (eIs_sent S (g0 := 5) (g := 0) (by decide) (by decide) h)
  have hnotationErrLong := hide (eIs_sent S (g0 := 5) (g := 8) (by decide) (by decide) h)
  have hwireErrLong := hide (eIs_sent S (g0 := 5) (g := 9) (by decide) (by decide) h)
  obtain ⟨T1, x1, rfl⟩ := h.iface
  clear h S
  go_enter Tryz.func18, Tryz.ntmps18
  go_wp2_with (go_at_call 19; first | (with_reducible refine hschemasErrLong.out.mono ?_; rintro e w' ⟨rfl, rfl⟩) | (with_reducible refine hnotationErrLong.out.mono ?_; rintro e w' ⟨rfl, rfl⟩) | (with_reducible refine hwireErrLong.out.mono ?_; rintro e w' ⟨rfl, rfl⟩))
  go_ret
  exact ⟨rfl, rfl⟩
set_option maxHeartbeats 4000000 in
set_option maxRecDepth 100000 in
theorem number_wireErrData {A : Nat → Addr} {w : World} (S : Sents A w) {n : Nat} {E : Value} (h : Chain w (A 5) n E) :
    Calls Tryz.prog 8 #[E] w fun e w' => e = .returned (.int .i64 6) ∧ w' = w := by
  have vschemasErrGrammar := S.var 1 (by decide)
  have vschemasErrName := S.var 2 (by decide)
  have vschemasErrUnion := S.var 3 (by decide)
  have vnotationErrNotOf := S.var 4 (by decide)
  have vwireErrData := S.var 5 (by decide)
  have vdataErrBig := S.var 6 (by decide)
  have vreadingErrNothing := S.var 7 (by decide)
  unfold ErrV at vschemasErrGrammar vschemasErrName vschemasErrUnion vnotationErrNotOf vwireErrData vdataErrBig vreadingErrNothing
  have hL := hide (isLong_wireErrData S h)
  have hschemasErrGrammar := hide (eIs_sent S (g0 := 5) (g := 1) (by decide) (by decide) h)
  have hschemasErrName := hide (eIs_sent S (g0 := 5) (g := 2) (by decide) (by decide) h)
  have hschemasErrUnion := hide (eIs_sent S (g0 := 5) (g := 3) (by decide) (by decide) h)
  have hnotationErrNotOf := hide (eIs_sent S (g0 := 5) (g := 4) (by decide) (by decide) h)
  have hwireErrData := hide (eIs_sent S (g0 := 5) (g := 5) (by decide) (by decide) h)
  have hdataErrBig := hide (eIs_sent S (g0 := 5) (g := 6) (by decide) (by decide) h)
  have hreadingErrNothing := hide (eIs_sent S (g0 := 5) (g := 7) (by decide) (by decide) h)
  obtain ⟨T1, x1, rfl⟩ := h.iface
  clear h S
  go_enter Tryz.func8, Tryz.ntmps8
  go_wp2_with (first
    | (go_at_call 18; refine hL.out.mono ?_; rintro e w' ⟨rfl, rfl⟩)
    | (go_at_call 19; first | (with_reducible refine hschemasErrGrammar.out.mono ?_; rintro e w' ⟨rfl, rfl⟩) | (with_reducible refine hschemasErrName.out.mono ?_; rintro e w' ⟨rfl, rfl⟩) | (with_reducible refine hschemasErrUnion.out.mono ?_; rintro e w' ⟨rfl, rfl⟩) | (with_reducible refine hnotationErrNotOf.out.mono ?_; rintro e w' ⟨rfl, rfl⟩) | (with_reducible refine hwireErrData.out.mono ?_; rintro e w' ⟨rfl, rfl⟩) | (with_reducible refine hdataErrBig.out.mono ?_; rintro e w' ⟨rfl, rfl⟩) | (with_reducible refine hreadingErrNothing.out.mono ?_; rintro e w' ⟨rfl, rfl⟩)))
  go_ret
  exact ⟨rfl, rfl⟩
set_option maxHeartbeats 2000000 in
set_option maxRecDepth 100000 in
theorem isLong_dataErrBig {A : Nat → Addr} {w : World} (S : Sents A w) {n : Nat} {E : Value} (h : Chain w (A 6) n E) :
    Calls Tryz.prog 18 #[E] w fun e w' => e = .returned (.bool false) ∧ w' = w := by
  have vschemasErrLong := S.var 0 (by decide)
  have vnotationErrLong := S.var 8 (by decide)
  have vwireErrLong := S.var 9 (by decide)
  unfold ErrV at vschemasErrLong vnotationErrLong vwireErrLong
  have hschemasErrLong := hide (eIs_sent S (g0 := 6) (g := 0) (by decide) (by decide) h)
  have hnotationErrLong := hide (eIs_sent S (g0 := 6) (g := 8) (by decide) (by decide) h)
  have hwireErrLong := hide (eIs_sent S (g0 := 6) (g := 9) (by decide) (by decide) h)
  obtain ⟨T1, x1, rfl⟩ := h.iface
  clear h S
  go_enter Tryz.func18, Tryz.ntmps18
  go_wp2_with (go_at_call 19; first | (with_reducible refine hschemasErrLong.out.mono ?_; rintro e w' ⟨rfl, rfl⟩) | (with_reducible refine hnotationErrLong.out.mono ?_; rintro e w' ⟨rfl, rfl⟩) | (with_reducible refine hwireErrLong.out.mono ?_; rintro e w' ⟨rfl, rfl⟩))
  go_ret
  exact ⟨rfl, rfl⟩
set_option maxHeartbeats 4000000 in
set_option maxRecDepth 100000 in
theorem number_dataErrBig {A : Nat → Addr} {w : World} (S : Sents A w) {n : Nat} {E : Value} (h : Chain w (A 6) n E) :
    Calls Tryz.prog 8 #[E] w fun e w' => e = .returned (.int .i64 7) ∧ w' = w := by
  have vschemasErrGrammar := S.var 1 (by decide)
  have vschemasErrName := S.var 2 (by decide)
  have vschemasErrUnion := S.var 3 (by decide)
  have vnotationErrNotOf := S.var 4 (by decide)
  have vwireErrData := S.var 5 (by decide)
  have vdataErrBig := S.var 6 (by decide)
  have vreadingErrNothing := S.var 7 (by decide)
  unfold ErrV at vschemasErrGrammar vschemasErrName vschemasErrUnion vnotationErrNotOf vwireErrData vdataErrBig vreadingErrNothing
  have hL := hide (isLong_dataErrBig S h)
  have hschemasErrGrammar := hide (eIs_sent S (g0 := 6) (g := 1) (by decide) (by decide) h)
  have hschemasErrName := hide (eIs_sent S (g0 := 6) (g := 2) (by decide) (by decide) h)
  have hschemasErrUnion := hide (eIs_sent S (g0 := 6) (g := 3) (by decide) (by decide) h)
  have hnotationErrNotOf := hide (eIs_sent S (g0 := 6) (g := 4) (by decide) (by decide) h)
  have hwireErrData := hide (eIs_sent S (g0 := 6) (g := 5) (by decide) (by decide) h)
  have hdataErrBig := hide (eIs_sent S (g0 := 6) (g := 6) (by decide) (by decide) h)
  have hreadingErrNothing := hide (eIs_sent S (g0 := 6) (g := 7) (by decide) (by decide) h)
  obtain ⟨T1, x1, rfl⟩ := h.iface
  clear h S
  go_enter Tryz.func8, Tryz.ntmps8
  go_wp2_with (first
    | (go_at_call 18; refine hL.out.mono ?_; rintro e w' ⟨rfl, rfl⟩)
    | (go_at_call 19; first | (with_reducible refine hschemasErrGrammar.out.mono ?_; rintro e w' ⟨rfl, rfl⟩) | (with_reducible refine hschemasErrName.out.mono ?_; rintro e w' ⟨rfl, rfl⟩) | (with_reducible refine hschemasErrUnion.out.mono ?_; rintro e w' ⟨rfl, rfl⟩) | (with_reducible refine hnotationErrNotOf.out.mono ?_; rintro e w' ⟨rfl, rfl⟩) | (with_reducible refine hwireErrData.out.mono ?_; rintro e w' ⟨rfl, rfl⟩) | (with_reducible refine hdataErrBig.out.mono ?_; rintro e w' ⟨rfl, rfl⟩) | (with_reducible refine hreadingErrNothing.out.mono ?_; rintro e w' ⟨rfl, rfl⟩)))
  go_ret
  exact ⟨rfl, rfl⟩
set_option maxHeartbeats 2000000 in
set_option maxRecDepth 100000 in
theorem isLong_readingErrNothing {A : Nat → Addr} {w : World} (S : Sents A w) {n : Nat} {E : Value} (h : Chain w (A 7) n E) :
    Calls Tryz.prog 18 #[E] w fun e w' => e = .returned (.bool false) ∧ w' = w := by
  have vschemasErrLong := S.var 0 (by decide)
  have vnotationErrLong := S.var 8 (by decide)
  have vwireErrLong := S.var 9 (by decide)
  unfold ErrV at vschemasErrLong vnotationErrLong vwireErrLong
  have hschemasErrLong := hide (eIs_sent S (g0 := 7) (g := 0) (by decide) (by decide) h)
  have hnotationErrLong := hide (eIs_sent S (g0 := 7) (g := 8) (by decide) (by decide) h)
  have hwireErrLong := hide (eIs_sent S (g0 := 7) (g := 9) (by decide) (by decide) h)
  obtain ⟨T1, x1, rfl⟩ := h.iface
  clear h S
  go_enter Tryz.func18, Tryz.ntmps18
  go_wp2_with (go_at_call 19; first | (with_reducible refine hschemasErrLong.out.mono ?_; rintro e w' ⟨rfl, rfl⟩) | (with_reducible refine hnotationErrLong.out.mono ?_; rintro e w' ⟨rfl, rfl⟩) | (with_reducible refine hwireErrLong.out.mono ?_; rintro e w' ⟨rfl, rfl⟩))
  go_ret
  exact ⟨rfl, rfl⟩
set_option maxHeartbeats 4000000 in
set_option maxRecDepth 100000 in
theorem number_readingErrNothing {A : Nat → Addr} {w : World} (S : Sents A w) {n : Nat} {E : Value} (h : Chain w (A 7) n E) :
    Calls Tryz.prog 8 #[E] w fun e w' => e = .returned (.int .i64 8) ∧ w' = w := by
  have vschemasErrGrammar := S.var 1 (by decide)
  have vschemasErrName := S.var 2 (by decide)
  have vschemasErrUnion := S.var 3 (by decide)
  have vnotationErrNotOf := S.var 4 (by decide)
  have vwireErrData := S.var 5 (by decide)
  have vdataErrBig := S.var 6 (by decide)
  have vreadingErrNothing := S.var 7 (by decide)
  unfold ErrV at vschemasErrGrammar vschemasErrName vschemasErrUnion vnotationErrNotOf vwireErrData vdataErrBig vreadingErrNothing
  have hL := hide (isLong_readingErrNothing S h)
  have hschemasErrGrammar := hide (eIs_sent S (g0 := 7) (g := 1) (by decide) (by decide) h)
  have hschemasErrName := hide (eIs_sent S (g0 := 7) (g := 2) (by decide) (by decide) h)
  have hschemasErrUnion := hide (eIs_sent S (g0 := 7) (g := 3) (by decide) (by decide) h)
  have hnotationErrNotOf := hide (eIs_sent S (g0 := 7) (g := 4) (by decide) (by decide) h)
  have hwireErrData := hide (eIs_sent S (g0 := 7) (g := 5) (by decide) (by decide) h)
  have hdataErrBig := hide (eIs_sent S (g0 := 7) (g := 6) (by decide) (by decide) h)
  have hreadingErrNothing := hide (eIs_sent S (g0 := 7) (g := 7) (by decide) (by decide) h)
  obtain ⟨T1, x1, rfl⟩ := h.iface
  clear h S
  go_enter Tryz.func8, Tryz.ntmps8
  go_wp2_with (first
    | (go_at_call 18; refine hL.out.mono ?_; rintro e w' ⟨rfl, rfl⟩)
    | (go_at_call 19; first | (with_reducible refine hschemasErrGrammar.out.mono ?_; rintro e w' ⟨rfl, rfl⟩) | (with_reducible refine hschemasErrName.out.mono ?_; rintro e w' ⟨rfl, rfl⟩) | (with_reducible refine hschemasErrUnion.out.mono ?_; rintro e w' ⟨rfl, rfl⟩) | (with_reducible refine hnotationErrNotOf.out.mono ?_; rintro e w' ⟨rfl, rfl⟩) | (with_reducible refine hwireErrData.out.mono ?_; rintro e w' ⟨rfl, rfl⟩) | (with_reducible refine hdataErrBig.out.mono ?_; rintro e w' ⟨rfl, rfl⟩) | (with_reducible refine hreadingErrNothing.out.mono ?_; rintro e w' ⟨rfl, rfl⟩)))
  go_ret
  exact ⟨rfl, rfl⟩
set_option maxHeartbeats 2000000 in
set_option maxRecDepth 100000 in
theorem isLong_notationErrLong {A : Nat → Addr} {w : World} (S : Sents A w) {n : Nat} {E : Value} (h : Chain w (A 8) n E) :
    Calls Tryz.prog 18 #[E] w fun e w' => e = .returned (.bool true) ∧ w' = w := by
  have vschemasErrLong := S.var 0 (by decide)
  have vnotationErrLong := S.var 8 (by decide)
  have vwireErrLong := S.var 9 (by decide)
  unfold ErrV at vschemasErrLong vnotationErrLong vwireErrLong
  have hschemasErrLong := hide (eIs_sent S (g0 := 8) (g := 0) (by decide) (by decide) h)
  have hnotationErrLong := hide (eIs_sent S (g0 := 8) (g := 8) (by decide) (by decide) h)
  have hwireErrLong := hide (eIs_sent S (g0 := 8) (g := 9) (by decide) (by decide) h)
  obtain ⟨T1, x1, rfl⟩ := h.iface
  clear h S
  go_enter Tryz.func18, Tryz.ntmps18
  go_wp2_with (go_at_call 19; first | (with_reducible refine hschemasErrLong.out.mono ?_; rintro e w' ⟨rfl, rfl⟩) | (with_reducible refine hnotationErrLong.out.mono ?_; rintro e w' ⟨rfl, rfl⟩) | (with_reducible refine hwireErrLong.out.mono ?_; rintro e w' ⟨rfl, rfl⟩))
  go_ret
  exact ⟨rfl, rfl⟩
set_option maxHeartbeats 4000000 in
set_option maxRecDepth 100000 in
theorem number_notationErrLong {A : Nat → Addr} {w : World} (S : Sents A w) {n : Nat} {E : Value} (h : Chain w (A 8) n E) :
    Calls Tryz.prog 8 #[E] w fun e w' => e = .returned (.int .i64 1) ∧ w' = w := by
  have vschemasErrGrammar := S.var 1 (by decide)
  have vschemasErrName := S.var 2 (by decide)
  have vschemasErrUnion := S.var 3 (by decide)
  have vnotationErrNotOf := S.var 4 (by decide)
  have vwireErrData := S.var 5 (by decide)
  have vdataErrBig := S.var 6 (by decide)
  have vreadingErrNothing := S.var 7 (by decide)
  unfold ErrV at vschemasErrGrammar vschemasErrName vschemasErrUnion vnotationErrNotOf vwireErrData vdataErrBig vreadingErrNothing
  have hL := hide (isLong_notationErrLong S h)
  have hschemasErrGrammar := hide (eIs_sent S (g0 := 8) (g := 1) (by decide) (by decide) h)
  have hschemasErrName := hide (eIs_sent S (g0 := 8) (g := 2) (by decide) (by decide) h)
  have hschemasErrUnion := hide (eIs_sent S (g0 := 8) (g := 3) (by decide) (by decide) h)
  have hnotationErrNotOf := hide (eIs_sent S (g0 := 8) (g := 4) (by decide) (by decide) h)
  have hwireErrData := hide (eIs_sent S (g0 := 8) (g := 5) (by decide) (by decide) h)
  have hdataErrBig := hide (eIs_sent S (g0 := 8) (g := 6) (by decide) (by decide) h)
  have hreadingErrNothing := hide (eIs_sent S (g0 := 8) (g := 7) (by decide) (by decide) h)
  obtain ⟨T1, x1, rfl⟩ := h.iface
  clear h S
  go_enter Tryz.func8, Tryz.ntmps8
  go_wp2_with (first
    | (go_at_call 18; refine hL.out.mono ?_; rintro e w' ⟨rfl, rfl⟩)
    | (go_at_call 19; first | (with_reducible refine hschemasErrGrammar.out.mono ?_; rintro e w' ⟨rfl, rfl⟩) | (with_reducible refine hschemasErrName.out.mono ?_; rintro e w' ⟨rfl, rfl⟩) | (with_reducible refine hschemasErrUnion.out.mono ?_; rintro e w' ⟨rfl, rfl⟩) | (with_reducible refine hnotationErrNotOf.out.mono ?_; rintro e w' ⟨rfl, rfl⟩) | (with_reducible refine hwireErrData.out.mono ?_; rintro e w' ⟨rfl, rfl⟩) | (with_reducible refine hdataErrBig.out.mono ?_; rintro e w' ⟨rfl, rfl⟩) | (with_reducible refine hreadingErrNothing.out.mono ?_; rintro e w' ⟨rfl, rfl⟩)))
  go_ret
  exact ⟨rfl, rfl⟩
set_option maxHeartbeats 2000000 in
set_option maxRecDepth 100000 in
theorem isLong_wireErrLong {A : Nat → Addr} {w : World} (S : Sents A w) {n : Nat} {E : Value} (h : Chain w (A 9) n E) :
    Calls Tryz.prog 18 #[E] w fun e w' => e = .returned (.bool true) ∧ w' = w := by
  have vschemasErrLong := S.var 0 (by decide)
  have vnotationErrLong := S.var 8 (by decide)
  have vwireErrLong := S.var 9 (by decide)
  unfold ErrV at vschemasErrLong vnotationErrLong vwireErrLong
  have hschemasErrLong := hide (eIs_sent S (g0 := 9) (g := 0) (by decide) (by decide) h)
  have hnotationErrLong := hide (eIs_sent S (g0 := 9) (g := 8) (by decide) (by decide) h)
  have hwireErrLong := hide (eIs_sent S (g0 := 9) (g := 9) (by decide) (by decide) h)
  obtain ⟨T1, x1, rfl⟩ := h.iface
  clear h S
  go_enter Tryz.func18, Tryz.ntmps18
  go_wp2_with (go_at_call 19; first | (with_reducible refine hschemasErrLong.out.mono ?_; rintro e w' ⟨rfl, rfl⟩) | (with_reducible refine hnotationErrLong.out.mono ?_; rintro e w' ⟨rfl, rfl⟩) | (with_reducible refine hwireErrLong.out.mono ?_; rintro e w' ⟨rfl, rfl⟩))
  go_ret
  exact ⟨rfl, rfl⟩
set_option maxHeartbeats 4000000 in
set_option maxRecDepth 100000 in
theorem number_wireErrLong {A : Nat → Addr} {w : World} (S : Sents A w) {n : Nat} {E : Value} (h : Chain w (A 9) n E) :
    Calls Tryz.prog 8 #[E] w fun e w' => e = .returned (.int .i64 1) ∧ w' = w := by
  have vschemasErrGrammar := S.var 1 (by decide)
  have vschemasErrName := S.var 2 (by decide)
  have vschemasErrUnion := S.var 3 (by decide)
  have vnotationErrNotOf := S.var 4 (by decide)
  have vwireErrData := S.var 5 (by decide)
  have vdataErrBig := S.var 6 (by decide)
  have vreadingErrNothing := S.var 7 (by decide)
  unfold ErrV at vschemasErrGrammar vschemasErrName vschemasErrUnion vnotationErrNotOf vwireErrData vdataErrBig vreadingErrNothing
  have hL := hide (isLong_wireErrLong S h)
  have hschemasErrGrammar := hide (eIs_sent S (g0 := 9) (g := 1) (by decide) (by decide) h)
  have hschemasErrName := hide (eIs_sent S (g0 := 9) (g := 2) (by decide) (by decide) h)
  have hschemasErrUnion := hide (eIs_sent S (g0 := 9) (g := 3) (by decide) (by decide) h)
  have hnotationErrNotOf := hide (eIs_sent S (g0 := 9) (g := 4) (by decide) (by decide) h)
  have hwireErrData := hide (eIs_sent S (g0 := 9) (g := 5) (by decide) (by decide) h)
  have hdataErrBig := hide (eIs_sent S (g0 := 9) (g := 6) (by decide) (by decide) h)
  have hreadingErrNothing := hide (eIs_sent S (g0 := 9) (g := 7) (by decide) (by decide) h)
  obtain ⟨T1, x1, rfl⟩ := h.iface
  clear h S
  go_enter Tryz.func8, Tryz.ntmps8
  go_wp2_with (first
    | (go_at_call 18; refine hL.out.mono ?_; rintro e w' ⟨rfl, rfl⟩)
    | (go_at_call 19; first | (with_reducible refine hschemasErrGrammar.out.mono ?_; rintro e w' ⟨rfl, rfl⟩) | (with_reducible refine hschemasErrName.out.mono ?_; rintro e w' ⟨rfl, rfl⟩) | (with_reducible refine hschemasErrUnion.out.mono ?_; rintro e w' ⟨rfl, rfl⟩) | (with_reducible refine hnotationErrNotOf.out.mono ?_; rintro e w' ⟨rfl, rfl⟩) | (with_reducible refine hwireErrData.out.mono ?_; rintro e w' ⟨rfl, rfl⟩) | (with_reducible refine hdataErrBig.out.mono ?_; rintro e w' ⟨rfl, rfl⟩) | (with_reducible refine hreadingErrNothing.out.mono ?_; rintro e w' ⟨rfl, rfl⟩)))
  go_ret
  exact ⟨rfl, rfl⟩
end Go.Proofs.YthndngbnioacpaaGreatDoor
namespace Go.Proofs.YthndngbnioacpaaGreatDoor
open Go.RowKit Go.Extern.Stop Go.Stop Go.Extern
theorem as_valueOf (t : Addr) (w : World) : (callFunc 41 #[.iface 66 (.pointer (some t))]).run Tryz.prog w = .ok (.value (.agg #[.pointer (some ⟨23, 66, none⟩), .pointer (some ⟨w.heap.size, 0, none⟩), .int .u64 150])) (w.alloc (.cells #[.pointer (some t)] 66)) := by kernel_rfl
theorem as_type (a : Addr) (w : World) : (callFunc 42 #[.agg #[.pointer (some ⟨23, 66, none⟩), .pointer (some a), .int .u64 150]]).run Tryz.prog w = .ok (.value (.iface 167 (.agg #[.pointer (some ⟨23, 66, none⟩)]))) (w) := by kernel_rfl
theorem as_methodKind (h : Value) (w : World) : (Go.method 416 167 (.agg #[h]) "Kind").run Tryz.prog w = .ok (163, h) w := by kernel_rfl
theorem as_kindPF (w : World) : (callFunc 163 #[.pointer (some ⟨23, 66, none⟩)]).run Tryz.prog w = .ok (.value (.int .u8 22)) (w) := by kernel_rfl
theorem as_kindF (w : World) : (callFunc 163 #[.pointer (some ⟨23, 64, none⟩)]).run Tryz.prog w = .ok (.value (.int .u8 22)) (w) := by kernel_rfl
theorem as_methodElem (h : Value) (w : World) : (Go.method 416 167 (.agg #[h]) "Elem").run Tryz.prog w = .ok (185, .agg #[h]) w := by kernel_rfl
theorem as_methodImplements (h : Value) (w : World) : (Go.method 416 167 (.agg #[h]) "Implements").run Tryz.prog w = .ok (186, .agg #[h]) w := by kernel_rfl
theorem as_methodAssignableTo (h : Value) (w : World) : (Go.method 416 167 (.agg #[h]) "AssignableTo").run Tryz.prog w = .ok (183, .agg #[h]) w := by kernel_rfl
theorem as_elem (w : World) : (callFunc 185 #[.agg #[.pointer (some ⟨23, 66, none⟩)]]).run Tryz.prog w = .ok (.value (.iface 167 (.agg #[.pointer (some ⟨23, 64, none⟩)]))) (w) := by kernel_rfl
theorem as_impl (w : World) : (callFunc 186 #[.agg #[.pointer (some ⟨23, 64, none⟩)], .iface 167 (.agg #[.pointer (some ⟨23, 36, none⟩)])]).run Tryz.prog w = .ok (.value (.bool true)) (w) := by kernel_rfl
theorem as_typeOfF (v : Value) (w : World) : (callFunc 39 #[.iface 64 v]).run Tryz.prog w = .ok (.value (.iface 167 (.agg #[.pointer (some ⟨23, 64, none⟩)]))) (w) := by kernel_rfl
theorem as_typeOfE (v : Value) (w : World) : (callFunc 39 #[.iface 266 v]).run Tryz.prog w = .ok (.value (.iface 167 (.agg #[.pointer (some ⟨23, 266, none⟩)]))) (w) := by kernel_rfl
theorem as_assF (w : World) : (callFunc 183 #[.agg #[.pointer (some ⟨23, 64, none⟩)], .iface 167 (.agg #[.pointer (some ⟨23, 64, none⟩)])]).run Tryz.prog w = .ok (.value (.bool true)) (w) := by kernel_rfl
theorem as_assE (w : World) : (callFunc 183 #[.agg #[.pointer (some ⟨23, 266, none⟩)], .iface 167 (.agg #[.pointer (some ⟨23, 64, none⟩)])]).run Tryz.prog w = .ok (.value (.bool false)) (w) := by kernel_rfl
theorem as_valueOfF (e : Addr) (w : World) : (callFunc 41 #[.iface 64 (.pointer (some e))]).run Tryz.prog w = .ok (.value (.agg #[.pointer (some ⟨23, 64, none⟩), .pointer (some ⟨w.heap.size, 0, none⟩), .int .u64 150])) (w.alloc (.cells #[.pointer (some e)] 64)) := by kernel_rfl
theorem noAsE (v : Value) (xT : TypeId) (w : World) : (Instr.typeAssert (.iface 266 v) xT 177 true).run Tryz.prog w = .ok (.tuple #[.nilIface, .bool false]) w := run_typeAssert_lacksB Tryz.underlying177 (by kernel_rfl) (by kernel_rfl) v xT w
end Go.Proofs.YthndngbnioacpaaGreatDoor
