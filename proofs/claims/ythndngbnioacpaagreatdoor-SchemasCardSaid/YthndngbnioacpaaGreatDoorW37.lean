import Derived.Test.YthndngbnioacpaaGreatDoorW36
import Derived.Test.YthndngbnioacpaaGreatDoorW17
namespace Go.Proofs.YthndngbnioacpaaGreatDoor
open Go.RowKit
theorem NPost.pre {w w1 w' : World} {sv rv : Value} {s : ByteArray} {nt : TypeId} {nx : Value} {br : Nat} {res : Option Nat} {e : Ending} (A : Fr w w1 (fun _ => False)) (h : NPost w1 sv rv s nt nx br res e w') : NPost w sv rv s nt nx br res e w' := by
  obtain ⟨v, ev, he, hf, hm⟩ := h
  refine ⟨v, ev, he, (A.mono (fun _ _ f => f.elim)).trans hf (fun _ _ e => e), ?_⟩
  cases res with
  | none => exact ⟨hm.1, hm.2.1.less A.size, hm.2.2⟩
  | some j => exact hm
def NumN (w0 : World) (P : Nat → Prop) (ss : ByteArray) (ds : List PD) (sv rv : Value) (xs : List Value) (s : ByteArray) (nt : TypeId) (nx : Value) (br : Nat) : Prop :=
  ∀ (w : World) (i : Nat), NC w0 P ss ds sv rv xs s nt nx br i w →
    Calls Tryz.prog 88 #[.pointer (some ⟨br, 0, none⟩), .int .i64 (-2147483648), .int .i64 2147483647] w (NPost w sv rv s nt nx br ((rdNum s 105 i).map Prod.snd)) ∧
    Calls Tryz.prog 88 #[.pointer (some ⟨br, 0, none⟩), .int .i64 (-9223372036854775808), .int .i64 9223372036854775807] w (NPost w sv rv s nt nx br ((rdNum s 108 i).map Prod.snd))
section
variable {w0 : World} {P : Nat → Prop} {ss : ByteArray} {ds : List PD} {sv rv : Value} {xs : List Value} {s : ByteArray} {nt : TypeId} {nx : Value} {br i : Nat} {f p : Nat}
set_option maxHeartbeats 4000000 in
set_option maxRecDepth 100000 in
theorem dat_110 : DatN w0 P ss ds sv rv xs s nt nx br (f + 1) (.leaf 110 p) i := by
  intro w v M hT
  obtain rfl : v = .iface 136 (.agg #[.int .i64 (p : Int)]) := by
    cases hT with
    | base _ _ h => rfl
    | name _ _ h => exact absurd h (by decide)
  obtain ⟨POST, hPOST⟩ : ∃ Q, Hid (Q = NPost w sv rv s nt nx br ((rdT s (envOf ds) true (f + 1) (.leaf 110 p) i).map Prod.snd)) := ⟨_, rfl⟩
  rw [← hPOST.out]
  have A : Fr w (w.alloc (.cells #[.int .i64 (p : Int)] 136)) (fun _ => False) := (Fr.refl w _).alloc _
  have M0 := M.new A
  have hs4 : s.size ≤ 4000 := by have := M.hs; omega
  have hil := M.il
  have A' := hide (A.mono (T := fun g => g = br) (fun _ _ f => f.elim))
  replace M0 := hide M0
  clear M hT
  have a0 := asNothing_yes
  by_cases h78 : bt s i = 78
  · have hlt : i + 1 ≤ s.size := bt_pos (s := s) (i := i) (by omega)
    have hr := hide (show (rdT s (envOf ds) true (f + 1) (.leaf 110 p) i).map Prod.snd = some (i + 1) by rw [rdT]; unfold rdLeaf; rw [if_pos rfl, if_pos h78]; rfl)
    replace h78 := hide h78
    go_enter Tryz.func82, Tryz.ntmps82
    go_wp2_with (go_at_call 86; refine (ntake_yes 78 M0.out.R hs4 hil rfl (by decide) h78.out).mono ?_; rintro e w2 ⟨rfl, hf2, h2⟩; replace hf2 := hide hf2; replace h2 := hide h2)
    try go_ret
    rw [hPOST.out, hr.out]
    exact nok (A'.out.trans hf2.out (fun _ _ e => e)) h2.out hlt
  · have hr := hide (show (rdT s (envOf ds) true (f + 1) (.leaf 110 p) i).map Prod.snd = none by rw [rdT]; unfold rdLeaf; rw [if_pos rfl, if_neg h78]; rfl)
    replace h78 := hide h78
    go_enter Tryz.func82, Tryz.ntmps82
    go_wp2_with (go_at_call 86; refine (ntake_no 78 M0.out.R hs4 hil rfl (by decide) h78.out).mono ?_; rintro e w2 ⟨rfl, hf2, h2⟩; have e2 := (M0.out.call h2 hf2 hil).e; replace hf2 := hide hf2; replace h2 := hide h2)
    go_quiet (fail)
    go_wp2_with fail
    try go_ret
    rw [hPOST.out, hr.out]
    exact nerr ((A'.out.trans hf2.out (fun _ _ e => e)).still (Still.drewN _ _)) (h2.out.still (Still.drewN _ _)) hil
set_option maxHeartbeats 4000000 in
set_option maxRecDepth 100000 in
theorem dat_116 : DatN w0 P ss ds sv rv xs s nt nx br (f + 1) (.leaf 116 p) i := by
  intro w v M hT
  obtain rfl : v = .iface 137 (.agg #[.int .i64 (p : Int)]) := by
    cases hT with
    | base _ _ h => rfl
    | name _ _ h => exact absurd h (by decide)
  have hr : (rdT s (envOf ds) true (f + 1) (.leaf 116 p) i).map Prod.snd = tEnd s i := by
    rw [rdT]; unfold rdLeaf tEnd; rw [if_neg (by decide), if_pos rfl]; split
    · rfl
    · split <;> rfl
  rw [hr]
  obtain ⟨POST, hPOST⟩ : ∃ Q, Hid (Q = NPost w sv rv s nt nx br (tEnd s i)) := ⟨_, rfl⟩
  rw [← hPOST.out]
  clear hr hT
  have A : Fr w (w.alloc (.cells #[.int .i64 (p : Int)] 137)) (fun _ => False) := (Fr.refl w _).alloc _
  have M0 := M.new A
  have hC := hide (ntruth_any M0)
  replace A := hide A
  clear M0 M
  have a0 := asNothing_no 137 (by decide)
  have a1 := asTruth_yes
  go_enter Tryz.func82, Tryz.ntmps82
  go_wp2_with (go_at_call 87; refine hC.out.mono ?_; intro e w2 hN; obtain ⟨v2, ev2, rfl, hN2⟩ := hN; replace hN2 := hide hN2)
  try go_ret
  rw [hPOST.out]
  exact NPost.pre A.out ⟨v2, ev2, rfl, hN2.out⟩
set_option maxHeartbeats 4000000 in
set_option maxRecDepth 100000 in
theorem dat_105 (hN : NumN w0 P ss ds sv rv xs s nt nx br) : DatN w0 P ss ds sv rv xs s nt nx br (f + 1) (.leaf 105 p) i := by
  intro w v M hT
  obtain rfl : v = .iface 138 (.agg #[.int .i64 (p : Int)]) := by
    cases hT with
    | base _ _ h => rfl
    | name _ _ h => exact absurd h (by decide)
  have hr : (rdT s (envOf ds) true (f + 1) (.leaf 105 p) i).map Prod.snd = (rdNum s 105 i).map Prod.snd := by
    rw [rdT]; unfold rdLeaf; rw [if_neg (by decide), if_neg (by decide), if_pos (by decide)]; cases rdNum s 105 i <;> rfl
  rw [hr]
  obtain ⟨POST, hPOST⟩ : ∃ Q, Hid (Q = NPost w sv rv s nt nx br ((rdNum s 105 i).map Prod.snd)) := ⟨_, rfl⟩
  rw [← hPOST.out]
  clear hr hT
  have A : Fr w (w.alloc (.cells #[.int .i64 (p : Int)] 138)) (fun _ => False) := (Fr.refl w _).alloc _
  have M0 := M.new A
  have hC := hide ((hN _ _ M0).1)
  replace A := hide A
  clear M0 M
  have a0 := asNothing_no 138 (by decide)
  have a1 := asTruth_no 138 (by decide)
  have a2 := asInt_yes
  go_enter Tryz.func82, Tryz.ntmps82
  go_wp2_with (go_at_call 88; refine hC.out.mono ?_; intro e w2 hN; obtain ⟨v2, ev2, rfl, hN2⟩ := hN; replace hN2 := hide hN2)
  try go_ret
  rw [hPOST.out]
  exact NPost.pre A.out ⟨v2, ev2, rfl, hN2.out⟩
set_option maxHeartbeats 4000000 in
set_option maxRecDepth 100000 in
theorem dat_108 (hN : NumN w0 P ss ds sv rv xs s nt nx br) : DatN w0 P ss ds sv rv xs s nt nx br (f + 1) (.leaf 108 p) i := by
  intro w v M hT
  obtain rfl : v = .iface 139 (.agg #[.int .i64 (p : Int)]) := by
    cases hT with
    | base _ _ h => rfl
    | name _ _ h => exact absurd h (by decide)
  have hr : (rdT s (envOf ds) true (f + 1) (.leaf 108 p) i).map Prod.snd = (rdNum s 108 i).map Prod.snd := by
    rw [rdT]; unfold rdLeaf; rw [if_neg (by decide), if_neg (by decide), if_pos (by decide)]; cases rdNum s 108 i <;> rfl
  rw [hr]
  obtain ⟨POST, hPOST⟩ : ∃ Q, Hid (Q = NPost w sv rv s nt nx br ((rdNum s 108 i).map Prod.snd)) := ⟨_, rfl⟩
  rw [← hPOST.out]
  clear hr hT
  have A : Fr w (w.alloc (.cells #[.int .i64 (p : Int)] 139)) (fun _ => False) := (Fr.refl w _).alloc _
  have M0 := M.new A
  have hC := hide ((hN _ _ M0).2)
  replace A := hide A
  clear M0 M
  have a0 := asNothing_no 139 (by decide)
  have a1 := asTruth_no 139 (by decide)
  have a2 := asInt_no 139 (by decide)
  have a3 := asLong_yes
  go_enter Tryz.func82, Tryz.ntmps82
  go_wp2_with (go_at_call 88; refine hC.out.mono ?_; intro e w2 hN; obtain ⟨v2, ev2, rfl, hN2⟩ := hN; replace hN2 := hide hN2)
  try go_ret
  rw [hPOST.out]
  exact NPost.pre A.out ⟨v2, ev2, rfl, hN2.out⟩
set_option maxHeartbeats 4000000 in
set_option maxRecDepth 100000 in
theorem dat_115 : DatN w0 P ss ds sv rv xs s nt nx br (f + 1) (.leaf 115 p) i := by
  intro w v M hT
  obtain rfl : v = .iface 140 (.agg #[.int .i64 (p : Int)]) := by
    cases hT with
    | base _ _ h => rfl
    | name _ _ h => exact absurd h (by decide)
  have hr : (rdT s (envOf ds) true (f + 1) (.leaf 115 p) i).map Prod.snd = sEnd s i := by
    rw [rdT]; unfold rdLeaf sEnd; rw [if_neg (by decide), if_neg (by decide), if_neg (by decide), if_pos rfl]; split <;> rfl
  rw [hr]
  obtain ⟨POST, hPOST⟩ : ∃ Q, Hid (Q = NPost w sv rv s nt nx br (sEnd s i)) := ⟨_, rfl⟩
  rw [← hPOST.out]
  clear hr hT
  have A : Fr w (w.alloc (.cells #[.int .i64 (p : Int)] 140)) (fun _ => False) := (Fr.refl w _).alloc _
  have M0 := M.new A
  have hC := hide (nquoted_any M0)
  replace A := hide A
  clear M0 M
  have a0 := asNothing_no 140 (by decide)
  have a1 := asTruth_no 140 (by decide)
  have a2 := asInt_no 140 (by decide)
  have a3 := asLong_no 140 (by decide)
  have a4 := asText_yes
  go_enter Tryz.func82, Tryz.ntmps82
  go_wp2_with (go_at_call 89; refine hC.out.mono ?_; intro e w2 hN; obtain ⟨v2, ev2, rfl, hN2⟩ := hN; replace hN2 := hide hN2)
  try go_ret
  rw [hPOST.out]
  exact NPost.pre A.out ⟨v2, ev2, rfl, hN2.out⟩
set_option maxHeartbeats 4000000 in
set_option maxRecDepth 100000 in
theorem dat_91 {t : PT} (hI : ItoaOK w0) (hR : ∀ j, i < j → j ≤ s.size → DatN w0 P ss ds sv rv xs s nt nx br f t j) : DatN w0 P ss ds sv rv xs s nt nx br (f + 1) (.wrap 91 p t) i := by
  intro w v M hT
  obtain ⟨v2, hv2, rfl⟩ : ∃ v2, TyV w P t v2 ∧ v = .iface 143 (.agg #[.int .i64 (p : Int), v2]) := by
    cases hT with
    | wrap _ _ h => exact ⟨_, h, rfl⟩
  obtain ⟨vT, vx, rfl⟩ := hv2.iface
  rw [rdT]
  obtain ⟨POST, hPOST⟩ : ∃ Q, Hid (Q = NPost w sv rv s nt nx br ((rdWrap (rdT s (envOf ds) true f t) s 91 i).map Prod.snd)) := ⟨_, rfl⟩
  rw [← hPOST.out]
  clear hT
  have A : Fr w (w.alloc (.cells #[.int .i64 (p : Int), .iface vT vx] 143)) (fun _ => False) := (Fr.refl w _).alloc _
  have M0 := M.new A
  have hC := hide (nlist_any (p := (p : Int)) M0 (hv2.fr A (fun _ _ f => f)) hI hR)
  replace A := hide A
  clear M0 M
  have a0 := asNothing_no 143 (by decide)
  have a1 := asTruth_no 143 (by decide)
  have a2 := asInt_no 143 (by decide)
  have a3 := asLong_no 143 (by decide)
  have a4 := asText_no 143 (by decide)
  have a5 := asList_yes
  go_enter Tryz.func82, Tryz.ntmps82
  go_wp2_with (go_at_call 90; refine hC.out.mono ?_; intro e w2 hN; obtain ⟨v2, ev2, rfl, hN2⟩ := hN; replace hN2 := hide hN2)
  try go_ret
  rw [hPOST.out]
  exact NPost.pre A.out ⟨v2, ev2, rfl, hN2.out⟩
set_option maxHeartbeats 4000000 in
set_option maxRecDepth 100000 in
theorem dat_123 {t : PT} (hI : QuoteOK w0) (hR : ∀ j, i < j → j ≤ s.size → DatN w0 P ss ds sv rv xs s nt nx br f t j) : DatN w0 P ss ds sv rv xs s nt nx br (f + 1) (.wrap 123 p t) i := by
  intro w v M hT
  obtain ⟨v2, hv2, rfl⟩ : ∃ v2, TyV w P t v2 ∧ v = .iface 144 (.agg #[.int .i64 (p : Int), v2]) := by
    cases hT with
    | wrap _ _ h => exact ⟨_, h, rfl⟩
  obtain ⟨vT, vx, rfl⟩ := hv2.iface
  rw [rdT]
  obtain ⟨POST, hPOST⟩ : ∃ Q, Hid (Q = NPost w sv rv s nt nx br ((rdWrap (rdT s (envOf ds) true f t) s 123 i).map Prod.snd)) := ⟨_, rfl⟩
  rw [← hPOST.out]
  clear hT
  have A : Fr w (w.alloc (.cells #[.int .i64 (p : Int), .iface vT vx] 144)) (fun _ => False) := (Fr.refl w _).alloc _
  have M0 := M.new A
  have hC := hide (nmapping_any (p := (p : Int)) M0 (hv2.fr A (fun _ _ f => f)) hI hR)
  replace A := hide A
  clear M0 M
  have a0 := asNothing_no 144 (by decide)
  have a1 := asTruth_no 144 (by decide)
  have a2 := asInt_no 144 (by decide)
  have a3 := asLong_no 144 (by decide)
  have a4 := asText_no 144 (by decide)
  have a5 := asList_no 144 (by decide)
  have a6 := asMap_yes
  go_enter Tryz.func82, Tryz.ntmps82
  go_wp2_with (go_at_call 91; refine hC.out.mono ?_; intro e w2 hN; obtain ⟨v2, ev2, rfl, hN2⟩ := hN; replace hN2 := hide hN2)
  try go_ret
  rw [hPOST.out]
  exact NPost.pre A.out ⟨v2, ev2, rfl, hN2.out⟩
set_option maxHeartbeats 4000000 in
set_option maxRecDepth 100000 in
theorem dat_40 {l : List PT} (hne : l ≠ []) (hI : ItoaOK w0) (hR : ∀ t ∈ l, DatN w0 P ss ds sv rv xs s nt nx br f t i) : DatN w0 P ss ds sv rv xs s nt nx br (f + 1) (.alts p l) i := by
  intro w v M hT
  cases l with
  | nil => exact absurd rfl hne
  | cons t r =>
  obtain ⟨X, v2, ho, hP, hX, rfl⟩ : ∃ X v2, w.ownsRow 0 32 1 v2 (t :: r).length ((List.range (t :: r).length).map X) ∧ (∀ g, v2.ownBlock = some g → P g) ∧ (∀ i u, (t :: r)[i]? = some u → TyV w P u (X i)) ∧ v = .iface 158 (.agg #[.int .i64 (p : Int), v2]) := by
    cases hT with
    | alts _ X ho hP h => exact ⟨X, _, ho, hP, h, rfl⟩
  obtain ⟨ba, bc, rfl⟩ := own_sl ho
  have hr : (rdT s (envOf ds) true (f + 1) (.alts p (t :: r)) i).map Prod.snd = (rdT s (envOf ds) true f t i).map Prod.snd := by
    rw [rdT]; unfold rdBranch; rw [if_pos rfl]; simp only
    cases rdT s (envOf ds) true f t i <;> rfl
  rw [hr]
  obtain ⟨POST, hPOST⟩ : ∃ Q, Hid (Q = NPost w sv rv s nt nx br ((rdT s (envOf ds) true f t i).map Prod.snd)) := ⟨_, rfl⟩
  rw [← hPOST.out]
  have hRt := hR t (by simp)
  have hX0 := hX 0 t rfl
  clear hT hr hR hX hne
  have A : Fr w (w.alloc (.cells #[.int .i64 (p : Int), .slice ba (t :: r).length bc] 158)) (fun _ => False) := (Fr.refl w _).alloc _
  have M0 := M.new A
  have hC := hide (nunion_any (p := (p : Int)) M0 (ownsRow_fr ho A (fun _ _ f => f)) hP (hX0.fr A (fun _ _ f => f)) hI hRt)
  replace A := hide A
  clear M0 M ho hX0 hRt
  generalize (t :: r).length = n at hC A ⊢
  have a0 := asNothing_no 158 (by decide)
  have a1 := asTruth_no 158 (by decide)
  have a2 := asInt_no 158 (by decide)
  have a3 := asLong_no 158 (by decide)
  have a4 := asText_no 158 (by decide)
  have a5 := asList_no 158 (by decide)
  have a6 := asMap_no 158 (by decide)
  have a7 := asUnion_yes
  go_enter Tryz.func82, Tryz.ntmps82
  go_wp2_with (go_at_call 92; refine hC.out.mono ?_; intro e w2 hN; obtain ⟨v2, ev2, rfl, hN2⟩ := hN; replace hN2 := hide hN2)
  try go_ret
  rw [hPOST.out]
  exact NPost.pre A.out ⟨v2, ev2, rfl, hN2.out⟩
end
end Go.Proofs.YthndngbnioacpaaGreatDoor
namespace Go.Proofs.YthndngbnioacpaaGreatDoor
open Go.RowKit
def DatB (w0 : World) (P : Nat → Prop) (ss : ByteArray) (ds : List PD) (sv rv : Value) (xs : List Value) (s : ByteArray) (nt : TypeId) (nx : Value) (br f : Nat) (b : PB) (i : Nat) : Prop :=
  ∀ (w : World) (v : Value), NC w0 P ss ds sv rv xs s nt nx br i w → BodyV w P ss b v →
    Calls Tryz.prog 82 #[.pointer (some ⟨br, 0, none⟩), v] w (NPost w sv rv s nt nx br ((rdNamed (rdT s (envOf ds) true f) s b i).map Prod.snd))
section
variable {w0 : World} {P : Nat → Prop} {ss : ByteArray} {ds : List PD} {sv rv : Value} {xs : List Value} {s : ByteArray} {nt : TypeId} {nx : Value} {br i : Nat} {f p : Nat}
set_option maxHeartbeats 4000000 in
set_option maxRecDepth 100000 in
theorem datB_recd {fs : List PF} (hsm : ∀ g ∈ fs, isSmall g.letter = true) (hlen : fs.length ≤ 300) (hse : smEnv (envOf ds)) (hok : ∀ g ∈ fs, okT (envOf ds) g.ty) (hR : ∀ g ∈ fs, ∀ j, i < j → j ≤ s.size → DatN w0 P ss ds sv rv xs s nt nx br f g.ty j) : DatB w0 P ss ds sv rv xs s nt nx br f (.recd fs) i := by
  intro w v M hT
  obtain ⟨p, sv2, zs, ho, hP, h, rfl⟩ : ∃ (p : Nat) (sv2 : Value) (zs : List Value), w.ownsRow 0 99 4 sv2 fs.length zs ∧ (∀ g, sv2.ownBlock = some g → P g) ∧ FldsV w P ss fs zs ∧ v = .iface 149 (.agg #[.int .i64 (p : Int), sv2]) := by
    cases hT with
    | recd p ho hP h => exact ⟨p, _, _, ho, hP, h, rfl⟩
  obtain ⟨fa, fc, rfl⟩ := own_sl ho
  obtain ⟨POST, hPOST⟩ : ∃ Q, Hid (Q = NPost w sv rv s nt nx br ((rdNamed (rdT s (envOf ds) true f) s (.recd fs) i).map Prod.snd)) := ⟨_, rfl⟩
  rw [← hPOST.out]
  clear hT
  have A : Fr w (w.alloc (.cells #[.int .i64 (p : Int), .slice fa fs.length fc] 149)) (fun _ => False) := (Fr.refl w _).alloc _
  have M0 := M.new A
  have hC := hide (nrecord_any (p := (p : Int)) M0 ((⟨ho, hP, h⟩ : FlRow w P ss fs _ _).fr A (fun _ _ f => f)) hsm hlen hse hok hR)
  replace A := hide A
  clear M0 M ho h hR hok hsm
  have a0 := asNothing_no 149 (by decide)
  have a1 := asTruth_no 149 (by decide)
  have a2 := asInt_no 149 (by decide)
  have a3 := asLong_no 149 (by decide)
  have a4 := asText_no 149 (by decide)
  have a5 := asList_no 149 (by decide)
  have a6 := asMap_no 149 (by decide)
  have a7 := asUnion_no 149 (by decide)
  have a8 := asName_no 149 (by decide)
  have a9 := asRecord_yes
  go_enter Tryz.func82, Tryz.ntmps82
  go_wp2_with (go_at_call 93; refine hC.out.mono ?_; intro e w2 hN; obtain ⟨v2, ev2, rfl, hN2⟩ := hN; replace hN2 := hide hN2)
  try go_ret
  rw [hPOST.out]
  exact NPost.pre A.out ⟨v2, ev2, rfl, hN2.out⟩
set_option maxHeartbeats 4000000 in
set_option maxRecDepth 100000 in
theorem datB_enum {l : List (Nat × Nat)} {o : Option (Nat × Nat)} (hsm : ∀ q ∈ l, isSmall q.1 = true) (hlen : l.length ≤ 300) : DatB w0 P ss ds sv rv xs s nt nx br f (.enum l o) i := by
  intro w v M hT
  obtain ⟨p, sv2, u, ho, hP, hu, rfl⟩ : ∃ (p : Nat) (sv2 u : Value), w.ownsRow 0 96 2 sv2 l.length (symCells l) ∧ (∀ g, sv2.ownBlock = some g → P g) ∧ UnkV w P o u ∧ v = .iface 154 (.agg #[.int .i64 (p : Int), sv2, u]) := by
    cases hT with
    | enum p ho hP h => exact ⟨p, _, _, ho, hP, h, rfl⟩
  obtain ⟨fa, fc, rfl⟩ := own_sl ho
  obtain ⟨dd, rfl⟩ : ∃ d, u = .pointer d := by
    unfold UnkV at hu
    split at hu
    · exact ⟨_, hu⟩
    · obtain ⟨g', _, e, _⟩ := hu; exact ⟨_, e⟩
  have hr : (rdNamed (rdT s (envOf ds) true f) s (.enum l o) i).map Prod.snd = eEnd s l i := by
    unfold rdNamed eEnd
    simp only
    by_cases hin : bt s i ∈ l.map Prod.fst
    · rw [if_pos hin]
      have hlt : i < s.size := by
        obtain ⟨q, hq, e⟩ := List.mem_map.1 hin
        obtain ⟨k, hk, _⟩ := small_k (hsm q hq)
        exact bt_pos (by rw [← e]; omega)
      rw [if_pos hlt]
      cases hf : (l.map Prod.fst).findIdx? (fun c => c == bt s i) with
      | none =>
        rw [List.findIdx?_eq_none_iff] at hf
        have := hf _ hin
        simp at this
      | some q => rfl
    · rw [if_neg hin]
      split
      · have : (l.map Prod.fst).findIdx? (fun c => c == bt s i) = none := by
          rw [List.findIdx?_eq_none_iff]
          intro x hx
          rw [beq_eq_false_iff_ne]
          intro e
          exact hin (e ▸ hx)
        rw [this]
        rfl
      · rfl
  rw [hr]
  obtain ⟨POST, hPOST⟩ : ∃ Q, Hid (Q = NPost w sv rv s nt nx br (eEnd s l i)) := ⟨_, rfl⟩
  rw [← hPOST.out]
  clear hT hu hr
  have A : Fr w (w.alloc (.cells #[.int .i64 (p : Int), .slice fa l.length fc, .pointer dd] 154)) (fun _ => False) := (Fr.refl w _).alloc _
  have M0 := M.new A
  have hC := hide (nsymbol_any (p := (p : Int)) (u := .pointer dd) M0 (ownsRow_fr ho A (fun _ _ f => f)) hP hlen hsm)
  replace A := hide A
  clear M0 M ho hsm
  have a0 := asNothing_no 154 (by decide)
  have a1 := asTruth_no 154 (by decide)
  have a2 := asInt_no 154 (by decide)
  have a3 := asLong_no 154 (by decide)
  have a4 := asText_no 154 (by decide)
  have a5 := asList_no 154 (by decide)
  have a6 := asMap_no 154 (by decide)
  have a7 := asUnion_no 154 (by decide)
  have a8 := asName_no 154 (by decide)
  have a9 := asRecord_no 154 (by decide)
  have a10 := asEnum_yes
  go_enter Tryz.func82, Tryz.ntmps82
  go_wp2_with (go_at_call 94; refine hC.out.mono ?_; intro e w2 hN; obtain ⟨v2, ev2, rfl, hN2⟩ := hN; replace hN2 := hide hN2)
  try go_ret
  rw [hPOST.out]
  exact NPost.pre A.out ⟨v2, ev2, rfl, hN2.out⟩
set_option maxHeartbeats 4000000 in
set_option maxRecDepth 100000 in
theorem datB_bytes {n : Nat} : DatB w0 P ss ds sv rv xs s nt nx br f (.bytes n) i := by
  intro w v M hT
  obtain ⟨p, rfl⟩ : ∃ p : Nat, v = .iface 198 (.agg #[.int .i64 (p : Int), .int .i64 (n : Int)]) := by
    cases hT with
    | bytes p n => exact ⟨p, rfl⟩
  have hr : (rdNamed (rdT s (envOf ds) true f) s (.bytes n) i).map Prod.snd = fEnd s n i := by
    unfold rdNamed fEnd
    simp only
    split <;> rfl
  rw [hr]
  obtain ⟨POST, hPOST⟩ : ∃ Q, Hid (Q = NPost w sv rv s nt nx br (fEnd s n i)) := ⟨_, rfl⟩
  rw [← hPOST.out]
  clear hT hr
  have A : Fr w (w.alloc (.cells #[.int .i64 (p : Int), .int .i64 (n : Int)] 198)) (fun _ => False) := (Fr.refl w _).alloc _
  have M0 := M.new A
  have hC := hide (nbytes_any (p := (p : Int)) (n := n) M0)
  replace A := hide A
  clear M0 M
  have a0 := asNothing_no 198 (by decide)
  have a1 := asTruth_no 198 (by decide)
  have a2 := asInt_no 198 (by decide)
  have a3 := asLong_no 198 (by decide)
  have a4 := asText_no 198 (by decide)
  have a5 := asList_no 198 (by decide)
  have a6 := asMap_no 198 (by decide)
  have a7 := asUnion_no 198 (by decide)
  have a8 := asName_no 198 (by decide)
  have a9 := asRecord_no 198 (by decide)
  have a10 := asEnum_no 198 (by decide)
  have a11 := asBytes_yes
  go_enter Tryz.func82, Tryz.ntmps82
  go_wp2_with (go_at_call 95; refine hC.out.mono ?_; intro e w2 hN; obtain ⟨v2, ev2, rfl, hN2⟩ := hN; replace hN2 := hide hN2)
  try go_ret
  rw [hPOST.out]
  exact NPost.pre A.out ⟨v2, ev2, rfl, hN2.out⟩
set_option maxHeartbeats 8000000 in
set_option maxRecDepth 100000 in
theorem datn_name {c : Nat} (hc : isName c = true) {b : PB} (hb : envOf ds c = some b) (hR : DatB w0 P ss ds sv rv xs s nt nx br f b i) : DatN w0 P ss ds sv rv xs s nt nx br (f + 1) (.leaf c p) i := by
  intro w v M hT
  have hcr : 65 ≤ c ∧ c ≤ 70 := by simpa [isName] using hc
  obtain rfl : v = .iface 147 (.agg #[.int .i64 (p : Int), .int .u8 (c : Int)]) := by
    cases hT with
    | base _ _ h =>
      simp only [isBase, Bool.or_eq_true, beq_iff_eq] at h
      omega
    | name _ _ h => rfl
  have hr : (rdT s (envOf ds) true (f + 1) (.leaf c p) i).map Prod.snd = (rdNamed (rdT s (envOf ds) true f) s b i).map Prod.snd := by
    rw [rdT]
    unfold rdLeaf
    rw [if_neg (by omega), if_neg (by omega), if_neg (by omega), if_neg (by omega), hb]
  rw [hr]
  obtain ⟨RES, hRES⟩ : ∃ r, r = (rdNamed (rdT s (envOf ds) true f) s b i).map Prod.snd := ⟨_, rfl⟩
  rw [← hRES]
  obtain ⟨POST, hPOST⟩ : ∃ Q, Hid (Q = NPost w sv rv s nt nx br RES) := ⟨_, rfl⟩
  rw [← hPOST.out]
  have A : Fr w (w.alloc (.cells #[.int .i64 (p : Int), .int .u8 (c : Int)] 147)) (fun _ => False) := (Fr.refl w _).alloc _
  have M0 := M.new A
  have hN0 := Blk.new w #[.int .i64 (p : Int), .int .u8 (c : Int)] 147
  have hbl := M.lt
  have hcalls := hide (And.intro M0 (And.intro hN0 A))
  clear hr hT M M0 hN0 A
  have a0 := asNothing_no 147 (by decide)
  have a1 := asTruth_no 147 (by decide)
  have a2 := asInt_no 147 (by decide)
  have a3 := asLong_no 147 (by decide)
  have a4 := asText_no 147 (by decide)
  have a5 := asList_no 147 (by decide)
  have a6 := asMap_no 147 (by decide)
  have a7 := asUnion_no 147 (by decide)
  have a8 := asName_yes
  go_enter Tryz.func82, Tryz.ntmps82
  go_wp2_with fail
  obtain ⟨M0, hN0, A⟩ := hcalls.out
  have M1 := M0.still (Still.drew _)
  have u0 := M0.R.c0
  have u1 := M0.R.c1
  have u2 := hN0.cell 1
  simp only [List.getElem?_cons_zero, List.getElem?_cons_succ] at u2
  have hCm := meaning_any (rv := rv) c M1.D
  refine wp_regionAll (fun W => W.cell? ⟨br, 0, none⟩ = some sv ∧ W.cell? ⟨br, 1, none⟩ = some rv ∧ W.cell? ⟨w.heap.size, 1, none⟩ = some (.int .u8 (c : Int))) (by kernel_rfl) ?_
  refine wpAllC_take 0 ?v0 rfl (by kernel_rfl) (fun _ _ _ h => h) (by kernel_rfl) ?y0 ?_
  case y0 => (rintro W ⟨h1, h2, h3⟩; go_simp <;> rfl)
  refine wpAllC_take 1 ?v1 rfl (by kernel_rfl) (fun _ _ _ h => h) (by kernel_rfl) ?y1 ?_
  case y1 => (rintro W ⟨h1, h2, h3⟩; go_simp <;> rfl)
  refine wpAllC_take 2 ?v2 rfl (by kernel_rfl) (fun _ _ _ h => h) (by kernel_rfl) ?y2 ?_
  case y2 => (rintro W ⟨h1, h2, h3⟩; go_simp <;> rfl)
  refine wpAllC_take 3 ?v3 rfl (by kernel_rfl) (fun _ _ _ h => h) (by kernel_rfl) ?y3 ?_
  case y3 => (rintro W ⟨h1, h2, h3⟩; go_simp <;> rfl)
  refine wpAllC_take 4 ?v4 rfl (by kernel_rfl) (fun _ _ _ h => h) (by kernel_rfl) ?y4 ?_
  case y4 => (rintro W ⟨h1, h2, h3⟩; go_simp <;> rfl)
  refine wpAllC_take 5 ?v5 rfl (by kernel_rfl) (fun _ _ _ h => h) (by kernel_rfl) ?y5 ?_
  case y5 => (rintro W ⟨h1, h2, h3⟩; go_simp <;> rfl)
  refine wpAllC_take 6 ?v6 rfl (by kernel_rfl) (fun _ _ _ h => h) (by kernel_rfl) ?y6 ?_
  case y6 => (rintro W ⟨h1, h2, h3⟩; go_simp <;> rfl)
  refine wpAllC_one 7 rfl (by kernel_rfl) ⟨u0, u1, u2⟩ (fun K hK => ?_)
  go_simp
  refine hCm.mono ?_
  rintro e w2 ⟨v2, rfl, hf2, hm2⟩
  refine hK _ _ ?_
  clear hK K
  rw [hb] at hm2
  have M2 := M1.new hf2
  have hCd := hR w2 v2 M2 hm2
  have hN2 := hf2.blk (((Fr.refl _ (fun _ => False)).still (Still.drew (w.alloc (.cells #[.int .i64 (p : Int), .int .u8 (c : Int)] 147)))).blk hN0 id) id
  have x0 := M2.R.c0
  have x1 := M2.R.c1
  have x2 := hN2.cell 1
  simp only [List.getElem?_cons_zero, List.getElem?_cons_succ] at x2
  rw [← hRES] at hCd
  refine wpAllC_one 8 rfl (by kernel_rfl) ⟨x0, x1, x2⟩ (fun K hK => ?_)
  go_simp
  refine hCd.mono ?_
  rintro e w3 ⟨v3, ev3, rfl, hf3, hm3⟩
  refine hK _ _ ?_
  clear hK K
  obtain ⟨j3, h3⟩ : ∃ j, RdAt w3 br sv rv s j false := by
    cases RES with
    | none => exact ⟨_, hm3.2.2.choose_spec.1⟩
    | some j => exact ⟨_, hm3.2.2.1⟩
  have y0 := h3.c0
  have y1 := h3.c1
  have y2 := (hf3.blk hN2 (by omega)).cell 1
  simp only [List.getElem?_cons_zero, List.getElem?_cons_succ] at y2
  replace hm3 := hide hm3
  replace hf3 := hide hf3
  replace hf2 := hide hf2
  replace A := hide A
  clear hCm hCd M0 M1 M2 hN0 hN2 hm2 hcalls u0 u1 u2 x0 x1 x2 h3
  refine wpAllC_take 9 ?v9 rfl (by kernel_rfl) (fun _ _ _ h => h) (by kernel_rfl) ?y9 ?_
  case y9 => (rintro W ⟨h1, h2, h3⟩; go_simp <;> rfl)
  refine wpAllC_take 10 ?v10 rfl (by kernel_rfl) (fun _ _ _ h => h) (by kernel_rfl) ?y10 ?_
  case y10 => (rintro W ⟨h1, h2, h3⟩; go_simp <;> rfl)
  refine wpAllC_take 11 ?v11 rfl (by kernel_rfl) (fun _ _ _ h => h) (by kernel_rfl) ?y11 ?_
  case y11 => (rintro W ⟨h1, h2, h3⟩; go_simp <;> rfl)
  refine wpAllC_take 12 ?v12 rfl (by kernel_rfl) (fun _ _ _ h => h) (by kernel_rfl) ?y12 ?_
  case y12 => (rintro W ⟨h1, h2, h3⟩; go_simp <;> rfl)
  refine wpAllC_done (by kernel_rfl) ⟨y0, y1, y2⟩ ?_ _
  go_wp2_with fail
  refine bodyPost_ret (v := .tuple #[v3, ev3]) (by simp [results, Tryz.results82, go_sem]) rfl ?_
  rw [hPOST.out]
  exact NPost.pre (A.out.trans (((Fr.refl _ (fun _ => False)).still (Still.drew _)).trans hf2.out (fun _ _ f => f)) (fun _ _ f => f)) ⟨v3, ev3, rfl, hf3.out, hm3.out⟩
end
def goodEnv (ds : List PD) : Prop := ∀ c b, envOf ds c = some b → plB b ∧ okB (envOf ds) b
theorem goodEnv.sm {ds : List PD} (h : goodEnv ds) : smEnv (envOf ds) := fun c _ _ e => (h c _ e).1.2.1
theorem dat_all {w0 : World} {P : Nat → Prop} {ss : ByteArray} {ds : List PD} {sv rv : Value} {xs : List Value} {s : ByteArray} {nt : TypeId} {nx : Value} {br : Nat} (hE : goodEnv ds) (hI : ItoaOK w0) (hQ : QuoteOK w0) (hN : NumN w0 P ss ds sv rv xs s nt nx br) :
    ∀ (f : Nat) (t : PT) (i : Nat), okT (envOf ds) t → i ≤ s.size → 2 * (s.size - i) + (if t.isAlts = true then 1 else 0) < f → DatN w0 P ss ds sv rv xs s nt nx br f t i := by
  intro f
  induction f with
  | zero => intro t i _ _ h; omega
  | succ f ih =>
    intro t i ht hi hm
    have next : ∀ u, okT (envOf ds) u → ∀ j, i < j → j ≤ s.size → DatN w0 P ss ds sv rv xs s nt nx br f u j := fun u hu j h1 h2 => ih u j hu h2 (by split <;> omega)
    cases t with
    | leaf c p =>
      unfold okT at ht
      rcases ht with hb | ⟨hn, pb, he⟩
      · simp only [isBase, Bool.or_eq_true, beq_iff_eq] at hb
        rcases hb with (((rfl | rfl) | rfl) | rfl) | rfl
        · exact dat_110
        · exact dat_116
        · exact dat_105 hN
        · exact dat_108 hN
        · exact dat_115
      · obtain ⟨g1, g2⟩ := hE c pb he
        refine datn_name hn he ?_
        cases pb with
        | recd fs => exact datB_recd g1.2.1 g1.1 hE.sm g2 (fun g hg => next g.ty (g2 g hg))
        | enum l o => exact datB_enum g1.2.1 g1.1
        | bytes n => exact datB_bytes
    | wrap c p t =>
      unfold okT at ht
      rcases ht.1 with rfl | rfl
      · exact dat_91 hI (next t ht.2)
      · exact dat_123 hQ (next t ht.2)
    | alts p l =>
      unfold okT at ht
      have hall : ∀ u ∈ l, okT (envOf ds) u ∧ u.isAlts = false := by
        have := ht.2
        clear ht hm
        induction l with
        | nil => intro u hu; simp at hu
        | cons x r ihr =>
          unfold okTs at this
          intro u hu
          rcases List.mem_cons.1 hu with rfl | hu
          · exact ⟨this.2.1, this.1⟩
          · exact ihr this.2.2 u hu
      refine dat_40 ht.1 hI (fun u hu => ih u i (hall u hu).1 hi ?_)
      rw [(hall u hu).2]
      simp only [PT.isAlts, if_true] at hm
      simp only [Bool.false_eq_true, if_false]
      omega
end Go.Proofs.YthndngbnioacpaaGreatDoor
namespace Go.Proofs.YthndngbnioacpaaGreatDoor
open Go.RowKit
def WhPost (w : World) (S : Nat → Prop) (nt : TypeId) (nx : Value) (ok : Bool) (e : Ending) (w' : World) : Prop :=
  ∃ v ev, e = .returned (.tuple #[v, ev]) ∧ Fr w w' S ∧ if ok = true then ev = .nilIface ∧ (∃ T x, v = .iface T x) else v = .nilIface ∧ ErrD w' w.heap.size nt nx ev
set_option maxHeartbeats 4000000 in
set_option maxRecDepth 100000 in
theorem nwhole_any {w0 w : World} {P : Nat → Prop} {ss : ByteArray} {ds : List PD} {sv rv : Value} {xs : List Value} {s : ByteArray} {nt : TypeId} {nx : Value} {br : Nat} {t : PT} {v : Value} (M : NC w0 P ss ds sv rv xs s nt nx br 0 w) (hT : TyV w P t v) (hR : DatN w0 P ss ds sv rv xs s nt nx br (2 * s.size + 2) t 0) :
    Calls Tryz.prog 63 #[.pointer (some ⟨br, 0, none⟩), v] w (WhPost w (· = br) nt nx (readT (envOf ds) true t s).isSome) := by
  obtain ⟨POST, hPOST⟩ : ∃ Q, Hid (Q = WhPost w (· = br) nt nx (readT (envOf ds) true t s).isSome) := ⟨_, rfl⟩
  rw [← hPOST.out]
  have hC := hide (hR w v M hT)
  replace M := hide M
  clear hT hR
  cases hp : rdT s (envOf ds) true (2 * s.size + 2) t 0 with
  | none =>
    have hr := hide (show (readT (envOf ds) true t s).isSome = false by unfold readT; rw [hp]; rfl)
    replace hp := hide hp
    go_enter Tryz.func63, Tryz.ntmps63
    go_wp2_with (go_at_call 82; refine hC.out.mono ?_; rintro e w1 ⟨v1, ev1, rfl, hf1, hm⟩; rw [hp.out] at hm; obtain ⟨rfl, hErr, _⟩ := hm; obtain ⟨eT, ex, rfl⟩ := hErr.iface; replace hf1 := hide hf1; replace hErr := hide hErr)
    try go_ret
    rw [hPOST.out, hr.out]
    exact ⟨_, _, rfl, hf1.out, rfl, hErr.out⟩
  | some q =>
    obtain ⟨d, j⟩ := q
    have hj := (rdT_goes s (envOf ds) true _ t 0 d j hp).2
    by_cases hjs : j = s.size
    · have hr := hide (show (readT (envOf ds) true t s).isSome = true by unfold readT; rw [hp]; simp only; rw [if_pos hjs]; rfl)
      have hjn : ¬ ((j : Int) < (s.size : Int)) := by omega
      replace hp := hide hp
      clear hjs hj
      go_enter Tryz.func63, Tryz.ntmps63
      go_wp2_with (go_at_call 82; refine hC.out.mono ?_; rintro e w1 ⟨v1, ev1, rfl, hf1, hm⟩; rw [hp.out] at hm; obtain ⟨rfl, ⟨dT, dx, rfl⟩, h1, _⟩ := hm; have c2 := h1.c2; have c3 := h1.c3; replace hf1 := hide hf1; clear h1)
      go_quiet (fail)
      go_wp2_with fail
      try go_ret
      rw [hPOST.out, hr.out]
      exact ⟨_, _, rfl, hf1.out.still (Still.drewN _ _), rfl, _, _, rfl⟩
    · have hr := hide (show (readT (envOf ds) true t s).isSome = false by unfold readT; rw [hp]; simp only; rw [if_neg hjs]; rfl)
      have hjn : (j : Int) < (s.size : Int) := by omega
      replace hp := hide hp
      clear hjs
      go_enter Tryz.func63, Tryz.ntmps63
      go_wp2_with (go_at_call 82; refine hC.out.mono ?_; rintro e w1 ⟨v1, ev1, rfl, hf1, hm⟩; rw [hp.out] at hm; obtain ⟨rfl, ⟨dT, dx, rfl⟩, h1, hj1⟩ := hm; have c2 := h1.c2; have c3 := h1.c3; have e1 := (M.out.call h1 hf1 hj1).e; replace hf1 := hide hf1; clear h1)
      go_quiet (fail)
      go_wp2_with fail
      go_quiet (fail)
      go_wp2_with fail
      try go_ret
      rw [hPOST.out, hr.out]
      exact ⟨_, _, rfl, hf1.out.still ((Still.drewN _ _).trans (Still.drewN _ _)), rfl, .base⟩
def NumAll (w0 : World) : Prop := ∀ P ss ds sv rv xs s nt nx br, NumN w0 P ss ds sv rv xs s nt nx br
set_option maxHeartbeats 4000000 in
set_option maxRecDepth 100000 in
theorem nDefault_any {w0 w : World} {P : Nat → Prop} {ss : ByteArray} {ds : List PD} {sv : Value} {rT : TypeId} {rx : Value} {xs : List Value} {s : ByteArray} {nt : TypeId} {nx : Value} {t : PT} {v : Value} (D : DRow w P ss ds sv xs) (hT : TyV w P t v) (hG : SameG w0 w) (hk : w0.heap.size ≤ w.heap.size) (hPw : ∀ g, P g → g < w.heap.size) (hE : ErrV 4 w0 nt nx) (hs : s.size ≤ 300) (hok : okT (envOf ds) t) (hen : goodEnv ds) (hI : ItoaOK w0) (hQ : QuoteOK w0) (hN : NumAll w0) :
    Calls Tryz.prog 38 #[.agg #[sv, .iface rT rx], v, .string s] w (WhPost w (fun _ => False) nt nx (readT (envOf ds) true t s).isSome) := by
  obtain ⟨POST, hPOST⟩ : ∃ Q, Hid (Q = WhPost w (fun _ => False) nt nx (readT (envOf ds) true t s).isSome) := ⟨_, rfl⟩
  rw [← hPOST.out]
  obtain ⟨sa, sc, rfl⟩ := own_sl D.row
  have A : Fr w ((w.alloc (.cells #[.slice sa ds.length sc, .iface rT rx] 34)).alloc (.cells #[.slice sa ds.length sc, .iface rT rx, .string s, .int .i64 0, .bool false] 164)) (fun _ => False) := ((Fr.refl w _).alloc _).alloc _
  have z1 : (w.alloc (.cells #[.slice sa ds.length sc, .iface rT rx] 34)).heap.size = w.heap.size + 1 := by simp
  have hR0 := Blk.new (w.alloc (.cells #[.slice sa ds.length sc, .iface rT rx] 34)) #[.slice sa ds.length sc, .iface rT rx, .string s, .int .i64 0, .bool false] 164
  rw [z1] at hR0
  have M0 : NC w0 P ss ds (.slice sa ds.length sc) (.iface rT rx) xs s nt nx (w.heap.size + 1) 0 ((w.alloc (.cells #[.slice sa ds.length sc, .iface rT rx] 34)).alloc (.cells #[.slice sa ds.length sc, .iface rT rx, .string s, .int .i64 0, .bool false] 164)) :=
    ⟨hR0, D.fr A (fun _ _ f => f), hG.fr A hk (fun g f => f.elim), hE, fun g hg => by have := hPw g hg; omega, by omega, hs, Nat.zero_le _⟩
  have hC := hide (nwhole_any M0 (hT.fr A (fun _ _ f => f)) (dat_all hen hI hQ (hN _ _ _ _ _ _ _ _ _ _) _ t 0 hok (Nat.zero_le _) (by split <;> omega)))
  replace A := hide A
  clear M0 hR0 z1 D hT hG
  go_enter Tryz.func38, Tryz.ntmps38
  go_wp2_with (go_at_call 63; refine hC.out.mono ?_; rintro e w1 ⟨v1, ev1, rfl, hf1, hm⟩; replace hf1 := hide hf1; replace hm := hide hm)
  try go_ret
  rw [hPOST.out]
  have hsz := A.out.size
  refine ⟨v1, ev1, rfl, A.out.trans hf1.out (fun g hg e => by omega), ?_⟩
  have hm' := hm.out
  split at hm'
  · rename_i hq; rw [if_pos hq]; exact hm'
  · rename_i hq; rw [if_neg hq]; exact ⟨hm'.1, hm'.2.less hsz⟩
end Go.Proofs.YthndngbnioacpaaGreatDoor
