import Derived.Test.YthndngbnioacpaaGreatDoorW03
import Derived.Deep.LoopGhost
namespace Go.Proofs.YthndngbnioacpaaGreatDoor
open Go.RowKit
theorem own_slice {w : World} {base size n : Nat} {e : TypeId} {v : Value} {xs : List Value} (h : w.ownsRow base e size v n xs) : ∃ a n c, v = .slice a n c := by
  rcases h.2 with ⟨rfl, _⟩ | ⟨g, cap, _, rfl, _⟩
  · exact ⟨_, _, _, rfl⟩
  · exact ⟨_, _, _, rfl⟩
def AltsAny (w : World) (X : Nat → Prop) (br bz B : Nat) (s : ByteArray) (wr : Int) (zs : List Value) (tv u : Value) (Good : Nat → Bool → Int → List TR → List (Nat × Nat) → List Nat → Prop) (sv : Value) (w' : World) : Prop :=
  ∃ J b MX TS US L tv' u', Good J b MX TS US L ∧ Rep w' X br bz B s J b wr MX TS US zs tv' u' ∧ SubsAt w' B tv' u' sv L ∧ (∀ g, X g → sv.ownBlock ≠ some g) ∧ TS.length < J ∧ Step w w' br bz tv u tv' u'
set_option maxHeartbeats 2000000 in
theorem paren_walk {s : ByteArray} {i : Nat} (hc : bt s i = 40) (Good : Nat → Bool → Int → List TR → List (Nat × Nat) → List Nat → Prop) (POST : Ending → World → Prop)
    {w : World} {X : Nat → Prop} {br bz B : Nat} {wr mx : Int} {ts : List TR} {us : List (Nat × Nat)} {zs : List Value} {tv u : Value} (R : Rep w X br bz B s i false wr mx ts us zs tv u)
    (hA : Hid (∀ (w : World), Rep w X br bz B s (i + 1) false wr mx ts us zs tv u → Calls Tryz.prog 48 #[.pointer (some ⟨br, 0, none⟩)] w fun e w' => ∃ sv, e = .returned (.agg #[.int .u8 40, sv]) ∧ AltsAny w X br bz B s wr zs tv u Good sv w'))
    (fin : Hid (∀ (w' : World) (J : Nat) (b : Bool) (MX : Int) (TS : List TR) (US : List (Nat × Nat)) (L : List Nat) (tv' u' : Value), Good J b MX TS US L → Rep w' X br bz B s J b wr MX (TS ++ [⟨40, L⟩]) US zs tv' u' → Step w w' br bz tv u tv' u' → POST (.returned (.int .i64 (TS.length : Int))) w')) :
    Calls Tryz.prog 26 #[.pointer (some ⟨br, 0, none⟩)] w POST := by
  have hil : i < s.size := bt_pos (by omega)
  have hsl := R.sl
  go_enter Tryz.func26, Tryz.ntmps26
  go_wp2_with (first
    | (go_at_call 23; refine (peek_rep R hc).mono ?_; rintro e w1 ⟨rfl, hw⟩; have R1 := R.still hw; have c1 := R1.here.c1; have f1 := R1.here.thaw 1)
    | (go_at_call 48; refine (hA.out _ (R1.inc hil).1).mono ?_; rintro e w2 ⟨sv, rfl, hAny⟩; obtain ⟨J, b, MX, TS, US, L, tv2, u2, good, R2, hs2, hX2, hl2, st2⟩ := hAny; obtain ⟨sa, sn, sc, rfl⟩ := own_slice hs2.1)
    | (go_at_call 47; refine (lay_rep (R2.alloc _).1 ((R2.alloc _).2.subs hs2 R2.rB R2.zB) hX2 hl2).mono ?_; rintro e w3 ⟨rfl, hL⟩))
  try go_ret
  obtain ⟨tv', r, st⟩ := hL
  exact fin.out _ _ _ _ _ _ _ _ _ good r (((((Step.ofStill hw).trans (R1.inc hil).2).trans st2).trans (R2.alloc _).2).trans st)
theorem typ_paren {s : ByteArray} {i : Nat} (hc : bt s i = 40) (hA : AltsOK s (i + 1)) : TypOK s i := by
  intro w X br bz B wr mx ts us zs tv u R
  have hil : i < s.size := bt_pos (by omega)
  have htl := R.tl
  have hPT := pT_alts hc
  cases hp : pA s (i + 1) with
  | error k =>
    refine paren_walk hc (fun J b _ TS _ _ => J = k ∧ b = true ∧ TS.length + (i + 1) ≤ k + ts.length) _ R ?_ ?_
    · intro w R
      refine (hA w X br bz B wr mx ts us zs tv u R).mono ?_
      rintro e w' ⟨sv, tv', u', rfl, st, hh⟩
      rw [hp] at hh
      obtain ⟨mx', ts', us', l, r, hl, hs, hx⟩ := hh
      exact ⟨sv, rfl, k, true, mx', ts', us', l, tv', u', ⟨rfl, rfl, hl⟩, r, hs, hx, by omega, st⟩
    · rintro w' J b MX TS US L tv' u' ⟨rfl, rfl, hl⟩ r st
      unfold TypPost
      rw [hPT, hp]
      exact ⟨⟨_, rfl⟩, _, _, _, _, _, r, by rw [List.length_append]; simp only [List.length_cons, List.length_nil]; omega, st⟩
  | ok q =>
    obtain ⟨ds, j⟩ := q
    have hcnt := pA_count hp ts.length
    by_cases hj : bt s j = 41
    · refine paren_walk hc (fun J b MX TS US L => J = j + 1 ∧ b = false ∧ MX = mixs [] ds mx ∧ TS = ts ++ flats ts.length ds ∧ US = us ++ usesAll ds ∧ L = nums ts.length ds) _ R ?_ ?_
      · intro w R
        refine (hA w X br bz B wr mx ts us zs tv u R).mono ?_
        rintro e w' ⟨sv, tv', u', rfl, st, hh⟩
        rw [hp] at hh
        simp only [hj, if_true] at hh
        exact ⟨sv, rfl, j + 1, false, _, _, _, _, tv', u', ⟨rfl, rfl, rfl, rfl, rfl, rfl⟩, hh.1, hh.2.1, hh.2.2, by rw [List.length_append]; omega, st⟩
      · rintro w' J b MX TS US L tv' u' ⟨rfl, rfl, rfl, rfl, rfl, rfl⟩ r st
        unfold TypPost
        rw [hPT, hp]
        simp only [hj, if_true]
        refine ⟨by simp [flat], tv', u', ?_, st⟩
        simpa [flat, mix, usesOf] using r
    · refine paren_walk hc (fun J b _ TS _ _ => J = j ∧ b = true ∧ TS.length + (i + 1) ≤ j + ts.length) _ R ?_ ?_
      · intro w R
        refine (hA w X br bz B wr mx ts us zs tv u R).mono ?_
        rintro e w' ⟨sv, tv', u', rfl, st, hh⟩
        rw [hp] at hh
        simp only [hj, if_false] at hh
        obtain ⟨mx', ts', us', l, r, hl, hs, hx⟩ := hh
        exact ⟨sv, rfl, j, true, mx', ts', us', l, tv', u', ⟨rfl, rfl, hl⟩, r, hs, hx, by omega, st⟩
      · rintro w' J b MX TS US L tv' u' ⟨rfl, rfl, hl⟩ r st
        unfold TypPost
        rw [hPT, hp]
        simp only [hj, if_false]
        exact ⟨⟨_, rfl⟩, _, _, _, _, _, r, by rw [List.length_append]; simp only [List.length_cons, List.length_nil]; omega, st⟩
end Go.Proofs.YthndngbnioacpaaGreatDoor
namespace Go.Proofs.YthndngbnioacpaaGreatDoor
open Go.RowKit
structure Mid (w : World) (X : Nat → Prop) (br bz B : Nat) (s : ByteArray) (j : Nat) (wg MX : Int) (TS : List TR) (US : List (Nat × Nat)) (zs : List Value) (tv u tv2 u2 sv : Value) (L : List Nat) (W : World) : Prop where
  R : Rep W (fun g => X g ∨ g = w.heap.size ∨ g = w.heap.size + 1 ∨ sv.ownBlock = some g) br bz B s j false wg MX TS US zs tv2 u2
  b2 : Blk W w.heap.size [.int .u8 0, .slice none 0 0] 126
  b3 : Blk W (w.heap.size + 1) [.int .u8 40, sv] 126
  ss : SubsAt W B tv2 u2 sv L
  sn : ∀ g, sv.ownBlock = some g → w.heap.size + 2 ≤ g
  st : Step w W br bz tv u tv2 u2
def AltInv (w : World) (X : Nat → Prop) (br bz B : Nat) (s : ByteArray) (i : Nat) (wr mx : Int) (ts : List TR) (us : List (Nat × Nat)) (zs : List Value) (tv u : Value) (n : Nat) (kv mv : Value) (W : World) : Prop :=
  ∃ (ds : List PT) (i' : Nat) (more : Bool) (kb : ByteArray) (sv tv' u' : Value),
    kv = .string kb ∧ mv = .bool more ∧ kb.data.toList.map UInt8.toNat = ds.map PT.kind ∧ i + (flats ts.length ds).length ≤ i' ∧ ds.length ≤ i' ∧
    Mid w X br bz B s i' wr (mixs [] ds mx) (ts ++ flats ts.length ds) (us ++ usesAll ds) zs tv u tv' u' sv (nums ts.length ds) W ∧
    s.size + 1 - i' ≤ n ∧ (more = true → pA s i = ahead ds (pA s i')) ∧ (more = false → pA s i = .ok (ds, i'))
theorem Rep.offS {w : World} {X : Nat → Prop} {br bz B : Nat} {s : ByteArray} {i : Nat} {bad : Bool} {wr mx : Int} {ts : List TR} {us : List (Nat × Nat)} {zs : List Value} {tv u : Value} (R : Rep w X br bz B s i bad wr mx ts us zs tv u) {g : Nat} (hg : X g) :
    ¬ (g = br ∨ g = bz ∨ tv.ownBlock = some g ∨ u.ownBlock = some g) := by
  obtain ⟨_, a, b, c, d⟩ := R.av g hg
  rintro (h | h | h | h)
  · exact a h
  · exact b h
  · exact c h
  · exact d h
section
variable {w W W' : World} {X : Nat → Prop} {br bz B : Nat} {s : ByteArray} {j : Nat} {wg MX : Int} {TS : List TR} {US : List (Nat × Nat)} {zs : List Value} {tv u tv2 u2 sv : Value} {L : List Nat}
theorem Mid.call (M : Mid w X br bz B s j wg MX TS US zs tv u tv2 u2 sv L W) {j' : Nat} {MX' : Int} {TS' : List TR} {US' : List (Nat × Nat)} {tv3 u3 : Value}
    (R' : Rep W' (fun g => X g ∨ g = w.heap.size ∨ g = w.heap.size + 1 ∨ sv.ownBlock = some g) br bz B s j' false wg MX' TS' US' zs tv3 u3) (st : Step W W' br bz tv2 u2 tv3 u3) : Mid w X br bz B s j' wg MX' TS' US' zs tv u tv3 u3 sv L W' :=
  ⟨R', st.fr.blk M.b2 (M.R.offS (.inr (.inl rfl))), st.fr.blk M.b3 (M.R.offS (.inr (.inr (.inl rfl)))), st.subs M.ss M.R.rB M.R.zB, M.sn, M.st.trans st⟩
theorem Mid.still (M : Mid w X br bz B s j wg MX TS US zs tv u tv2 u2 sv L W) (h : Still W W') : Mid w X br bz B s j wg MX TS US zs tv u tv2 u2 sv L W' := M.call (M.R.still h) (Step.ofStill h)
theorem Mid.inc (M : Mid w X br bz B s j wg MX TS US zs tv u tv2 u2 sv L W) (h : j < s.size) : Mid w X br bz B s (j + 1) wg MX TS US zs tv u tv2 u2 sv L (W.setCell ⟨br, 1, none⟩ (.int .i64 ((j : Int) + 1))) := M.call (M.R.inc h).1 (M.R.inc h).2
theorem Mid.setMx (M : Mid w X br bz B s j wg MX TS US zs tv u tv2 u2 sv L W) (m : Int) : Mid w X br bz B s j wg m TS US zs tv u tv2 u2 sv L (W.setCell ⟨br, 6, none⟩ (.int .i64 m)) := M.call (M.R.setMx m).1 (M.R.setMx m).2
theorem Mid.grow (M : Mid w X br bz B s j wg MX TS US zs tv u tv2 u2 sv L W) {a b : Obj} {w5 : World} {v5 : Value} {N : Nat} (hg : ((W.alloc a).alloc b).grownBy w5 sv.ownBlock)
    (ho : w5.ownsRow B 3 1 v5 (L.length + 1) ((L.map fun (n : Nat) => Value.int .i64 (n : Int)) ++ [.int .i64 (N : Int)])) (hl : v5.ownBlock = sv.ownBlock ∨ v5.ownBlock = some ((W.alloc a).alloc b).heap.size) :
    Mid w X br bz B s j wg MX TS US zs tv u tv2 u2 v5 (L ++ [N]) (w5.setCell ⟨w.heap.size + 1, 1, none⟩ v5) := by
  have hF : Fr W w5 (fun g => sv.ownBlock = some g) := Fr.grown (((Fr.refl W _).alloc a).alloc b) hg (fun k e _ => e)
  have l2 := M.b2.lt
  have l3 := M.b3.lt
  have n2 : ∀ g, sv.ownBlock = some g → g ≠ w.heap.size := fun g hg e => by have := M.sn g hg; omega
  have n3 : ∀ g, sv.ownBlock = some g → g ≠ w.heap.size + 1 := fun g hg e => by have := M.sn g hg; omega
  have hv : ∀ g, v5.ownBlock = some g → w.heap.size + 2 ≤ g ∧ (sv.ownBlock = some g ∨ W.heap.size ≤ g) := fun g hg' => by
    rcases hl with e | e
    · exact ⟨M.sn g (e ▸ hg'), .inl (e ▸ hg')⟩
    · rw [e] at hg'
      simp only [Option.some.injEq] at hg'
      have : ((W.alloc a).alloc b).heap.size = W.heap.size + 2 := by simp
      exact ⟨by omega, .inr (by omega)⟩
  have B2 := hF.blk M.b2 (fun e => n2 _ e rfl)
  have B3 := hF.blk M.b3 (fun e => n3 _ e rfl)
  have hG : Fr w5 (w5.setCell ⟨w.heap.size + 1, 1, none⟩ v5) (fun g => g = w.heap.size + 1) := (Fr.refl w5 (fun g => g = w.heap.size + 1)).setCell ⟨w.heap.size + 1, 1, none⟩ v5 (fun _ => rfl)
  have B2' := hG.blk B2 (by omega)
  have B3' : Blk (w5.setCell ⟨w.heap.size + 1, 1, none⟩ v5) (w.heap.size + 1) [.int .u8 40, v5] 126 := B3.set 1 v5
  have ho' := ownsRow_fr ho hG (fun g hg' e => by have := hv g hg'; omega)
  have hH : Fr W (w5.setCell ⟨w.heap.size + 1, 1, none⟩ v5) (fun g => X g ∨ g = w.heap.size ∨ g = w.heap.size + 1 ∨ sv.ownBlock = some g) :=
    (hF.mono (fun _ _ e => .inr (.inr (.inr e)))).trans hG (fun _ _ e => .inr (.inr (.inl e)))
  have hst : Fr W (w5.setCell ⟨w.heap.size + 1, 1, none⟩ v5) (fun g => sv.ownBlock = some g ∨ g = w.heap.size + 1) := (hF.mono (fun _ _ e => .inl e)).trans hG (fun _ _ e => .inr e)
  have hlt : ∀ g, v5.ownBlock = some g → g < (w5.setCell ⟨w.heap.size + 1, 1, none⟩ v5).heap.size := fun g hg' => (ho'.lt g hg').2
  refine ⟨(M.R.out hH).fewer (fun g hg' => ?_), B2', B3', ⟨by simpa using ho', fun g hg' => ?_⟩, fun g hg' => (hv g hg').1, M.st.out hst (fun g hg' => ?_)⟩
  · rcases hg' with e | e | e | e
    · exact .inl (.inl e)
    · exact .inl (.inr (.inl e))
    · exact .inl (.inr (.inr (.inl e)))
    · rcases (hv g e).2 with q | q
      · exact .inl (.inr (.inr (.inr q)))
      · exact .inr ⟨q, hlt g e⟩
  · rcases (hv g hg').2 with q | q
    · exact M.ss.2 g q
    · obtain ⟨xs, hx, _⟩ := M.R.tys
      exact ⟨fun e => by have := hx.lt g e; omega, fun e => by have := M.R.uses.lt g e; omega⟩
  · rcases hg' with e | e
    · have := M.sn g e; omega
    · omega
theorem Mid.growCell (M : Mid w X br bz B s j wg MX TS US zs tv u tv2 u2 sv L W) {a b : Obj} {w5 : World} (hg : ((W.alloc a).alloc b).grownBy w5 sv.ownBlock) : w5.cell? ⟨w.heap.size + 1, 1, none⟩ = some sv ∧ w5.frozen? ⟨w.heap.size + 1, 1, none⟩ = false := by
  have hF : Fr W w5 (fun g => sv.ownBlock = some g) := Fr.grown (((Fr.refl W _).alloc a).alloc b) hg (fun k e _ => e)
  have B3 := hF.blk M.b3 (fun e => by have := M.sn _ e; omega)
  exact ⟨B3.cell 1, B3.thaw 1⟩
end
theorem alt_start {w : World} {X : Nat → Prop} {br bz B : Nat} {s : ByteArray} {i : Nat} {wg mx : Int} {ts : List TR} {us : List (Nat × Nat)} {zs : List Value} {tv u : Value} (R : Rep w X br bz B s i false wg mx ts us zs tv u) :
    AltInv w X br bz B s i wg mx ts us zs tv u (s.size + 1) (.string ⟨#[]⟩) (.bool true) ((w.alloc (.cells #[.int .u8 0, .slice none 0 0] 126)).alloc (.cells #[.int .u8 40, .slice none 0 0] 126)) := by
  have h1 := R.out (((Fr.refl w X).alloc (.cells #[.int .u8 0, .slice none 0 0] 126)).alloc (.cells #[.int .u8 40, .slice none 0 0] 126))
  refine ⟨[], i, true, ⟨#[]⟩, .slice none 0 0, tv, u, rfl, rfl, rfl, by simp [flats], Nat.zero_le _, ⟨?_, (Blk.new w _ _).alloc _, ?_, subs_nil _ _ _ _, fun g hg => by simp [Value.ownBlock] at hg, ⟨((Fr.refl w _).alloc _).alloc _, .inl rfl, .inl rfl⟩⟩, by omega, fun _ => (ahead_nil _).symm, fun h => by cases h⟩
  · have h2 := h1.fewer (Y := fun g => X g ∨ g = w.heap.size ∨ g = w.heap.size + 1 ∨ (Value.slice none 0 0).ownBlock = some g) (fun g hg => by
      rcases hg with hg | hg | hg | hg
      · exact .inl hg
      · exact .inr (by simp; omega)
      · exact .inr (by simp; omega)
      · simp [Value.ownBlock] at hg)
    simpa [mixs, flats, usesAll] using h2
  · have := Blk.new (w.alloc (.cells #[.int .u8 0, .slice none 0 0] 126)) #[.int .u8 40, .slice none 0 0] 126
    simpa using this
theorem Fr.two (w : World) (b o1 o2 : Nat) (v1 v2 : Value) : Fr w ((w.setCell ⟨b, o1, none⟩ v1).setCell ⟨b, o2, none⟩ v2) (fun g => g = b) :=
  ((Fr.refl w (fun g => g = b)).setCell ⟨b, o1, none⟩ v1 (fun _ => rfl)).setCell ⟨b, o2, none⟩ v2 (fun _ => rfl)
theorem alt_end {w wr w3 w4 : World} {X : Nat → Prop} {br bz B : Nat} {s : ByteArray} {i i' : Nat} {wg mx : Int} {ts : List TR} {us : List (Nat × Nat)} {zs : List Value} {tv u tv' u' sv : Value} {ds : List PT} (R : Rep w X br bz B s i false wg mx ts us zs tv u)
    (hpA : pA s i = .ok (ds, i'))
    (hE : if bt s i' = 41 then Rep w3 (fun g => X g ∨ g = w.heap.size ∨ g = w.heap.size + 1 ∨ sv.ownBlock = some g) br bz B s (i' + 1) false wg (mixs [] ds mx) (ts ++ flats ts.length ds) (us ++ usesAll ds) zs tv' u'
      else Rep w3 (fun g => X g ∨ g = w.heap.size ∨ g = w.heap.size + 1 ∨ sv.ownBlock = some g) br bz B s i' true wg (mixs [] ds mx) (ts ++ flats ts.length ds) (us ++ usesAll ds) zs tv' u')
    (hst : Step w wr br bz tv u tv' u') (st3 : Step wr w3 br bz tv' u' tv' u') (hss : SubsAt wr B tv' u' sv (nums ts.length ds)) (hsn : ∀ g, sv.ownBlock = some g → w.heap.size + 2 ≤ g) (hF : Fr w3 w4 (fun g => g = w.heap.size)) :
    AltsPost w X br bz B s i wg mx ts us zs tv u (.returned (.agg #[.int .u8 40, sv])) w4 := by
  have hS : SubsAt w4 B tv' u' sv (nums ts.length ds) := by
    have h1 := st3.subs hss R.rB R.zB
    exact ⟨ownsRow_fr h1.1 hF (fun g hg e => by have := hsn g hg; omega), h1.2⟩
  have hX : ∀ g, X g → sv.ownBlock ≠ some g := fun g hg e => by have := hsn g e; have := (R.av g hg).1; omega
  refine ⟨sv, tv', u', rfl, (hst.trans st3).out hF (fun g hg => by omega), ?_⟩
  rw [hpA]
  simp only
  by_cases hb : bt s i' = 41
  · rw [if_pos hb] at hE ⊢
    exact ⟨(hE.out (hF.mono (fun _ _ e => .inr (.inl e)))).fewer (fun g hg => .inl (.inl hg)), hS, hX⟩
  · rw [if_neg hb] at hE ⊢
    have hc := pA_count hpA ts.length
    exact ⟨_, _, _, _, (hE.out (hF.mono (fun _ _ e => .inr (.inl e)))).fewer (fun g hg => .inl (.inl hg)), by rw [List.length_append]; omega, hS, hX⟩
theorem alt_err {w wr w3 w4 : World} {X : Nat → Prop} {br bz B : Nat} {s : ByteArray} {i k : Nat} {wg mx mx2 : Int} {ts ts2 : List TR} {us us2 : List (Nat × Nat)} {zs : List Value} {tv u tv' u' tv2 u2 sv : Value} {l : List Nat} (R : Rep w X br bz B s i false wg mx ts us zs tv u)
    (hpA : pA s i = .error k) (R2 : Rep w3 (fun g => X g ∨ g = w.heap.size ∨ g = w.heap.size + 1 ∨ sv.ownBlock = some g) br bz B s k true wg mx2 ts2 us2 zs tv2 u2) (hl : ts2.length + i ≤ k + ts.length)
    (hst : Step w wr br bz tv u tv' u') (st3 : Step wr w3 br bz tv' u' tv2 u2) (hss : SubsAt wr B tv' u' sv l) (hsn : ∀ g, sv.ownBlock = some g → w.heap.size + 2 ≤ g) (hF : Fr w3 w4 (fun g => g = w.heap.size)) :
    AltsPost w X br bz B s i wg mx ts us zs tv u (.returned (.agg #[.int .u8 40, sv])) w4 := by
  have hS : SubsAt w4 B tv2 u2 sv l := by
    have h1 := st3.subs hss R.rB R.zB
    exact ⟨ownsRow_fr h1.1 hF (fun g hg e => by have := hsn g hg; omega), h1.2⟩
  have hX : ∀ g, X g → sv.ownBlock ≠ some g := fun g hg e => by have := hsn g e; have := (R.av g hg).1; omega
  refine ⟨sv, tv2, u2, rfl, (hst.trans st3).out hF (fun g hg => by omega), ?_⟩
  rw [hpA]
  exact ⟨_, _, _, _, (R2.out (hF.mono (fun _ _ e => .inr (.inl e)))).fewer (fun g hg => .inl (.inl hg)), hl, hS, hX⟩
theorem kind_cell {w : World} {X : Nat → Prop} {br bz B : Nat} {s : ByteArray} {i : Nat} {bad : Bool} {wr mx : Int} {ts fl : List TR} {us : List (Nat × Nat)} {zs : List Value} {tv u : Value} {N c : Nat} (R : Rep w X br bz B s i bad wr mx (ts ++ fl) us zs tv u)
    (hN : N = ts.length + fl.length - 1) (hp : 0 < fl.length) (hk : (fl[fl.length - 1]?).map TR.kind = some c) :
    ∃ g cap, N + 1 ≤ cap ∧ w.cell? ⟨g, N * 2, none⟩ = some (.int .u8 (c : Int)) ∧ w.cell? ⟨bz, 0, none⟩ = some (.slice (some ⟨g, 0, none⟩) (N + 1) cap) := by
  obtain ⟨xs, hx, hk'⟩ := R.tys
  have hl : (ts ++ fl).length = N + 1 := by rw [List.length_append]; omega
  rw [hl] at hx
  obtain ⟨g, cap, rfl⟩ := own_form hx (by omega)
  cases ht : fl[fl.length - 1]? with
  | none => rw [ht] at hk; cases hk
  | some t =>
    rw [ht] at hk
    simp only [Option.map_some, Option.some.injEq] at hk
    obtain ⟨sv, a, b, d, d'⟩ := hk' N t (by rw [List.getElem?_append_right (by omega), show N - ts.length = fl.length - 1 by omega]; exact ht)
    refine ⟨g, cap, ?_, ?_, ?_⟩
    · rcases hx.2 with ⟨h, _⟩ | ⟨_, _, _, h, _, _, hc, _⟩
      · cases h
      · cases h; exact hc
    · rw [hx.cellAt _ (by omega), Nat.mul_comm, a, hk]
    · rw [R.z.cell]; rfl
theorem u_bytes : Tryz.prog.underlying 121 = some (.slice 5) := by kernel_rfl
theorem u_byte : Tryz.prog.underlying 5 = some (.int .u8) := by kernel_rfl
theorem u_string : Tryz.prog.underlying 9 = some .string := by kernel_rfl
theorem u_ints : Tryz.prog.underlying 124 = some (.slice 3) := by kernel_rfl
theorem i_int : (Tryz.prog.info? 3).map (fun i => (i.zero, i.size, i.bytes)) = some (some (.int .i64 0), 1, 8) := by kernel_rfl
theorem conv_one (W : World) (g : Nat) (c : Int) (hg : W.heap.size = g) :
    (convert 121 9 (.slice (some ⟨g, 0, none⟩) 1 1)).run Tryz.prog (W.alloc (.cells #[.int .u8 c] 5)) = .ok (.string ⟨#[UInt8.ofNat c.toNat]⟩) (W.alloc (.cells #[.int .u8 c] 5)) := by
  subst hg
  rw [run_convert_bytes_string _ _ _ _ _ _ _ u_bytes u_byte u_string]
  have hl := run_loadCells_list (P := Tryz.prog) (W.alloc (.cells #[.int .u8 c] 5)) ⟨W.heap.size, 0, none⟩ ([c].map (Value.int .u8)) (news_new W #[.int .u8 c] 5 _ rfl)
  rw [run_bytesToString _ _ 1 1 [c] (by simpa using hl)]
  rfl
theorem plc_mem (s : ByteArray) (c : Nat) : 0 ≤ plc s c ↔ c ∈ s.data.toList.map UInt8.toNat := by
  unfold plc
  cases h : s.data.toList.findIdx? (fun b => b.toNat == c) with
  | none =>
    rw [List.findIdx?_eq_none_iff] at h
    constructor
    · intro h; simp at h
    · intro hm
      obtain ⟨b, hb, rfl⟩ := List.mem_map.1 hm
      have := h b hb
      simp at this
  | some k =>
    rw [List.findIdx?_eq_some_iff_getElem] at h
    obtain ⟨hk, hb, _⟩ := h
    constructor
    · intro _
      exact List.mem_map.2 ⟨_, List.getElem_mem hk, by simpa using hb⟩
    · intro _; simp
theorem pT_kind {s : ByteArray} {i : Nat} {t : PT} {j : Nat} (h : pT s i = .ok (t, j)) : t.kind = bt s i := by
  rw [pT_eq] at h
  unfold stepT at h
  split at h
  · simp only [Except.ok.injEq, Prod.mk.injEq] at h; obtain ⟨rfl, rfl⟩ := h; rfl
  · split at h
    · split at h
      · simp at h
      · split at h
        · simp only [Except.ok.injEq, Prod.mk.injEq] at h; obtain ⟨rfl, rfl⟩ := h; rfl
        · simp at h
    · split at h
      · rename_i h40
        split at h
        · simp at h
        · split at h
          · simp only [Except.ok.injEq, Prod.mk.injEq] at h; obtain ⟨rfl, rfl⟩ := h; exact h40.symm
          · simp at h
      · split at h
        · simp only [Except.ok.injEq, Prod.mk.injEq] at h; obtain ⟨rfl, rfl⟩ := h; rfl
        · simp at h
theorem kb_snoc {kb : ByteArray} {l : List Nat} {c : Nat} (h : kb.data.toList.map UInt8.toNat = l) (hc : c < 256) : (kb ++ ⟨#[UInt8.ofNat c]⟩ : ByteArray).data.toList.map UInt8.toNat = l ++ [c] := by
  subst h
  have : (kb ++ ⟨#[UInt8.ofNat c]⟩ : ByteArray).data = kb.data ++ #[UInt8.ofNat c] := by simp [ByteArray.data_append]
  rw [this]
  simp
  omega
theorem mix_set {kb : ByteArray} {ds : List PT} {t : PT} {i' : Nat} {mx MX : Int} (hkb : kb.data.toList.map UInt8.toNat = ds.map PT.kind) (hpl : t.place = i') (hMX : mix t (mixs [] ds mx) = MX) (h : (t.kind = 40 ∨ 0 ≤ plc kb t.kind) ∧ (MX < 0 ∨ (i' : Int) < MX)) :
    (i' : Int) = mixOne (ds.map PT.kind) t (mix t (mixs [] ds mx)) := by
  rw [hMX, mixOne, hpl, ← hkb]
  simp only [← plc_mem]
  rw [if_pos h]
theorem mix_keep {kb : ByteArray} {ds : List PT} {t : PT} {i' : Nat} {mx MX : Int} (hkb : kb.data.toList.map UInt8.toNat = ds.map PT.kind) (hpl : t.place = i') (hMX : mix t (mixs [] ds mx) = MX) (h : ¬ ((t.kind = 40 ∨ 0 ≤ plc kb t.kind) ∧ (MX < 0 ∨ (i' : Int) < MX))) :
    MX = mixOne (ds.map PT.kind) t (mix t (mixs [] ds mx)) := by
  rw [hMX, mixOne, hpl, ← hkb]
  simp only [← plc_mem]
  rw [if_neg h]
theorem alt_next {w W : World} {X : Nat → Prop} {br bz B : Nat} {s : ByteArray} {i i' j : Nat} {wg mx MX : Int} {ts : List TR} {us : List (Nat × Nat)} {zs : List Value} {tv u tv2 u2 sv : Value} {ds : List PT} {t : PT} {kb : ByteArray} {N : Nat} (n : Nat) (more : Bool) (j' : Nat)
    (hp : pT s i' = .ok (t, j)) (hi : i' ≤ s.size) (hkb : kb.data.toList.map UInt8.toNat = ds.map PT.kind) (hfl : i + (flats ts.length ds).length ≤ i') (hdl : ds.length ≤ i')
    (hpA : pA s i = ahead ds (pA s i')) (hN : N = (ts ++ flats ts.length ds).length + (flat (ts ++ flats ts.length ds).length t).length - 1)
    (hMX : MX = mixOne (ds.map PT.kind) t (mix t (mixs [] ds mx)))
    (M : Mid w X br bz B s j' wg MX ((ts ++ flats ts.length ds) ++ flat (ts ++ flats ts.length ds).length t) ((us ++ usesAll ds) ++ usesOf t) zs tv u tv2 u2 sv (nums ts.length ds ++ [N]) W)
    (hn : s.size + 1 - j' ≤ n) (hm : (more = true ∧ j' = j + 1 ∧ bt s j = 44) ∨ (more = false ∧ j' = j ∧ bt s j ≠ 44)) :
    AltInv w X br bz B s i wg mx ts us zs tv u n (.string (kb ++ ⟨#[UInt8.ofNat t.kind]⟩)) (.bool more) W := by
  have hb := (pT_bounds hi).1 t j hp
  have hc := pT_count hp (ts.length + (flats ts.length ds).length)
  have hk : t.kind < 256 := by rw [pT_kind hp]; exact bt_lt _ _
  have hS := pA_step s i' hi
  rw [hp] at hS
  simp only at hS
  have hfs := flats_snoc ts.length ds t
  have hns := nums_snoc ts.length ds t
  rw [List.length_append] at M hN
  refine ⟨ds ++ [t], j', more, _, sv, tv2, u2, rfl, rfl, by rw [kb_snoc hkb hk, List.map_append]; rfl, by rw [hfs, List.length_append]; omega, by rw [List.length_append]; simp only [List.length_cons, List.length_nil]; omega, ?_, hn, fun hmt => ?_, fun hmf => ?_⟩
  · rw [hfs, hns, usesAll_snoc, mixs_snoc, ← List.append_assoc, ← List.append_assoc, ← hN, List.nil_append, ← hMX]
    exact M
  · rcases hm with ⟨_, rfl, h44⟩ | ⟨h, _⟩
    · rw [hpA, hS, if_pos h44, ahead_ahead]
    · rw [hmt] at h; cases h
  · rcases hm with ⟨h, _⟩ | ⟨_, rfl, h44⟩
    · rw [hmf] at h; cases h
    · rw [hpA, hS, if_neg h44]; rfl
end Go.Proofs.YthndngbnioacpaaGreatDoor
namespace Go.Proofs.YthndngbnioacpaaGreatDoor
open Go.RowKit
set_option maxHeartbeats 2000000 in
set_option maxRecDepth 100000 in
theorem alts_all {s : ByteArray} {i : Nat} (hT : ∀ j, i ≤ j → j ≤ s.size → TypOK s j) : AltsOK s i := by
  intro w X br bz B wg mx ts us zs tv u R
  have hsl := R.sl
  have start := alt_start R
  replace start : Hid _ := start
  replace hT : Hid _ := hT
  obtain ⟨POST, hPOST⟩ : ∃ P, Hid (P = AltsPost w X br bz B s i wg mx ts us zs tv u) := ⟨_, rfl⟩
  rw [← hPOST.out]
  go_enter Tryz.func48, Tryz.ntmps48
  go_wp2_with fail
  go_loopg [4, 5] (s.size + 1) (fun n kv mv W => AltInv w X br bz B s i wg mx ts us zs tv u n kv mv W)
  case atStart => exact start.out
  case round =>
    clear start
    obtain ⟨ds, i', more, kb, sv, tv', u', rfl, rfl, hkb, hfl, hdl, M, hg, hm1, hm2⟩ := hrel
    obtain ⟨R1, hb2, hb3, hss, hsn, hst⟩ := id M
    replace M : Hid _ := M
    obtain ⟨sa, sn, sc, rfl⟩ := own_slice hss.1
    have hii : i ≤ i' := by omega
    replace hfl : Hid _ := hfl
    replace hkb : Hid _ := hkb
    replace hb2 : Hid _ := hb2
    replace hb3 : Hid _ := hb3
    replace hss : Hid _ := hss
    replace hsn : Hid _ := hsn
    have c2 := R1.here.c2
    have o2 := R1.offS (g := w.heap.size) (.inr (.inl rfl))
    have o3 := R1.offS (g := w.heap.size + 1) (.inr (.inr (.inl rfl)))
    replace o2 : Hid _ := o2
    replace o3 : Hid _ := o3
    cases more with
    | false =>
      have hpA := hm2 rfl
      replace hpA : Hid _ := hpA
      clear hm1 hm2
      go_wp2_with (first
        | (go_at_call 24; refine (eat_rep' 41 R1 rfl (by decide)).mono ?_; rintro e w3 ⟨rfl, hE, st3⟩; have B3 := st3.fr.blk hb3.out o3.out; have B2 := st3.fr.blk hb2.out o2.out; have d3 := B3.cell 0; have e3 := B3.cell 1; have d2 := B2.cell 0; have e2 := B2.cell 1; have f2 := B2.thaw 0; have g2 := B2.thaw 1; simp only [List.getElem?_cons_zero, List.getElem?_cons_succ] at d2 d3 e2 e3))
      have q0 : ((w3.setCell ⟨w.heap.size, 0, none⟩ (.int .u8 40)).setCell ⟨w.heap.size, 1, none⟩ (.slice sa sn sc)).cell? ⟨w.heap.size, 0, none⟩ = some (.int .u8 40) := ((B2.set 0 (.int .u8 40)).set 1 (.slice sa sn sc)).cell 0
      have q1 : ((w3.setCell ⟨w.heap.size, 0, none⟩ (.int .u8 40)).setCell ⟨w.heap.size, 1, none⟩ (.slice sa sn sc)).cell? ⟨w.heap.size, 1, none⟩ = some (.slice sa sn sc) := ((B2.set 0 (.int .u8 40)).set 1 (.slice sa sn sc)).cell 1
      have hF : Fr w3 ((w3.setCell ⟨w.heap.size, 0, none⟩ (.int .u8 40)).setCell ⟨w.heap.size, 1, none⟩ (.slice sa sn sc)) (fun g => g = w.heap.size) := Fr.two w3 w.heap.size 0 1 _ _
      generalize (w3.setCell ⟨w.heap.size, 0, none⟩ (.int .u8 40)).setCell ⟨w.heap.size, 1, none⟩ (.slice sa sn sc) = w4 at *
      refine bodyPost_ret (v := .agg #[.int .u8 40, .slice sa sn sc]) (by simp [results, Tryz.results48, go_sem, q0, q1]) rfl ?_
      rw [hPOST.out]
      exact alt_end R hpA.out hE hst st3 hss.out hsn.out hF
    | true =>
      have hpA := hm1 rfl
      clear hm1 hm2
      have hil := R1.il
      have hpS := pA_step s i' hil
      have hTi := hT.out i' hii hil
      have c1 := R1.here.c1
      cases hp : pT s i' with
      | error k =>
        rw [hp] at hpS
        rw [hpS] at hpA
        replace hpA : Hid (pA s i = .error k) := hpA
        have hT' : Hid (Calls Tryz.prog 26 #[.pointer (some ⟨br, 0, none⟩)] wr fun e w' => (∃ v : Nat, e = .returned (.int .i64 (v : Int))) ∧ Hid (∃ mx' ts' us' tv2 u2, Rep w' (fun g => X g ∨ g = w.heap.size ∨ g = w.heap.size + 1 ∨ (Value.slice sa sn sc).ownBlock = some g) br bz B s k true wg mx' ts' us' zs tv2 u2 ∧ ts'.length + i' ≤ k + (ts ++ flats ts.length ds).length ∧ Step wr w' br bz tv' u' tv2 u2)) := by
          refine (hTi wr _ br bz B wg _ _ _ zs tv' u' R1).mono ?_
          intro e w' hh
          unfold TypPost at hh
          rw [hp] at hh
          exact hh
        clear hTi hpS hp
        go_wp2_with (first
          | (go_at_call 26; refine hT'.out.mono ?_; rintro e w3 ⟨⟨v, rfl⟩, hR2⟩; obtain ⟨mx2, ts2, us2, tv2, u2, R2, hl2, st3⟩ := hR2.out; have c2' := R2.here.c2; have B3 := st3.fr.blk hb3.out o3.out; have B2 := st3.fr.blk hb2.out o2.out; have d3 := B3.cell 0; have e3 := B3.cell 1; have d2 := B2.cell 0; have e2 := B2.cell 1; have f2 := B2.thaw 0; have g2 := B2.thaw 1; simp only [List.getElem?_cons_zero, List.getElem?_cons_succ] at d2 d3 e2 e3))
        have q0 : ((w3.setCell ⟨w.heap.size, 0, none⟩ (.int .u8 40)).setCell ⟨w.heap.size, 1, none⟩ (.slice sa sn sc)).cell? ⟨w.heap.size, 0, none⟩ = some (.int .u8 40) := ((B2.set 0 (.int .u8 40)).set 1 (.slice sa sn sc)).cell 0
        have q1 : ((w3.setCell ⟨w.heap.size, 0, none⟩ (.int .u8 40)).setCell ⟨w.heap.size, 1, none⟩ (.slice sa sn sc)).cell? ⟨w.heap.size, 1, none⟩ = some (.slice sa sn sc) := ((B2.set 0 (.int .u8 40)).set 1 (.slice sa sn sc)).cell 1
        have hF : Fr w3 ((w3.setCell ⟨w.heap.size, 0, none⟩ (.int .u8 40)).setCell ⟨w.heap.size, 1, none⟩ (.slice sa sn sc)) (fun g => g = w.heap.size) := Fr.two w3 w.heap.size 0 1 _ _
        generalize (w3.setCell ⟨w.heap.size, 0, none⟩ (.int .u8 40)).setCell ⟨w.heap.size, 1, none⟩ (.slice sa sn sc) = w4 at *
        refine bodyPost_ret (v := .agg #[.int .u8 40, .slice sa sn sc]) (by simp [results, Tryz.results48, go_sem, q0, q1]) rfl ?_
        rw [hPOST.out]
        exact alt_err R hpA.out R2 (by have := hfl.out; rw [List.length_append] at hl2; omega) hst st3 hss.out hsn.out hF
      | ok q =>
        obtain ⟨t, j⟩ := q
        rw [hp] at hpS
        have hcnt := pT_count hp (ts ++ flats ts.length ds).length
        have hjb := (pT_bounds hil).1 t j hp
        have hpl := pT_place hp
        have hT' : Hid (Calls Tryz.prog 26 #[.pointer (some ⟨br, 0, none⟩)] wr fun e w' => e = .returned (.int .i64 (((ts ++ flats ts.length ds).length + (flat (ts ++ flats ts.length ds).length t).length - 1 : Nat) : Int)) ∧ Hid (∃ tv2 u2, Rep w' (fun g => X g ∨ g = w.heap.size ∨ g = w.heap.size + 1 ∨ (Value.slice sa sn sc).ownBlock = some g) br bz B s j false wg (mix t (mixs [] ds mx)) ((ts ++ flats ts.length ds) ++ flat (ts ++ flats ts.length ds).length t) ((us ++ usesAll ds) ++ usesOf t) zs tv2 u2 ∧ Step wr w' br bz tv' u' tv2 u2)) := by
          refine (hTi wr _ br bz B wg _ _ _ zs tv' u' R1).mono ?_
          intro e w' hh
          unfold TypPost at hh
          rw [hp] at hh
          exact hh
        have hkind := flat_last (ts ++ flats ts.length ds).length t
        have hpos := flat_pos (ts ++ flats ts.length ds).length t
        have hN : ∃ N, N = (ts ++ flats ts.length ds).length + (flat (ts ++ flats ts.length ds).length t).length - 1 := ⟨_, rfl⟩
        obtain ⟨N, hN⟩ := hN
        rw [← hN] at hT'
        generalize hMX : mix t (mixs [] ds mx) = MX at hT'
        replace hpA : Hid _ := hpA
        replace hpS : Hid _ := hpS
        replace hp : Hid _ := hp
        replace hcnt : Hid _ := hcnt
        replace hpl : Hid _ := hpl
        replace hkind : Hid _ := hkind
        replace hpos : Hid _ := hpos
        replace hN : Hid _ := hN
        replace hMX : Hid _ := hMX
        clear hTi
        have hks : kb.size ≤ 300 := by
          have h1 := congrArg List.length hkb.out
          simp only [List.length_map, Array.length_toList] at h1
          have h2 : kb.size = kb.data.size := rfl
          omega
        have hcv := fun (W : World) (g : Nat) (c : Int) (h : W.heap.size = g) => conv_one W g c h
        obtain ⟨ti, hi1, hi2, hi3, hi4⟩ := info_parts i_int
        have hnl : (nums ts.length ds).length ≤ 300 := by rw [nums_length]; omega
        by_cases hj : bt s j = 44
        · have hjs : j < s.size := bt_pos (by omega)
          go_wp2_with (first
            | (go_at_call 26; refine hT'.out.mono ?_; rintro e w3 ⟨rfl, hR2⟩; obtain ⟨tv2, u2, R2, st3⟩ := hR2.out; have c2' := R2.here.c2; have c3' := R2.here.c3; have c6' := R2.here.c6; have f6' := R2.here.thaw 6; have M3 := M.out.call R2 st3; have e3 : ∀ x, (w3.alloc x).cell? ⟨w.heap.size + 1, 1, none⟩ = some (.slice sa sn sc) := fun x => M3.b3.cellAlloc 1 x; have e4 : ∀ m x, ((w3.setCell ⟨br, 6, none⟩ (.int .i64 m)).alloc x).cell? ⟨w.heap.size + 1, 1, none⟩ = some (.slice sa sn sc) := fun m x => (M3.setMx m).b3.cellAlloc 1 x; have own1 := M3.ss.1; have own2 := fun m => (M3.setMx m).ss.1; replace own1 : Hid _ := own1; replace own2 : Hid _ := own2; replace M3 : Hid _ := M3; obtain ⟨g, cap, hcap, hkc, hz0⟩ := kind_cell R2 hN.out hpos.out hkind.out)
            | (go_at_call 67; refine (has_any kb t.kind _ (by omega)).mono ?_; rintro e w' ⟨rfl, rfl⟩)
            | (at_builtin; refine wpList_append_own_at _ rfl _ _ 124 rfl B 3 ti (.int .i64 0) 1 8 u_ints hi1 hi2 hi3 hi4 rfl (by decide) (.slice sa sn sc) (nums ts.length ds).length ((nums ts.length ds).map fun (n : Nat) => Value.int .i64 (n : Int)) rfl ?hown _ 1 1 [.int .i64 (N : Int)] rfl rfl (news_new _ #[.int .i64 (N : Int)] _ _ ?nn) (ints_oneCell .i64 [(N : Int)]) ?b1 ?b2 ?b3 ?_
               case hown => first | exact World.ownsRow.alloc (World.ownsRow.alloc own1.out _) _ | exact World.ownsRow.alloc (World.ownsRow.alloc (own2.out _) _) _
               case nn => simp
               case b1 => unfold maxLen; omega
               case b2 => omega
               case b3 => have := R2.hB; simp; omega
               intro v5 w5 ho5 hg5 hn5 hl5
               first | have M5 := M3.out.grow hg5 ho5 hl5 | have M5 := (M3.out.setMx _).grow hg5 ho5 hl5
               first | have E5 := M3.out.growCell hg5 | have E5 := (M3.out.setMx _).growCell hg5
               obtain ⟨e5, f5⟩ := E5
               obtain ⟨g5, cap5, rfl⟩ := own_form ho5 (by omega)
               clear hg5 hl5 hn5
               replace M5 : Hid _ := M5)
            | (go_at_call 23; refine (peek_rep M5.out.R hj).mono ?_; rintro e w6 ⟨rfl, hw6⟩; have M6 := M5.out.still hw6; have c1'' := M6.R.here.c1; have f1'' := M6.R.here.thaw 1; replace M6 : Hid _ := M6))
          all_goals
            go_roundg (s.size + 1 - (j + 1))
            case measure => omega
            case rel =>
              first
                | exact alt_next (s.size + 1 - (j + 1)) true (j + 1) hp.out hil hkb.out hfl.out hdl hpA.out hN.out (mix_set hkb.out hpl.out hMX.out (by omega)) (M6.out.inc hjs) (Nat.le_refl _) (.inl ⟨rfl, rfl, hj⟩)
                | exact alt_next (s.size + 1 - (j + 1)) true (j + 1) hp.out hil hkb.out hfl.out hdl hpA.out hN.out (mix_keep hkb.out hpl.out hMX.out (by omega)) (M6.out.inc hjs) (Nat.le_refl _) (.inl ⟨rfl, rfl, hj⟩)
                | (have hk : t.kind = 40 := by omega
                   have q := alt_next (s.size + 1 - (j + 1)) true (j + 1) hp.out hil hkb.out hfl.out hdl hpA.out hN.out (mix_set hkb.out hpl.out hMX.out (by omega)) (M6.out.inc hjs) (Nat.le_refl _) (.inl ⟨rfl, rfl, hj⟩)
                   rw [hk] at q
                   exact q)
                | (have hk : t.kind = 40 := by omega
                   have q := alt_next (s.size + 1 - (j + 1)) true (j + 1) hp.out hil hkb.out hfl.out hdl hpA.out hN.out (mix_keep hkb.out hpl.out hMX.out (by omega)) (M6.out.inc hjs) (Nat.le_refl _) (.inl ⟨rfl, rfl, hj⟩)
                   rw [hk] at q
                   exact q)
        · obtain ⟨cj, hcj⟩ : ∃ c, bt s j = c := ⟨_, rfl⟩
          have hj4 : ((cj : Int) == 44) = false := by simp; omega
          have hj' : Hid (bt s j ≠ 44) := hj
          clear hj
          go_wp2_with (first
            | (go_at_call 26; refine hT'.out.mono ?_; rintro e w3 ⟨rfl, hR2⟩; obtain ⟨tv2, u2, R2, st3⟩ := hR2.out; have c2' := R2.here.c2; have c3' := R2.here.c3; have c6' := R2.here.c6; have f6' := R2.here.thaw 6; have M3 := M.out.call R2 st3; have e3 : ∀ x, (w3.alloc x).cell? ⟨w.heap.size + 1, 1, none⟩ = some (.slice sa sn sc) := fun x => M3.b3.cellAlloc 1 x; have e4 : ∀ m x, ((w3.setCell ⟨br, 6, none⟩ (.int .i64 m)).alloc x).cell? ⟨w.heap.size + 1, 1, none⟩ = some (.slice sa sn sc) := fun m x => (M3.setMx m).b3.cellAlloc 1 x; have own1 := M3.ss.1; have own2 := fun m => (M3.setMx m).ss.1; replace own1 : Hid _ := own1; replace own2 : Hid _ := own2; replace M3 : Hid _ := M3; obtain ⟨g, cap, hcap, hkc, hz0⟩ := kind_cell R2 hN.out hpos.out hkind.out)
            | (go_at_call 67; refine (has_any kb t.kind _ (by omega)).mono ?_; rintro e w' ⟨rfl, rfl⟩)
            | (at_builtin; refine wpList_append_own_at _ rfl _ _ 124 rfl B 3 ti (.int .i64 0) 1 8 u_ints hi1 hi2 hi3 hi4 rfl (by decide) (.slice sa sn sc) (nums ts.length ds).length ((nums ts.length ds).map fun (n : Nat) => Value.int .i64 (n : Int)) rfl ?hown _ 1 1 [.int .i64 (N : Int)] rfl rfl (news_new _ #[.int .i64 (N : Int)] _ _ ?nn) (ints_oneCell .i64 [(N : Int)]) ?b1 ?b2 ?b3 ?_
               case hown => first | exact World.ownsRow.alloc (World.ownsRow.alloc own1.out _) _ | exact World.ownsRow.alloc (World.ownsRow.alloc (own2.out _) _) _
               case nn => simp
               case b1 => unfold maxLen; omega
               case b2 => omega
               case b3 => have := R2.hB; simp; omega
               intro v5 w5 ho5 hg5 hn5 hl5
               first | have M5 := M3.out.grow hg5 ho5 hl5 | have M5 := (M3.out.setMx _).grow hg5 ho5 hl5
               first | have E5 := M3.out.growCell hg5 | have E5 := (M3.out.setMx _).growCell hg5
               obtain ⟨e5, f5⟩ := E5
               obtain ⟨g5, cap5, rfl⟩ := own_form ho5 (by omega)
               clear hg5 hl5 hn5
               replace M5 : Hid _ := M5)
            | (go_at_call 23; refine (peek_rep M5.out.R hcj).mono ?_; rintro e w6 ⟨rfl, hw6⟩; have M6 := M5.out.still hw6; have c1'' := M6.R.here.c1; have f1'' := M6.R.here.thaw 1; replace M6 : Hid _ := M6))
          all_goals
            go_roundg (s.size + 1 - j)
            case measure => omega
            case rel =>
              first
                | exact alt_next (s.size + 1 - j) false (j) hp.out hil hkb.out hfl.out hdl hpA.out hN.out (mix_set hkb.out hpl.out hMX.out (by omega)) M6.out (Nat.le_refl _) (.inr ⟨rfl, rfl, hj'.out⟩)
                | exact alt_next (s.size + 1 - j) false (j) hp.out hil hkb.out hfl.out hdl hpA.out hN.out (mix_keep hkb.out hpl.out hMX.out (by omega)) M6.out (Nat.le_refl _) (.inr ⟨rfl, rfl, hj'.out⟩)
                | (have hk : t.kind = 40 := by omega
                   have q := alt_next (s.size + 1 - j) false (j) hp.out hil hkb.out hfl.out hdl hpA.out hN.out (mix_set hkb.out hpl.out hMX.out (by omega)) M6.out (Nat.le_refl _) (.inr ⟨rfl, rfl, hj'.out⟩)
                   rw [hk] at q
                   exact q)
                | (have hk : t.kind = 40 := by omega
                   have q := alt_next (s.size + 1 - j) false (j) hp.out hil hkb.out hfl.out hdl hpA.out hN.out (mix_keep hkb.out hpl.out hMX.out (by omega)) M6.out (Nat.le_refl _) (.inr ⟨rfl, rfl, hj'.out⟩)
                   rw [hk] at q
                   exact q)
end Go.Proofs.YthndngbnioacpaaGreatDoor
