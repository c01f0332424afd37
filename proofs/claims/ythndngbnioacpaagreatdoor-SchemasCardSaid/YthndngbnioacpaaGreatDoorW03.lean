import Derived.Test.YthndngbnioacpaaGreatDoorW02
import Derived.Test.YthndngbnioacpaaGreatDoorW00
namespace Go.Proofs.YthndngbnioacpaaGreatDoor
open Go.RowKit
def SubsAt (w : World) (B : Nat) (tv u sv : Value) (l : List Nat) : Prop :=
  w.ownsRow B 3 1 sv l.length (l.map fun (n : Nat) => Value.int .i64 (n : Int)) ∧ ∀ g, sv.ownBlock = some g → tv.ownBlock ≠ some g ∧ u.ownBlock ≠ some g
def TysAt (w : World) (X : Nat → Prop) (B : Nat) (tv u : Value) (ts : List TR) : Prop :=
  ∃ xs, w.ownsRow B 126 2 tv ts.length xs ∧ ∀ k t, ts[k]? = some t → ∃ sv, xs[2 * k]? = some (.int .u8 (t.kind : Int)) ∧ xs[2 * k + 1]? = some sv ∧ SubsAt w B tv u sv t.subs ∧ ∀ g, X g → sv.ownBlock ≠ some g
def useCells (us : List (Nat × Nat)) : List Value := us.flatMap fun p => [.int .u8 (p.1 : Int), .int .i64 (p.2 : Int)]
structure Rep (w : World) (X : Nat → Prop) (br bz B : Nat) (s : ByteArray) (i : Nat) (bad : Bool) (wr mx : Int) (ts : List TR) (us : List (Nat × Nat)) (zs : List Value) (tv u : Value) : Prop where
  here : RAt w br s bz ⟨i, bad, u, wr, mx⟩
  z : Blk w bz (tv :: zs) 49
  tys : TysAt w X B tv u ts
  uses : w.ownsRow B 54 2 u us.length (useCells us)
  apart : ∀ g, tv.ownBlock = some g → u.ownBlock ≠ some g
  rB : br < B
  zB : bz < B
  hB : B ≤ w.heap.size
  rz : br ≠ bz
  il : i ≤ s.size
  sl : s.size ≤ 300
  tl : ts.length ≤ i
  ul : us.length ≤ i
  av : ∀ g, X g → g < w.heap.size ∧ g ≠ br ∧ g ≠ bz ∧ tv.ownBlock ≠ some g ∧ u.ownBlock ≠ some g
structure Step (w w' : World) (br bz : Nat) (tv u tv' u' : Value) : Prop where
  fr : Fr w w' (fun x => x = br ∨ x = bz ∨ tv.ownBlock = some x ∨ u.ownBlock = some x)
  tvb : tv'.ownBlock = tv.ownBlock ∨ ∃ g, tv'.ownBlock = some g ∧ w.heap.size ≤ g
  ub : u'.ownBlock = u.ownBlock ∨ ∃ g, u'.ownBlock = some g ∧ w.heap.size ≤ g
theorem Step.refl (w : World) (br bz : Nat) (tv u : Value) : Step w w br bz tv u tv u := ⟨Fr.refl _ _, .inl rfl, .inl rfl⟩
theorem Step.trans {a b c : World} {br bz : Nat} {tv u tv' u' tv'' u'' : Value} (h : Step a b br bz tv u tv' u') (k : Step b c br bz tv' u' tv'' u'') : Step a c br bz tv u tv'' u'' := by
  refine ⟨h.fr.trans k.fr (fun x hx hT => ?_), ?_, ?_⟩
  · rcases hT with e | e | e | e
    · exact .inl e
    · exact .inr (.inl e)
    · rcases h.tvb with q | ⟨g, q, hg⟩
      · exact .inr (.inr (.inl (q ▸ e)))
      · rw [q] at e; cases e; omega
    · rcases h.ub with q | ⟨g, q, hg⟩
      · exact .inr (.inr (.inr (q ▸ e)))
      · rw [q] at e; cases e; omega
  · rcases k.tvb with q | ⟨g, q, hg⟩
    · rw [q]; exact h.tvb
    · exact .inr ⟨g, q, Nat.le_trans h.fr.size hg⟩
  · rcases k.ub with q | ⟨g, q, hg⟩
    · rw [q]; exact h.ub
    · exact .inr ⟨g, q, Nat.le_trans h.fr.size hg⟩
theorem Step.subs {w w' : World} {br bz B : Nat} {tv u tv' u' sv : Value} {l : List Nat} (h : Step w w' br bz tv u tv' u') (hs : SubsAt w B tv u sv l) (hr : br < B) (hz : bz < B) : SubsAt w' B tv' u' sv l := by
  refine ⟨ownsRow_fr hs.1 h.fr (fun g hg hS => ?_), fun g hg => ?_⟩
  · have := hs.1.lt g hg
    rcases hS with e | e | e | e
    · omega
    · omega
    · exact (hs.2 g hg).1 e
    · exact (hs.2 g hg).2 e
  · have := hs.1.lt g hg
    refine ⟨fun e => ?_, fun e => ?_⟩
    · rcases h.tvb with q | ⟨x, q, hx⟩
      · exact (hs.2 g hg).1 (q ▸ e)
      · rw [q] at e; cases e; omega
    · rcases h.ub with q | ⟨x, q, hx⟩
      · exact (hs.2 g hg).2 (q ▸ e)
      · rw [q] at e; cases e; omega
theorem subs_nil (w : World) (B : Nat) (tv u : Value) : SubsAt w B tv u (.slice none 0 0) [] := ⟨World.ownsRow_nil _ _ _ _, fun g hg => by simp [Value.ownBlock] at hg⟩
section
variable {w w' : World} {X : Nat → Prop} {br bz B : Nat} {s : ByteArray} {i j : Nat} {bad bad' : Bool} {wr mx wr' mx' : Int} {ts : List TR} {us : List (Nat × Nat)} {zs : List Value} {tv u : Value}
theorem Rep.move (R : Rep w X br bz B s i bad wr mx ts us zs tv u) (hf : Fr w w' (· = br)) (ha : RAt w' br s bz ⟨j, bad', u, wr', mx'⟩) (h1 : i ≤ j) (h2 : j ≤ s.size) :
    Rep w' X br bz B s j bad' wr' mx' ts us zs tv u ∧ Step w w' br bz tv u tv u := by
  have hS : Step w w' br bz tv u tv u := ⟨hf.mono (fun _ _ e => .inl e), .inl rfl, .inl rfl⟩
  refine ⟨⟨ha, hf.blk R.z (Ne.symm R.rz), ?_, ownsRow_fr R.uses hf (fun g hg e => own_ne R.uses R.rB (e ▸ hg)), R.apart, R.rB, R.zB, Nat.le_trans R.hB hf.size, R.rz, h2, R.sl, Nat.le_trans R.tl h1, Nat.le_trans R.ul h1, fun g hg => ⟨Nat.lt_of_lt_of_le (R.av g hg).1 hf.size, (R.av g hg).2⟩⟩, hS⟩
  obtain ⟨xs, hx, hk⟩ := R.tys
  refine ⟨xs, ownsRow_fr hx hf (fun g hg e => own_ne hx R.rB (e ▸ hg)), fun k t ht => ?_⟩
  obtain ⟨sv, a, b, c, d⟩ := hk k t ht
  exact ⟨sv, a, b, hS.subs c R.rB R.zB, d⟩
theorem Rep.still (R : Rep w X br bz B s i bad wr mx ts us zs tv u) (hw : Still w w') : Rep w' X br bz B s i bad wr mx ts us zs tv u := by
  obtain ⟨n, rfl⟩ := hw
  exact ⟨R.here, R.z, R.tys, R.uses, R.apart, R.rB, R.zB, R.hB, R.rz, R.il, R.sl, R.tl, R.ul, R.av⟩
theorem Step.still {a : World} {tv' u' : Value} (h : Step a w br bz tv u tv' u') (hw : Still w w') : Step a w' br bz tv u tv' u' := ⟨h.fr.still hw, h.tvb, h.ub⟩
theorem Step.ofStill (hw : Still w w') : Step w w' br bz tv u tv u := (Step.refl w br bz tv u).still hw
theorem Rep.inc (R : Rep w X br bz B s i bad wr mx ts us zs tv u) (h : i < s.size) :
    Rep (w.setCell ⟨br, 1, none⟩ (.int .i64 ((i : Int) + 1))) X br bz B s (i + 1) bad wr mx ts us zs tv u ∧ Step w (w.setCell ⟨br, 1, none⟩ (.int .i64 ((i : Int) + 1))) br bz tv u tv u :=
  R.move (Fr.one _ _ _) (RAt.setI R.here (i + 1)) (by omega) (by omega)
theorem Rep.spoil (R : Rep w X br bz B s i bad wr mx ts us zs tv u) :
    Rep (w.setCell ⟨br, 2, none⟩ (.bool true)) X br bz B s i true wr mx ts us zs tv u ∧ Step w (w.setCell ⟨br, 2, none⟩ (.bool true)) br bz tv u tv u :=
  R.move (Fr.one _ _ _) (RAt.setBad R.here true) (Nat.le_refl _) R.il
theorem Rep.setMx (R : Rep w X br bz B s i bad wr mx ts us zs tv u) (m : Int) :
    Rep (w.setCell ⟨br, 6, none⟩ (.int .i64 m)) X br bz B s i bad wr m ts us zs tv u ∧ Step w (w.setCell ⟨br, 6, none⟩ (.int .i64 m)) br bz tv u tv u :=
  R.move (Fr.one _ _ _) (RAt.setMx R.here m) (Nat.le_refl _) R.il
theorem Rep.fewer (R : Rep w X br bz B s i bad wr mx ts us zs tv u) {Y : Nat → Prop} (hY : ∀ g, Y g → X g) : Rep w Y br bz B s i bad wr mx ts us zs tv u := by
  refine ⟨R.here, R.z, ?_, R.uses, R.apart, R.rB, R.zB, R.hB, R.rz, R.il, R.sl, R.tl, R.ul, fun g hg => R.av g (hY g hg)⟩
  obtain ⟨xs, hx, hk⟩ := R.tys
  refine ⟨xs, hx, fun k t ht => ?_⟩
  obtain ⟨sv, a, b, c, d⟩ := hk k t ht
  exact ⟨sv, a, b, c, fun g hg => d g (hY g hg)⟩
theorem Rep.out (R : Rep w X br bz B s i bad wr mx ts us zs tv u) (hf : Fr w w' X) : Rep w' (fun g => X g ∨ (w.heap.size ≤ g ∧ g < w'.heap.size)) br bz B s i bad wr mx ts us zs tv u := by
  obtain ⟨xs, hx, hk⟩ := R.tys
  have hb := R.here.lt
  have hbz := R.z.lt
  refine ⟨hf.blk R.here (fun h => (R.av _ h).2.1 rfl), hf.blk R.z (fun h => (R.av _ h).2.2.1 rfl), ⟨xs, ownsRow_fr hx hf (fun g hg h => (R.av g h).2.2.2.1 hg), fun k t ht => ?_⟩, ownsRow_fr R.uses hf (fun g hg h => (R.av g h).2.2.2.2 hg), R.apart, R.rB, R.zB, Nat.le_trans R.hB hf.size, R.rz, R.il, R.sl, R.tl, R.ul, fun g hg => ?_⟩
  · obtain ⟨sv, a, b, c, d⟩ := hk k t ht
    refine ⟨sv, a, b, ⟨ownsRow_fr c.1 hf (fun g hg h => d g h hg), c.2⟩, fun g hg => ?_⟩
    rcases hg with hg | hg
    · exact d g hg
    · intro e
      have := c.1.lt g e
      omega
  · rcases hg with hg | hg
    · exact ⟨Nat.lt_of_lt_of_le (R.av g hg).1 hf.size, (R.av g hg).2⟩
    · refine ⟨hg.2, by omega, by omega, fun e => ?_, fun e => ?_⟩
      · have := hx.lt g e; omega
      · have := R.uses.lt g e; omega
theorem Step.out {a : World} {tv' u' : Value} (h : Step a w br bz tv u tv' u') (hf : Fr w w' X) (hX : ∀ g, X g → a.heap.size ≤ g) : Step a w' br bz tv u tv' u' :=
  ⟨h.fr.trans hf (fun x hx hT => absurd (hX x hT) (by omega)), h.tvb, h.ub⟩
theorem Rep.alloc (R : Rep w X br bz B s i bad wr mx ts us zs tv u) (o : Obj) : Rep (w.alloc o) X br bz B s i bad wr mx ts us zs tv u ∧ Step w (w.alloc o) br bz tv u tv u :=
  ⟨(R.out ((Fr.refl w _).alloc o)).fewer (fun _ h => .inl h), ⟨(Fr.refl w _).alloc o, .inl rfl, .inl rfl⟩⟩
end
def LayRep (w : World) (X : Nat → Prop) (br bz B : Nat) (s : ByteArray) (i : Nat) (bad : Bool) (wr mx : Int) (ts : List TR) (us : List (Nat × Nat)) (zs : List Value) (tv u : Value) (c : Nat) (l : List Nat) (w' : World) : Prop :=
  ∃ tv', Rep w' X br bz B s i bad wr mx (ts ++ [⟨c, l⟩]) us zs tv' u ∧ Step w w' br bz tv u tv' u
theorem slice_one {w : World} {base size n : Nat} {e : TypeId} {v : Value} {xs : List Value} (h : w.ownsRow base e size v n xs) : v.oneCell' = true := by
  rcases h.2 with ⟨rfl, _⟩ | ⟨g, cap, _, rfl, _⟩ <;> rfl
theorem lay_rep {w : World} {X : Nat → Prop} {br bz B : Nat} {s : ByteArray} {i : Nat} {bad : Bool} {wr mx : Int} {ts : List TR} {us : List (Nat × Nat)} {zs : List Value} {tv u sv : Value} {c : Nat} {l : List Nat}
    (R : Rep w X br bz B s i bad wr mx ts us zs tv u) (hs : SubsAt w B tv u sv l) (hsX : ∀ g, X g → sv.ownBlock ≠ some g) (hl : ts.length < i) :
    Calls Tryz.prog 47 #[.pointer (some ⟨br, 0, none⟩), .agg #[.int .u8 (c : Int), sv]] w fun e w' => e = .returned (.int .i64 (ts.length : Int)) ∧ LayRep w X br bz B s i bad wr mx ts us zs tv u c l w' := by
  obtain ⟨xs, hx, hk⟩ := R.tys
  have hti := R.il
  have hsl := R.sl
  refine (lay_any R.here R.z hx rfl (slice_one hs.1) (by omega) R.hB R.rB R.zB R.rz).mono ?_
  rintro e w' ⟨rfl, tv', h1, h2, h3, h4, h5⟩
  refine ⟨rfl, tv', ?_⟩
  have hS : Step w w' br bz tv u tv' u := ⟨h4.mono (fun _ _ e => e.elim (fun e => .inr (.inl e)) (fun e => .inr (.inr (.inl e)))), h5, .inl rfl⟩
  have hxl := hx.1
  refine ⟨⟨h1, h2, ⟨xs ++ [.int .u8 (c : Int), sv], by simpa using h3, fun k t ht => ?_⟩, ?_, ?_, R.rB, R.zB, Nat.le_trans R.hB h4.size, R.rz, R.il, R.sl, by rw [List.length_append]; exact hl, R.ul, fun g hg => ?_⟩, hS⟩
  · by_cases hkl : k < ts.length
    · rw [List.getElem?_append_left hkl] at ht
      obtain ⟨sv', a, b, d, d'⟩ := hk k t ht
      exact ⟨sv', by rw [List.getElem?_append_left (by omega)]; exact a, by rw [List.getElem?_append_left (by omega)]; exact b, hS.subs d R.rB R.zB, d'⟩
    · rw [List.getElem?_append_right (by omega)] at ht
      have hk0 : k - ts.length = 0 := by
        rcases Nat.eq_zero_or_pos (k - ts.length) with h | h
        · exact h
        · rw [List.getElem?_eq_none (by simp; omega)] at ht; cases ht
      rw [hk0] at ht
      simp only [List.getElem?_cons_zero, Option.some.injEq] at ht
      subst ht
      have hkk : k = ts.length := by omega
      refine ⟨sv, ?_, ?_, hS.subs hs R.rB R.zB, hsX⟩
      · rw [List.getElem?_append_right (by omega), show 2 * k - xs.length = 0 by omega]; rfl
      · rw [List.getElem?_append_right (by omega), show 2 * k + 1 - xs.length = 1 by omega]; rfl
  · refine ownsRow_fr R.uses h4 (fun g hg e => ?_)
    rcases e with e | e
    · exact own_ne R.uses R.zB (e ▸ hg)
    · exact R.apart g e hg
  · intro g hg hu
    rcases h5 with q | ⟨x, q, hxx⟩
    · exact R.apart g (q ▸ hg) hu
    · rw [q] at hg; cases hg
      have := R.uses.lt _ hu
      omega
  · obtain ⟨a1, a2, a3, a4, a5⟩ := R.av g hg
    refine ⟨Nat.lt_of_lt_of_le a1 h4.size, a2, a3, fun e => ?_, a5⟩
    rcases h5 with q | ⟨x, q, hxx⟩
    · exact a4 (q ▸ e)
    · rw [q] at e; cases e; omega
theorem peek_rep {w : World} {X : Nat → Prop} {br bz B : Nat} {s : ByteArray} {i : Nat} {wr mx : Int} {ts : List TR} {us : List (Nat × Nat)} {zs : List Value} {tv u : Value} {c : Nat} (R : Rep w X br bz B s i false wr mx ts us zs tv u) (hc : bt s i = c) :
    Calls Tryz.prog 23 #[.pointer (some ⟨br, 0, none⟩)] w fun e w' => e = .returned (.int .u8 (c : Int)) ∧ Still w w' := by
  have h1 := R.il
  have h2 := R.sl
  refine (peek_any R.here R.sl (by simp only; omega)).mono ?_
  rintro e w' ⟨rfl, hw⟩
  exact ⟨by simp only [pk_bt, hc], hw⟩
def TypPost (w : World) (X : Nat → Prop) (br bz B : Nat) (s : ByteArray) (i : Nat) (wr mx : Int) (ts : List TR) (us : List (Nat × Nat)) (zs : List Value) (tv u : Value) (e : Ending) (w' : World) : Prop :=
  match pT s i with
  | .ok (t, j) => e = .returned (.int .i64 ((ts.length + (flat ts.length t).length - 1 : Nat) : Int)) ∧ ∃ tv' u', Rep w' X br bz B s j false wr (mix t mx) (ts ++ flat ts.length t) (us ++ usesOf t) zs tv' u' ∧ Step w w' br bz tv u tv' u'
  | .error k => (∃ v : Nat, e = .returned (.int .i64 (v : Int))) ∧ ∃ mx' ts' us' tv' u', Rep w' X br bz B s k true wr mx' ts' us' zs tv' u' ∧ ts'.length + i ≤ k + ts.length ∧ Step w w' br bz tv u tv' u'
def AltsPost (w : World) (X : Nat → Prop) (br bz B : Nat) (s : ByteArray) (i : Nat) (wr mx : Int) (ts : List TR) (us : List (Nat × Nat)) (zs : List Value) (tv u : Value) (e : Ending) (w' : World) : Prop :=
  ∃ sv tv' u', e = .returned (.agg #[.int .u8 40, sv]) ∧ Step w w' br bz tv u tv' u' ∧
  match pA s i with
  | .ok (ds, j) => if bt s j = 41 then Rep w' X br bz B s (j + 1) false wr (mixs [] ds mx) (ts ++ flats ts.length ds) (us ++ usesAll ds) zs tv' u' ∧ SubsAt w' B tv' u' sv (nums ts.length ds) ∧ ∀ g, X g → sv.ownBlock ≠ some g
      else ∃ mx' ts' us' l, Rep w' X br bz B s j true wr mx' ts' us' zs tv' u' ∧ ts'.length + i ≤ j + ts.length ∧ SubsAt w' B tv' u' sv l ∧ ∀ g, X g → sv.ownBlock ≠ some g
  | .error k => ∃ mx' ts' us' l, Rep w' X br bz B s k true wr mx' ts' us' zs tv' u' ∧ ts'.length + i ≤ k + ts.length ∧ SubsAt w' B tv' u' sv l ∧ ∀ g, X g → sv.ownBlock ≠ some g
def TypOK (s : ByteArray) (i : Nat) : Prop := ∀ (w : World) (X : Nat → Prop) (br bz B : Nat) (wr mx : Int) (ts : List TR) (us : List (Nat × Nat)) (zs : List Value) (tv u : Value), Rep w X br bz B s i false wr mx ts us zs tv u →
  Calls Tryz.prog 26 #[.pointer (some ⟨br, 0, none⟩)] w (TypPost w X br bz B s i wr mx ts us zs tv u)
def AltsOK (s : ByteArray) (i : Nat) : Prop := ∀ (w : World) (X : Nat → Prop) (br bz B : Nat) (wr mx : Int) (ts : List TR) (us : List (Nat × Nat)) (zs : List Value) (tv u : Value), Rep w X br bz B s i false wr mx ts us zs tv u →
  Calls Tryz.prog 48 #[.pointer (some ⟨br, 0, none⟩)] w (AltsPost w X br bz B s i wr mx ts us zs tv u)
end Go.Proofs.YthndngbnioacpaaGreatDoor
namespace Go.Proofs.YthndngbnioacpaaGreatDoor
open Go.RowKit
theorem pT_base {s : ByteArray} {i : Nat} (h : isBase (bt s i) = true) : pT s i = .ok (.leaf (bt s i) i, i + 1) := by
  rw [pT_eq]; unfold stepT; rw [if_pos h]
theorem pT_wrap {s : ByteArray} {i : Nat} (h : bt s i = 91 ∨ bt s i = 123) : pT s i =
    match pT s (i + 1) with
    | .error k => .error k
    | .ok (t, j) => if bt s j = closing (bt s i) then .ok (.wrap (bt s i) i t, j + 1) else .error j := by
  rw [pT_eq]; unfold stepT; rw [if_neg (by rcases h with h | h <;> rw [h] <;> decide), if_pos h]; rfl
theorem pT_alts {s : ByteArray} {i : Nat} (h : bt s i = 40) : pT s i =
    match pA s (i + 1) with
    | .error k => .error k
    | .ok (ts, j) => if bt s j = 41 then .ok (.alts i ts, j + 1) else .error j := by
  rw [pT_eq]; unfold stepT; rw [if_neg (by rw [h]; decide), if_neg (by omega), if_pos h]; rfl
theorem pT_name {s : ByteArray} {i : Nat} (h : 65 ≤ bt s i ∧ bt s i ≤ 70) : pT s i = .ok (.leaf (bt s i) i, i + 1) := by
  rw [pT_eq]; unfold stepT
  rw [if_neg (by simp only [isBase, Bool.or_eq_true, beq_iff_eq]; omega), if_neg (by omega), if_neg (by omega), if_pos (by simp [isName, h])]
theorem pT_bad {s : ByteArray} {i : Nat} (h1 : ¬ isBase (bt s i) = true) (h2 : ¬ (bt s i = 91 ∨ bt s i = 123)) (h3 : ¬ bt s i = 40) (h4 : ¬ (65 ≤ bt s i ∧ bt s i ≤ 70)) : pT s i = .error i := by
  rw [pT_eq]; unfold stepT
  rw [if_neg h1, if_neg h2, if_neg h3, if_neg (by simp only [isName, Bool.and_eq_true, decide_eq_true_eq]; exact h4)]
set_option maxHeartbeats 1000000 in
theorem typ_base {s : ByteArray} {i : Nat} (hb : isBase (bt s i) = true) : TypOK s i := by
  intro w X br bz B wr mx ts us zs tv u R
  have hil : i < s.size := bt_pos (isBase_pos hb)
  have hsl := R.sl
  have hPT := pT_base hb
  generalize hc : bt s i = c at *
  have hcc : c = 110 ∨ c = 116 ∨ c = 105 ∨ c = 108 ∨ c = 115 := by simp only [isBase, Bool.or_eq_true, beq_iff_eq] at hb; omega
  have fin : Hid (∀ (e : Ending) (w' : World), (e = .returned (.int .i64 (ts.length : Int)) ∧ ∃ tv', Rep w' X br bz B s (i + 1) false wr mx (ts ++ [⟨c, []⟩]) us zs tv' u ∧ Step w w' br bz tv u tv' u) → TypPost w X br bz B s i wr mx ts us zs tv u e w') := by
    rintro e w' ⟨rfl, tv', h1, h2⟩
    unfold TypPost
    rw [hPT]
    refine ⟨by simp [flat], tv', u, ?_, h2⟩
    simpa [mix, flat, usesOf, hb] using h1
  generalize TypPost w X br bz B s i wr mx ts us zs tv u = POST at *
  clear hPT
  rcases hcc with rfl | rfl | rfl | rfl | rfl
  all_goals
    go_enter Tryz.func26, Tryz.ntmps26
    go_wp2_with (first
      | (go_at_call 23; refine (peek_rep R hc).mono ?_; rintro e w1 ⟨rfl, hw⟩; have R1 := R.still hw; have c1 := R1.here.c1; have f1 := R1.here.thaw 1)
      | (go_at_call 47; refine (lay_rep (R1.inc hil).1 (subs_nil _ _ _ _) (fun _ _ => nofun) (by have := R.tl; omega)).mono ?_; rintro e w2 ⟨rfl, hL⟩))
    try go_ret
    obtain ⟨tv', r, st⟩ := hL
    exact fin.out _ _ ⟨rfl, tv', r, ((Step.ofStill hw).trans (R1.inc hil).2).trans st⟩
set_option maxHeartbeats 1000000 in
theorem typ_bad {s : ByteArray} {i : Nat} (h1 : ¬ isBase (bt s i) = true) (h2 : ¬ (bt s i = 91 ∨ bt s i = 123)) (h3 : ¬ bt s i = 40) (h4 : ¬ (65 ≤ bt s i ∧ bt s i ≤ 70)) : TypOK s i := by
  intro w X br bz B wr mx ts us zs tv u R
  have hPT := pT_bad h1 h2 h3 h4
  generalize hc : bt s i = c at *
  have fin : Hid (∀ (e : Ending) (w' : World), (e = .returned (.int .i64 0) ∧ Rep w' X br bz B s i true wr mx ts us zs tv u ∧ Step w w' br bz tv u tv u) → TypPost w X br bz B s i wr mx ts us zs tv u e w') := by
    rintro e w' ⟨rfl, r, st⟩
    unfold TypPost
    rw [hPT]
    exact ⟨⟨0, rfl⟩, mx, ts, us, tv, u, r, by omega, st⟩
  generalize TypPost w X br bz B s i wr mx ts us zs tv u = POST at *
  clear hPT
  have n1 : ((c : Int) == 110) = false := by simp [isBase] at h1 ⊢; omega
  have n2 : ((c : Int) == 116) = false := by simp [isBase] at h1 ⊢; omega
  have n3 : ((c : Int) == 105) = false := by simp [isBase] at h1 ⊢; omega
  have n4 : ((c : Int) == 108) = false := by simp [isBase] at h1 ⊢; omega
  have n5 : ((c : Int) == 115) = false := by simp [isBase] at h1 ⊢; omega
  have n6 : ((c : Int) == 91) = false := by simp; omega
  have n7 : ((c : Int) == 123) = false := by simp; omega
  have n8 : ((c : Int) == 40) = false := by simp; omega
  have n9 : (decide ((65 : Int) ≤ (c : Int)) && decide ((c : Int) ≤ 70)) = false := by simp; omega
  clear h1 h2 h3 h4
  go_enter Tryz.func26, Tryz.ntmps26
  go_wp2_with (first
    | (go_at_call 23; refine (peek_rep R hc).mono ?_; rintro e w1 ⟨rfl, hw⟩; have R1 := R.still hw; have c1 := R1.here.c2; have f1 := R1.here.thaw 2)
    | (go_at_call 22; refine (within_any _ _ _ _).mono ?_; rintro e w2 ⟨rfl, rfl⟩; rw [n9]))
  try go_ret
  exact fin.out _ _ ⟨rfl, R1.spoil.1, (Step.ofStill hw).trans R1.spoil.2⟩
end Go.Proofs.YthndngbnioacpaaGreatDoor
namespace Go.Proofs.YthndngbnioacpaaGreatDoor
open Go.RowKit
theorem u_Use : Tryz.prog.underlying 50 = some (.slice 54) := by kernel_rfl
theorem i_Use : (Tryz.prog.info? 54).map (fun i => (i.zero, i.size, i.bytes)) = some (some (.agg #[.int .u8 0, .int .i64 0]), 2, 16) := by kernel_rfl
theorem useCells_snoc (us : List (Nat × Nat)) (c i : Nat) : useCells (us ++ [(c, i)]) = useCells us ++ [.int .u8 (c : Int), .int .i64 (i : Int)] := by simp [useCells]
theorem RAt.incI {w : World} {br : Nat} {s : ByteArray} {bz i : Nat} {b : Bool} {u : Value} {wr mx : Int} (h : RAt w br s bz ⟨i, b, u, wr, mx⟩) : RAt (w.setCell ⟨br, 1, none⟩ (.int .i64 ((i : Int) + 1))) br s bz ⟨i + 1, b, u, wr, mx⟩ := RAt.setI h (i + 1)
theorem Rep.used {w w' w'' : World} {X : Nat → Prop} {br bz B : Nat} {s : ByteArray} {i : Nat} {wr mx : Int} {ts : List TR} {us : List (Nat × Nat)} {zs : List Value} {tv u u' : Value} {c : Nat}
    (R : Rep w X br bz B s i false wr mx ts us zs tv u) (hi : i < s.size) (ho : w'.ownsRow B 54 2 u' (us.length + 1) (useCells us ++ [.int .u8 (c : Int), .int .i64 (i : Int)]))
    (hf : Fr w w' (fun x => u.ownBlock = some x)) (hat : u'.ownBlock = u.ownBlock ∨ ∃ g, u'.ownBlock = some g ∧ w.heap.size ≤ g) (hF : Fr w' w'' (· = br)) (h1 : RAt w'' br s bz ⟨i + 1, false, u', wr, mx⟩) :
    Rep w'' X br bz B s (i + 1) false wr mx ts (us ++ [(c, i)]) zs tv u' ∧ Step w w'' br bz tv u tv u' := by
  have hnz := own_ne R.uses R.zB
  have hz := hf.blk R.z hnz
  have hG : Fr w w'' (fun x => x = br ∨ u.ownBlock = some x) := (hf.mono (fun _ _ e => .inr e)).trans hF (fun _ _ e => .inl e)
  have hS : Step w w'' br bz tv u tv u' := ⟨hG.mono (fun _ _ e => e.elim .inl (fun e => .inr (.inr (.inr e)))), .inl rfl, hat⟩
  refine ⟨⟨h1, hF.blk hz (Ne.symm R.rz), ?_, ?_, ?_, R.rB, R.zB, Nat.le_trans R.hB hG.size, R.rz, hi, R.sl, Nat.le_succ_of_le R.tl, by rw [List.length_append]; exact Nat.succ_le_succ R.ul, fun g hg => ?_⟩, hS⟩
  · obtain ⟨xs, hx, hk⟩ := R.tys
    refine ⟨xs, ownsRow_fr hx hG (fun g hg e => ?_), fun k t ht => ?_⟩
    · rcases e with e | e
      · exact own_ne hx R.rB (e ▸ hg)
      · exact R.apart g hg e
    · obtain ⟨sv, a, b, d, d'⟩ := hk k t ht
      exact ⟨sv, a, b, hS.subs d R.rB R.zB, d'⟩
  · rw [useCells_snoc, List.length_append]
    exact ownsRow_fr ho hF (fun g hg e => own_ne ho R.rB (e ▸ hg))
  · intro g hg e
    rcases hat with q | ⟨x, q, hx⟩
    · exact R.apart g hg (q ▸ e)
    · rw [q] at e; cases e
      obtain ⟨xs, hx', _⟩ := R.tys
      have := hx'.lt _ hg
      omega
  · obtain ⟨a1, a2, a3, a4, a5⟩ := R.av g hg
    refine ⟨Nat.lt_of_lt_of_le a1 hG.size, a2, a3, a4, fun e => ?_⟩
    rcases hat with q | ⟨x, q, hx⟩
    · exact a5 (q ▸ e)
    · rw [q] at e; cases e; omega
set_option maxHeartbeats 2000000 in
theorem typ_name {s : ByteArray} {i : Nat} (h : 65 ≤ bt s i ∧ bt s i ≤ 70) : TypOK s i := by
  intro w X br bz B wr mx ts us zs tv u R
  have hil : i < s.size := bt_pos (by omega)
  have hsl := R.sl
  have hul := R.ul
  have hPT := pT_name h
  generalize hc : bt s i = c at *
  have fin : Hid (∀ (e : Ending) (w' : World), (e = .returned (.int .i64 (ts.length : Int)) ∧ ∃ tv' u', Rep w' X br bz B s (i + 1) false wr mx (ts ++ [⟨c, []⟩]) (us ++ [(c, i)]) zs tv' u' ∧ Step w w' br bz tv u tv' u') → TypPost w X br bz B s i wr mx ts us zs tv u e w') := by
    rintro e w' ⟨rfl, tv', u', h1, h2⟩
    unfold TypPost
    rw [hPT]
    refine ⟨by simp [flat], tv', u', ?_, h2⟩
    have hb : isBase c = false := by simp [isBase]; omega
    simpa [mix, flat, usesOf, hb] using h1
  generalize TypPost w X br bz B s i wr mx ts us zs tv u = POST at *
  clear hPT
  have n1 : ((c : Int) == 110) = false := by simp; omega
  have n2 : ((c : Int) == 116) = false := by simp; omega
  have n3 : ((c : Int) == 105) = false := by simp; omega
  have n4 : ((c : Int) == 108) = false := by simp; omega
  have n5 : ((c : Int) == 115) = false := by simp; omega
  have n6 : ((c : Int) == 91) = false := by simp; omega
  have n7 : ((c : Int) == 123) = false := by simp; omega
  have n8 : ((c : Int) == 40) = false := by simp; omega
  have n9 : (decide ((65 : Int) ≤ (c : Int)) && decide ((c : Int) ≤ 70)) = true := by simp; omega
  have h : Hid (65 ≤ c ∧ c ≤ 70) := h
  obtain ⟨ti, hi1, hi2, hi3, hi4⟩ := info_parts i_Use
  go_enter Tryz.func26, Tryz.ntmps26
  go_wp2_with (first
    | (go_at_call 23; refine (peek_rep R hc).mono ?_; rintro e w1 ⟨rfl, hw⟩; have R1 := R.still hw)
    | (go_at_call 22; refine (within_any _ _ _ _).mono ?_; rintro e w2 ⟨rfl, rfl⟩; rw [n9]))
  have c1 := R1.here.c1
  have c4 := R1.here.c4
  have hX : ∀ W, Fr w2 W (fun _ => False) → W.ownsRow B 54 2 u us.length (useCells us) := fun W hf => ownsRow_fr R1.uses hf (fun _ _ => id)
  refine wp_regionC 15 (fun W => W.cell? ⟨br, 4, none⟩ = some u ∧ W.cell? ⟨br, 1, none⟩ = some (.int .i64 (i : Int))) (by kernel_rfl) ?_
  refine wpAnyC_take 0 ?v0 rfl (by kernel_rfl) (fun _ _ _ h => h) (by rfl) ?y0 ?_
  case y0 => (intro W hW; obtain ⟨q0, q1⟩ := hW; go_simp; rfl)
  refine wpAnyC_take 1 ?v1 rfl (by kernel_rfl) (fun _ _ _ h => h) (by rfl) ?y1 ?_
  case y1 => (intro W hW; obtain ⟨q0, q1⟩ := hW; go_simp; rfl)
  refine wpAnyC_take 2 ?v2 rfl (by kernel_rfl) (fun _ _ _ h => h) (by rfl) ?y2 ?_
  case y2 => (intro W hW; obtain ⟨q0, q1⟩ := hW; go_simp; rfl)
  refine wpAnyC_take 3 ?v3 rfl (by kernel_rfl) (fun _ _ _ h => h) (by rfl) ?y3 ?_
  case y3 => (intro W hW; obtain ⟨q0, q1⟩ := hW; go_simp; rfl)
  refine wpAnyC_take 4 ?v4 rfl (by kernel_rfl) (fun _ _ _ h => h) (by rfl) ?y4 ?_
  case y4 => (intro W hW; obtain ⟨q0, q1⟩ := hW; go_simp; rfl)
  refine wpAnyC_take 5 ?v5 rfl (by kernel_rfl) (fun _ _ _ h => h) (by rfl) ?y5 ?_
  case y5 => (intro W hW; obtain ⟨q0, q1⟩ := hW; go_simp; rfl)
  refine wpAnyC_take 6 ?v6 rfl (by kernel_rfl) (fun _ _ _ h => h) (by rfl) ?y6 ?_
  case y6 => (intro W hW; obtain ⟨q0, q1⟩ := hW; go_simp; rfl)
  refine wpAnyC_take 7 ?v7 rfl (by kernel_rfl) (fun _ _ _ h => h) (by rfl) ?y7 ?_
  case y7 => (intro W hW; obtain ⟨q0, q1⟩ := hW; go_simp; rfl)
  refine wpAnyC_take 8 ?v8 rfl (by kernel_rfl) (fun _ _ _ h => h) (by rfl) ?y8 ?_
  case y8 => (intro W hW; obtain ⟨q0, q1⟩ := hW; go_simp; rfl)
  refine wpAnyC_take 9 ?v9 rfl (by kernel_rfl) (fun _ _ _ h => h) (by rfl) ?y9 ?_
  case y9 => (intro W hW; obtain ⟨q0, q1⟩ := hW; go_simp; rfl)
  refine wpAnyC_take 10 ?v10 rfl (by kernel_rfl) (fun _ _ _ h => h) (by rfl) ?y10 ?_
  case y10 => (intro W hW; obtain ⟨q0, q1⟩ := hW; go_simp; rfl)
  refine wpAnyC_one 11 rfl (by kernel_rfl) (fun _ => ⟨c4, c1⟩) (fun K hK => ?_)
  go_simp
  refine hK _ _ ?_
  clear hK K
  have c4a : (w2.alloc (.cells #[.int .u8 (c : Int), .int .i64 (i : Int)] 54)).cell? ⟨br, 4, none⟩ = some u := Blk.cellAlloc R1.here 4 _
  have c1a : (w2.alloc (.cells #[.int .u8 (c : Int), .int .i64 (i : Int)] 54)).cell? ⟨br, 1, none⟩ = some (.int .i64 (i : Int)) := Blk.cellAlloc R1.here 1 _
  refine wpAnyC_one 12 rfl (by kernel_rfl) (fun _ => ⟨c4a, c1a⟩) (fun K hK => ?_)
  refine step_append_own_at rfl (.tmp 79) (.tmp 86) 50 rfl B 54 ti _ 2 16 u_Use hi1 hi2 hi3 hi4 rfl (by decide) u us.length (useCells us) (by simp [Act.eval]) (hX _ (((Fr.refl w2 _).alloc _).drew)) _ 1 1 [.int .u8 (c : Int), .int .i64 (i : Int)] (by simp [Act.eval]; rfl) (by simp) (news_new _ _ _ _ (by simp)) (by simp [Value.oneCell']) (by simp [maxLen]; omega) (by omega) (by have := R1.hB; simp; omega) ?_
  intro u' w3 ho hgr hat
  refine hK _ _ ?_
  clear hK K
  have hF : Fr w2 w3 (fun x => u.ownBlock = some x) := Fr.grown (((Fr.refl w2 _).alloc _).drew) hgr (fun k e _ => e)
  have hat' : u'.ownBlock = u.ownBlock ∨ ∃ g, u'.ownBlock = some g ∧ w2.heap.size ≤ g := hat.imp id (fun e => ⟨_, e, by simp⟩)
  have h3 : RAt w3 br s bz ⟨i, false, u, wr, mx⟩ := hF.blk R1.here (own_ne R1.uses R1.rB)
  have c4' := h3.c4
  have c1' := h3.c1
  have f4' := h3.thaw 4
  have f1' := h3.thaw 1
  have h4 : RAt (w3.setCell ⟨br, 4, none⟩ u') br s bz ⟨i, false, u', wr, mx⟩ := RAt.setU h3 u'
  have R2 := R1.used hil ho hF hat' (((Fr.refl w3 (· = br)).setCell ⟨br, 4, none⟩ u' (fun _ => rfl)).setCell ⟨br, 1, none⟩ (.int .i64 ((i : Int) + 1)) (fun _ => rfl)) h4.incI
  obtain ⟨g, cap, rfl⟩ := own_form ho (by omega)
  clear hgr hat h3 h4
  refine wpAnyC_one 13 rfl (by kernel_rfl) (fun _ => ⟨c4', c1'⟩) (fun K hK => ?_)
  go_simp
  refine hK _ _ ?_
  clear hK K
  refine wpAnyC_one 14 rfl (by kernel_rfl) (fun _ => ⟨c4', c1'⟩) (fun K hK => ?_)
  go_simp
  refine hK _ _ ?_
  clear hK K
  refine wpAnyC_one 15 rfl (by kernel_rfl) (fun _ => ⟨c4', c1'⟩) (fun K hK => ?_)
  go_simp
  refine hK _ _ ?_
  clear hK K
  refine wpAnyC_done (by kernel_rfl) (fun hm => absurd hm (by decide)) ?_ _
  go_wp2_with (go_at_call 47; refine (lay_rep R2.1 (subs_nil _ _ _ _) (fun _ _ => nofun) (by have := R1.tl; omega)).mono ?_; rintro e w4 ⟨rfl, hL⟩)
  try go_ret
  obtain ⟨tv', r, st⟩ := hL
  exact fin.out _ _ ⟨rfl, tv', _, r, ((Step.ofStill hw).trans R2.2).trans st⟩
end Go.Proofs.YthndngbnioacpaaGreatDoor
namespace Go.Proofs.YthndngbnioacpaaGreatDoor
open Go.RowKit
def EatRep (w : World) (X : Nat → Prop) (br bz B : Nat) (s : ByteArray) (i : Nat) (wr mx : Int) (ts : List TR) (us : List (Nat × Nat)) (zs : List Value) (tv u : Value) (c : Nat) (w' : World) : Prop :=
  (if bt s i = c then Rep w' X br bz B s (i + 1) false wr mx ts us zs tv u else Rep w' X br bz B s i true wr mx ts us zs tv u) ∧ Step w w' br bz tv u tv u
theorem eat_rep {w : World} {X : Nat → Prop} {br bz B : Nat} {s : ByteArray} {i : Nat} {wr mx : Int} {ts : List TR} {us : List (Nat × Nat)} {zs : List Value} {tv u : Value} {c : Nat} (R : Rep w X br bz B s i false wr mx ts us zs tv u) (hc : 0 < c) :
    Calls Tryz.prog 24 #[.pointer (some ⟨br, 0, none⟩), .int .u8 (c : Int)] w fun e w' => e = .returned (.tuple #[]) ∧ EatRep w X br bz B s i wr mx ts us zs tv u c w' := by
  have h1 := R.il
  have h2 := R.sl
  refine (eat_any R.here R.sl (by simp only; omega)).mono ?_
  rintro e w' ⟨rfl, ha, hf⟩
  refine ⟨rfl, ?_⟩
  unfold EatRep
  unfold RV.eat at ha
  simp only [pk_bt] at ha
  by_cases hb : bt s i = c
  · rw [if_pos (by omega)] at ha
    rw [if_pos hb]
    exact R.move hf ha (by omega) (bt_pos (by omega))
  · rw [if_neg (by omega)] at ha
    rw [if_neg hb]
    exact R.move hf ha (by omega) h1
theorem eat_rep' {w : World} {X : Nat → Prop} {br bz B : Nat} {s : ByteArray} {i : Nat} {wr mx : Int} {ts : List TR} {us : List (Nat × Nat)} {zs : List Value} {tv u : Value} {c : Int} (d : Nat) (R : Rep w X br bz B s i false wr mx ts us zs tv u) (hd : c = (d : Int)) (hc : 0 < d) :
    Calls Tryz.prog 24 #[.pointer (some ⟨br, 0, none⟩), .int .u8 c] w fun e w' => e = .returned (.tuple #[]) ∧ EatRep w X br bz B s i wr mx ts us zs tv u d w' := by
  subst hd; exact eat_rep R hc
theorem subs_one {w : World} {X : Nat → Prop} {br bz B : Nat} {s : ByteArray} {i : Nat} {bad : Bool} {wr mx : Int} {ts : List TR} {us : List (Nat × Nat)} {zs : List Value} {tv u : Value} (R : Rep w X br bz B s i bad wr mx ts us zs tv u) (v : Nat) :
    SubsAt (w.alloc (.cells #[.int .i64 (v : Int)] 3)) B tv u (.slice (some ⟨w.heap.size, 0, none⟩) 1 1) [v] := by
  refine ⟨World.ownsRow_lit w #[.int .i64 (v : Int)] 1 R.hB (by simp [maxLen]) rfl, fun g hg => ?_⟩
  simp only [Value.ownBlock, Option.some.injEq] at hg
  obtain ⟨xs, hx, _⟩ := R.tys
  exact ⟨fun e => by have := hx.lt g e; omega, fun e => by have := R.uses.lt g e; omega⟩
theorem new_not {w : World} {X : Nat → Prop} {br bz B : Nat} {s : ByteArray} {i : Nat} {bad : Bool} {wr mx : Int} {ts : List TR} {us : List (Nat × Nat)} {zs : List Value} {tv u : Value} (R : Rep w X br bz B s i bad wr mx ts us zs tv u) {g n c : Nat} (hg : X g) :
    (Value.slice (some ⟨w.heap.size, 0, none⟩) n c).ownBlock ≠ some g := by
  have := (R.av g hg).1
  simp only [Value.ownBlock, ne_eq, Option.some.injEq]
  omega
set_option maxHeartbeats 2000000 in
theorem typ_wrap {s : ByteArray} {i : Nat} (h : bt s i = 91 ∨ bt s i = 123) (hT : TypOK s (i + 1)) : TypOK s i := by
  intro w X br bz B wr mx ts us zs tv u R
  have hil : i < s.size := bt_pos (by omega)
  have hsl := R.sl
  have htl := R.tl
  have hPT := pT_wrap h
  generalize hc : bt s i = c at *
  cases hp : pT s (i + 1) with
  | error k =>
    have fin : Hid (∀ (e : Ending) (w' : World), (∃ v : Nat, e = .returned (.int .i64 (v : Int))) → (∃ mx' ts' us' tv' u', Rep w' X br bz B s k true wr mx' ts' us' zs tv' u' ∧ ts'.length + i ≤ k + ts.length ∧ Step w w' br bz tv u tv' u') → TypPost w X br bz B s i wr mx ts us zs tv u e w') := by
      intro e w' h1 h2
      unfold TypPost
      rw [hPT, hp]
      exact ⟨h1, h2⟩
    have hT' : Hid (∀ (w : World), Rep w X br bz B s (i + 1) false wr mx ts us zs tv u → Calls Tryz.prog 26 #[.pointer (some ⟨br, 0, none⟩)] w fun e w' => (∃ v : Nat, e = .returned (.int .i64 (v : Int))) ∧ Hid (∃ mx' ts' us' tv' u', Rep w' X br bz B s k true wr mx' ts' us' zs tv' u' ∧ ts'.length + (i + 1) ≤ k + ts.length ∧ Step w w' br bz tv u tv' u')) := by
      intro w R
      refine (hT w X br bz B wr mx ts us zs tv u R).mono ?_
      intro e w' hh
      unfold TypPost at hh
      rw [hp] at hh
      exact hh
    generalize TypPost w X br bz B s i wr mx ts us zs tv u = POST at *
    clear hPT hT hp
    rcases h with rfl | rfl
    all_goals
      go_enter Tryz.func26, Tryz.ntmps26
      go_wp2_with (first
        | (go_at_call 23; refine (peek_rep R hc).mono ?_; rintro e w1 ⟨rfl, hw⟩; have R1 := R.still hw; have c1 := R1.here.c1; have f1 := R1.here.thaw 1)
        | (go_at_call 26; refine (hT'.out _ (R1.inc hil).1).mono ?_; rintro e w2 ⟨⟨v, rfl⟩, hR2⟩; obtain ⟨mx2, ts2, us2, tv2, u2, R2, hl2, st2⟩ := hR2.out; have c2 := R2.here.c2)
        | (go_at_call 47; refine (lay_rep (R2.alloc _).1 (subs_one R2 v) (fun g hg => new_not R2 hg) (by omega)).mono ?_; rintro e w3 ⟨rfl, hL⟩))
      try go_ret
      obtain ⟨tv', r, st⟩ := hL
      exact fin.out _ _ ⟨_, rfl⟩ ⟨_, _, _, _, _, r, by simp; omega, ((((Step.ofStill hw).trans (R1.inc hil).2).trans st2).trans (R2.alloc _).2).trans st⟩
  | ok q =>
    obtain ⟨t, j⟩ := q
    have hcnt := pT_count hp ts.length
    have hjb := (pT_bounds (s := s) (i := i + 1) hil).1 t j hp
    have hT' : Hid (∀ (w : World), Rep w X br bz B s (i + 1) false wr mx ts us zs tv u → Calls Tryz.prog 26 #[.pointer (some ⟨br, 0, none⟩)] w fun e w' => e = .returned (.int .i64 ((ts.length + (flat ts.length t).length - 1 : Nat) : Int)) ∧ Hid (∃ tv' u', Rep w' X br bz B s j false wr (mix t mx) (ts ++ flat ts.length t) (us ++ usesOf t) zs tv' u' ∧ Step w w' br bz tv u tv' u')) := by
      intro w R
      refine (hT w X br bz B wr mx ts us zs tv u R).mono ?_
      intro e w' hh
      unfold TypPost at hh
      rw [hp] at hh
      exact hh
    by_cases hj : bt s j = closing c
    · have fin : Hid (∀ (e : Ending) (w' : World), e = .returned (.int .i64 (((ts ++ flat ts.length t).length : Nat) : Int)) → (∃ tv' u', Rep w' X br bz B s (j + 1) false wr (mix t mx) ((ts ++ flat ts.length t) ++ [⟨c, [ts.length + (flat ts.length t).length - 1]⟩]) (us ++ usesOf t) zs tv' u' ∧ Step w w' br bz tv u tv' u') → TypPost w X br bz B s i wr mx ts us zs tv u e w') := by
        intro e w' h1 h2
        unfold TypPost
        rw [hPT, hp]
        simp only [hj, if_true]
        refine ⟨by rw [h1]; simp [flat], ?_⟩
        simpa [flat, mix, usesOf] using h2
      generalize TypPost w X br bz B s i wr mx ts us zs tv u = POST at *
      generalize hN : ts.length + (flat ts.length t).length - 1 = N at *
      have hlen : (ts ++ flat ts.length t).length < j + 1 := by simp; omega
      generalize ts ++ flat ts.length t = TS at *
      generalize us ++ usesOf t = US at *
      generalize mix t mx = MX at *
      clear hPT hT hp hcnt hN
      rcases h with rfl | rfl
      all_goals
        simp [closing] at hj
        go_enter Tryz.func26, Tryz.ntmps26
        go_wp2_with (first
          | (go_at_call 23; refine (peek_rep R hc).mono ?_; rintro e w1 ⟨rfl, hw⟩; have R1 := R.still hw; have c1 := R1.here.c1; have f1 := R1.here.thaw 1)
          | (go_at_call 26; refine (hT'.out _ (R1.inc hil).1).mono ?_; rintro e w2 ⟨rfl, hR2⟩; obtain ⟨tv2, u2, R2, st2⟩ := hR2.out; have c2 := R2.here.c2)
          | (go_at_call 24; refine (eat_rep' (bt s j) R2 (by omega) (by omega)).mono ?_; rintro e w3 ⟨rfl, hE, st3⟩; rw [if_pos rfl] at hE)
          | (go_at_call 47; refine (lay_rep (hE.alloc _).1 (subs_one hE N) (fun g hg => new_not hE hg) hlen).mono ?_; rintro e w4 ⟨rfl, hL⟩))
        try go_ret
        obtain ⟨tv', r, st⟩ := hL
        exact fin.out _ _ rfl ⟨_, _, r, (((((Step.ofStill hw).trans (R1.inc hil).2).trans st2).trans st3).trans (hE.alloc _).2).trans st⟩
    · have fin : Hid (∀ (e : Ending) (w' : World), (∃ v : Nat, e = .returned (.int .i64 (v : Int))) → (∃ mx' ts' us' tv' u', Rep w' X br bz B s j true wr mx' ts' us' zs tv' u' ∧ ts'.length + i ≤ j + ts.length ∧ Step w w' br bz tv u tv' u') → TypPost w X br bz B s i wr mx ts us zs tv u e w') := by
        intro e w' h1 h2
        unfold TypPost
        rw [hPT, hp]
        simp only [hj, if_false]
        exact ⟨h1, h2⟩
      generalize TypPost w X br bz B s i wr mx ts us zs tv u = POST at *
      generalize hN : ts.length + (flat ts.length t).length - 1 = N at *
      have hlen : (ts ++ flat ts.length t).length < j := by simp; omega
      have hlen2 : (ts ++ flat ts.length t).length + 1 + i ≤ j + ts.length := by simp; omega
      generalize ts ++ flat ts.length t = TS at *
      generalize us ++ usesOf t = US at *
      generalize mix t mx = MX at *
      clear hPT hT hp hcnt hN
      obtain ⟨d, hd⟩ : ∃ d, d = closing c := ⟨_, rfl⟩
      rw [← hd] at hj
      rcases h with rfl | rfl
      all_goals
        simp [closing] at hd
        have hd : Hid (d = _) := hd
        go_enter Tryz.func26, Tryz.ntmps26
        go_wp2_with (first
          | (go_at_call 23; refine (peek_rep R hc).mono ?_; rintro e w1 ⟨rfl, hw⟩; have R1 := R.still hw; have c1 := R1.here.c1; have f1 := R1.here.thaw 1)
          | (go_at_call 26; refine (hT'.out _ (R1.inc hil).1).mono ?_; rintro e w2 ⟨rfl, hR2⟩; obtain ⟨tv2, u2, R2, st2⟩ := hR2.out; have c2 := R2.here.c2)
          | (go_at_call 24; refine (eat_rep' d R2 (by rw [hd.out]; rfl) (by rw [hd.out]; decide)).mono ?_; rintro e w3 ⟨rfl, hE, st3⟩; rw [if_neg hj] at hE)
          | (go_at_call 47; refine (lay_rep (hE.alloc _).1 (subs_one hE N) (fun g hg => new_not hE hg) hlen).mono ?_; rintro e w4 ⟨rfl, hL⟩))
        try go_ret
        obtain ⟨tv', r, st⟩ := hL
        exact fin.out _ _ ⟨_, rfl⟩ ⟨_, _, _, _, _, r, by rw [List.length_append]; exact hlen2, (((((Step.ofStill hw).trans (R1.inc hil).2).trans st2).trans st3).trans (hE.alloc _).2).trans st⟩
end Go.Proofs.YthndngbnioacpaaGreatDoor
