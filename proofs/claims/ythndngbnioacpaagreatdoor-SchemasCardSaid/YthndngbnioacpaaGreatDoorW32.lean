import Derived.Test.YthndngbnioacpaaGreatDoorW10
import Derived.Test.YthndngbnioacpaaGreatDoorW01
import Derived.Test.YthndngbnioacpaaGreatDoorW11
namespace Go.Proofs.YthndngbnioacpaaGreatDoor
open Go.RowKit
def RdAt (w : World) (br : Nat) (sv rv : Value) (s : ByteArray) (i : Nat) (nb : Bool) : Prop := Blk w br [sv, rv, .string s, .int .i64 (i : Int), .bool nb] 164
section
variable {w w' : World} {br : Nat} {sv rv : Value} {s : ByteArray} {i : Nat} {nb : Bool}
theorem RdAt.c0 (h : RdAt w br sv rv s i nb) : w.cell? ⟨br, 0, none⟩ = some sv := by rw [Blk.cell h]; rfl
theorem RdAt.c1 (h : RdAt w br sv rv s i nb) : w.cell? ⟨br, 1, none⟩ = some rv := by rw [Blk.cell h]; rfl
theorem RdAt.c2 (h : RdAt w br sv rv s i nb) : w.cell? ⟨br, 2, none⟩ = some (.string s) := by rw [Blk.cell h]; rfl
theorem RdAt.c3 (h : RdAt w br sv rv s i nb) : w.cell? ⟨br, 3, none⟩ = some (.int .i64 (i : Int)) := by rw [Blk.cell h]; rfl
theorem RdAt.c4 (h : RdAt w br sv rv s i nb) : w.cell? ⟨br, 4, none⟩ = some (.bool nb) := by rw [Blk.cell h]; rfl
theorem RdAt.thaw (h : RdAt w br sv rv s i nb) (o : Nat) : w.frozen? ⟨br, o, none⟩ = false := Blk.thaw h o
theorem RdAt.still (h : RdAt w br sv rv s i nb) (hw : Still w w') : RdAt w' br sv rv s i nb := by obtain ⟨n, rfl⟩ := hw; exact h
theorem RdAt.inc (h : RdAt w br sv rv s i nb) : RdAt (w.setCell ⟨br, 3, none⟩ (.int .i64 ((i : Int) + 1))) br sv rv s (i + 1) nb := Blk.set h 3 _
end
def NTake (w : World) (br : Nat) (sv rv : Value) (s : ByteArray) (i : Nat) (nb : Bool) (d : Nat) (b : Bool) (w' : World) : Prop :=
  Fr w w' (· = br) ∧ ((bt s i = d ∧ b = true ∧ RdAt w' br sv rv s (i + 1) nb ∧ i < s.size) ∨ (bt s i ≠ d ∧ b = false ∧ RdAt w' br sv rv s i nb))
set_option maxHeartbeats 4000000 in
set_option maxRecDepth 100000 in
theorem ntake_any {w : World} {br : Nat} {sv rv : Value} {s : ByteArray} {i : Nat} {nb : Bool} {c : Int} (d : Nat) (h : RdAt w br sv rv s i nb) (hs : s.size ≤ 4000) (hi : i ≤ s.size) (hd : c = (d : Int)) (hd0 : 0 < d) :
    Calls Tryz.prog 86 #[.pointer (some ⟨br, 0, none⟩), .int .u8 c] w fun e w' => ∃ b, e = .returned (.bool b) ∧ NTake w br sv rv s i nb d b w' := by
  subst hd
  obtain ⟨POST, hPOST⟩ : ∃ Q, Hid (Q = fun (e : Ending) (w' : World) => ∃ b, e = .returned (.bool b) ∧ NTake w br sv rv s i nb d b w') := ⟨_, rfl⟩
  rw [← hPOST.out]
  have c2 := h.c2
  have c3 := h.c3
  have f3 := h.thaw 3
  by_cases hl : i < s.size
  · have hl' : (i : Int) < (s.size : Int) := by omega
    have hd1 : decide ((i : Int) < (s.size : Int)) = true := decide_eq_true hl'
    obtain ⟨x, hx⟩ : ∃ x, bt s i = x := ⟨_, rfl⟩
    have hbk : ((s[i]'hl).toNat : Int) = (x : Int) := by rw [← hx, bt_eq s i hl]
    by_cases hb : x = d
    · subst hb
      replace hx := hide hx
      replace h := hide h
      go_enter Tryz.func86, Tryz.ntmps86
      go_wp2_with fail
      go_quiet (fail)
      go_wp2_with fail
      try go_ret
      rw [hPOST.out]
      exact ⟨true, rfl, ((Fr.refl w _).still (Still.drewN _ _)).setCell _ _ (fun _ => rfl), .inl ⟨hx.out, rfl, (h.out.still (Still.drewN _ _)).inc, hl⟩⟩
    · have hn : ((x : Int) == (d : Int)) = false := by simp; omega
      replace hx := hide hx
      replace h := hide h
      go_enter Tryz.func86, Tryz.ntmps86
      go_wp2_with fail
      go_quiet (fail)
      go_wp2_with fail
      try go_ret
      rw [hPOST.out]
      exact ⟨false, rfl, (Fr.refl w _).still (Still.drewN _ _), .inr ⟨by rw [hx.out]; exact hb, rfl, h.out.still (Still.drewN _ _)⟩⟩
  · have hl' : ¬ ((i : Int) < (s.size : Int)) := by omega
    have hd1 : decide ((i : Int) < (s.size : Int)) = false := decide_eq_false hl'
    have hb : Hid (bt s i ≠ d) := hide (by rw [bt_end (by omega)]; omega)
    replace h := hide h
    go_enter Tryz.func86, Tryz.ntmps86
    go_wp2_with fail
    go_quiet (fail)
    go_wp2_with fail
    try go_ret
    rw [hPOST.out]
    exact ⟨false, rfl, (Fr.refl w _).still (Still.drewN _ _), .inr ⟨hb.out, rfl, h.out.still (Still.drewN _ _)⟩⟩
theorem ntake_yes {w : World} {br : Nat} {sv rv : Value} {s : ByteArray} {i : Nat} {nb : Bool} {c : Int} (d : Nat) (h : RdAt w br sv rv s i nb) (hs : s.size ≤ 4000) (hi : i ≤ s.size) (hd : c = (d : Int)) (hd0 : 0 < d) (hb : bt s i = d) :
    Calls Tryz.prog 86 #[.pointer (some ⟨br, 0, none⟩), .int .u8 c] w fun e w' => e = .returned (.bool true) ∧ Fr w w' (· = br) ∧ RdAt w' br sv rv s (i + 1) nb := by
  refine (ntake_any d h hs hi hd hd0).mono ?_
  rintro e w' ⟨b, rfl, hf, hT⟩
  rcases hT with ⟨_, rfl, h1, _⟩ | ⟨hn, _⟩
  · exact ⟨rfl, hf, h1⟩
  · exact absurd hb hn
theorem ntake_no {w : World} {br : Nat} {sv rv : Value} {s : ByteArray} {i : Nat} {nb : Bool} {c : Int} (d : Nat) (h : RdAt w br sv rv s i nb) (hs : s.size ≤ 4000) (hi : i ≤ s.size) (hd : c = (d : Int)) (hd0 : 0 < d) (hb : bt s i ≠ d) :
    Calls Tryz.prog 86 #[.pointer (some ⟨br, 0, none⟩), .int .u8 c] w fun e w' => e = .returned (.bool false) ∧ Fr w w' (· = br) ∧ RdAt w' br sv rv s i nb := by
  refine (ntake_any d h hs hi hd hd0).mono ?_
  rintro e w' ⟨b, rfl, hf, hT⟩
  rcases hT with ⟨hy, _⟩ | ⟨_, rfl, h1⟩
  · exact absurd hy hb
  · exact ⟨rfl, hf, h1⟩
set_option maxHeartbeats 400000 in
theorem isLetter_any (c : Nat) (w : World) :
    Calls Tryz.prog 104 #[.int .u8 (c : Int)] w fun e w' => e = .returned (.bool (decide (97 ≤ c ∧ c ≤ 122))) ∧ w' = w := by
  have hb : decide (97 ≤ c ∧ c ≤ 122) = (decide ((97 : Int) ≤ (c : Int)) && decide ((c : Int) ≤ 122)) := by
    rw [Bool.decide_and, show decide ((97 : Int) ≤ (c : Int)) = decide (97 ≤ c) by congr 1; exact propext (by omega), show decide ((c : Int) ≤ 122) = decide (c ≤ 122) by congr 1; exact propext (by omega)]
  rw [hb]
  by_cases h1 : (97 : Int) ≤ (c : Int)
  · go_enter Tryz.func104, Tryz.ntmps104
    go_wp2
    go_ret
    exact ⟨by simp [h1], rfl⟩
  · go_enter Tryz.func104, Tryz.ntmps104
    go_wp2
    go_ret
    exact ⟨by simp; omega, rfl⟩
set_option maxHeartbeats 4000000 in
set_option maxRecDepth 100000 in
theorem nrun_letters {w : World} {br : Nat} {sv rv : Value} {s : ByteArray} {i : Nat} {nb : Bool} (h : RdAt w br sv rv s i nb) (hs : s.size ≤ 4000) (hi : i ≤ s.size) :
    Calls Tryz.prog 103 #[.pointer (some ⟨br, 0, none⟩), .func (.func 104) #[] #[]] w fun e w' => e = .returned (.string (s.extract i (runEnd 97 122 s i))) ∧ Fr w w' (· = br) ∧ RdAt w' br sv rv s (runEnd 97 122 s i) nb := by
  obtain ⟨POST, hPOST⟩ : ∃ Q, Hid (Q = fun (e : Ending) (w' : World) => e = .returned (.string (s.extract i (runEnd 97 122 s i))) ∧ Fr w w' (· = br) ∧ RdAt w' br sv rv s (runEnd 97 122 s i) nb) := ⟨_, rfl⟩
  rw [← hPOST.out]
  have c3 := h.c3
  have start : Hid (∃ k, i ≤ k ∧ k ≤ s.size ∧ s.size + 1 - k ≤ s.size + 1 ∧ Fr w w (· = br) ∧ RdAt w br sv rv s k nb ∧ runEnd 97 122 s i = runEnd 97 122 s k) := hide ⟨i, Nat.le_refl _, hi, by omega, Fr.refl _ _, h, rfl⟩
  replace h := hide h
  go_enter Tryz.func103, Tryz.ntmps103
  go_wp2_with fail
  clear c3
  go_loopg [] (s.size + 1) (fun m W => ∃ k, i ≤ k ∧ k ≤ s.size ∧ s.size + 1 - k ≤ m ∧ Fr w W (· = br) ∧ RdAt W br sv rv s k nb ∧ runEnd 97 122 s i = runEnd 97 122 s k)
  case atStart => exact start.out
  case round =>
    clear start
    obtain ⟨k, hik, hkl, hm, hf, hR, he⟩ := hrel
    have c2 := hR.c2
    have c3 := hR.c3
    have f3 := hR.thaw 3
    have hik' : (i : Int) ≤ (k : Int) := by omega
    have hkl' : (k : Int) ≤ (s.size : Int) := by omega
    replace hf := hide hf
    replace hR := hide hR
    have fin : Hid (runEnd 97 122 s k = k → ∀ W, Still wr W → POST (.returned (.string (s.extract i k))) W) := hide (fun hk W hW => by
      rw [hPOST.out, he, hk]
      exact ⟨rfl, hf.out.still hW, hR.out.still hW⟩)
    by_cases hk : k < s.size
    · have hk' : (k : Int) < (s.size : Int) := by omega
      have hd1 : decide ((k : Int) < (s.size : Int)) = true := decide_eq_true hk'
      obtain ⟨c, hc⟩ : ∃ c, bt s k = c := ⟨_, rfl⟩
      have hbk : ((s[k]'hk).toNat : Int) = (c : Int) := by rw [← hc, bt_eq s k hk]
      have hcall : Hid (∀ (q : Nat) (b : Bool), decide (97 ≤ c ∧ c ≤ 122) = b → Calls Tryz.prog 104 #[.int .u8 (c : Int)] (wr.drewN q) fun e w' => e = .returned (.bool b) ∧ w' = wr.drewN q) := hide (fun q b hb => by rw [← hb]; exact isLetter_any c _)
      have hst : runEnd 97 122 s k = if 97 ≤ c ∧ c ≤ 122 then runEnd 97 122 s (k + 1) else k := by
        rw [runEnd, dif_pos hk, hc]
      by_cases hin : 97 ≤ c ∧ c ≤ 122
      · rw [if_pos hin] at hst
        have hdin := hide (decide_eq_true hin)
        have hne := hide (he.trans hst)
        clear hst he fin
        replace hc := hide hc
        go_wp2_with fail
        go_quiet (first | (go_at_call 104; exact Calls.quiet_of_same (hcall.out _ _ hdin.out)))
        go_wp2_with fail
        go_roundg (s.size + 1 - (k + 1))
        case measure => omega
        case rel => exact ⟨k + 1, by omega, hk, Nat.le_refl _, (hf.out.still (Still.drewN _ _)).setCell _ _ (fun _ => rfl), (hR.out.still (Still.drewN _ _)).inc, hne.out⟩
      · rw [if_neg hin] at hst
        have hdin := hide (decide_eq_false hin)
        replace hst := hide hst
        replace hc := hide hc
        clear he
        go_wp2_with fail
        go_quiet (first | (go_at_call 104; exact Calls.quiet_of_same (hcall.out _ _ hdin.out)))
        go_wp2_with fail
        go_quiet (fail)
        go_wp2_with fail
        try go_ret
        exact fin.out hst.out _ ((Still.drewN _ _).trans (Still.drewN _ _))
    · have hk' : ¬ ((k : Int) < (s.size : Int)) := by omega
      have hd1 : decide ((k : Int) < (s.size : Int)) = false := decide_eq_false hk'
      have hst := hide (show runEnd 97 122 s k = k by rw [runEnd, dif_neg hk])
      clear he
      go_wp2_with fail
      go_quiet (fail)
      go_wp2_with fail
      go_quiet (fail)
      go_wp2_with fail
      try go_ret
      exact fin.out hst.out _ ((Still.drewN _ _).trans (Still.drewN _ _))
set_option maxHeartbeats 400000 in
theorem isDigit_any (c : Nat) (w : World) :
    Calls Tryz.prog 109 #[.int .u8 (c : Int)] w fun e w' => e = .returned (.bool (decide (48 ≤ c ∧ c ≤ 57))) ∧ w' = w := by
  have hb : decide (48 ≤ c ∧ c ≤ 57) = (decide ((48 : Int) ≤ (c : Int)) && decide ((c : Int) ≤ 57)) := by
    rw [Bool.decide_and, show decide ((48 : Int) ≤ (c : Int)) = decide (48 ≤ c) by congr 1; exact propext (by omega), show decide ((c : Int) ≤ 57) = decide (c ≤ 57) by congr 1; exact propext (by omega)]
  rw [hb]
  by_cases h1 : (48 : Int) ≤ (c : Int)
  · go_enter Tryz.func109, Tryz.ntmps109
    go_wp2
    go_ret
    exact ⟨by simp [h1], rfl⟩
  · go_enter Tryz.func109, Tryz.ntmps109
    go_wp2
    go_ret
    exact ⟨by simp; omega, rfl⟩
set_option maxHeartbeats 4000000 in
set_option maxRecDepth 100000 in
theorem nrun_digits {w : World} {br : Nat} {sv rv : Value} {s : ByteArray} {i : Nat} {nb : Bool} (h : RdAt w br sv rv s i nb) (hs : s.size ≤ 4000) (hi : i ≤ s.size) :
    Calls Tryz.prog 103 #[.pointer (some ⟨br, 0, none⟩), .func (.func 109) #[] #[]] w fun e w' => e = .returned (.string (s.extract i (runEnd 48 57 s i))) ∧ Fr w w' (· = br) ∧ RdAt w' br sv rv s (runEnd 48 57 s i) nb := by
  obtain ⟨POST, hPOST⟩ : ∃ Q, Hid (Q = fun (e : Ending) (w' : World) => e = .returned (.string (s.extract i (runEnd 48 57 s i))) ∧ Fr w w' (· = br) ∧ RdAt w' br sv rv s (runEnd 48 57 s i) nb) := ⟨_, rfl⟩
  rw [← hPOST.out]
  have c3 := h.c3
  have start : Hid (∃ k, i ≤ k ∧ k ≤ s.size ∧ s.size + 1 - k ≤ s.size + 1 ∧ Fr w w (· = br) ∧ RdAt w br sv rv s k nb ∧ runEnd 48 57 s i = runEnd 48 57 s k) := hide ⟨i, Nat.le_refl _, hi, by omega, Fr.refl _ _, h, rfl⟩
  replace h := hide h
  go_enter Tryz.func103, Tryz.ntmps103
  go_wp2_with fail
  clear c3
  go_loopg [] (s.size + 1) (fun m W => ∃ k, i ≤ k ∧ k ≤ s.size ∧ s.size + 1 - k ≤ m ∧ Fr w W (· = br) ∧ RdAt W br sv rv s k nb ∧ runEnd 48 57 s i = runEnd 48 57 s k)
  case atStart => exact start.out
  case round =>
    clear start
    obtain ⟨k, hik, hkl, hm, hf, hR, he⟩ := hrel
    have c2 := hR.c2
    have c3 := hR.c3
    have f3 := hR.thaw 3
    have hik' : (i : Int) ≤ (k : Int) := by omega
    have hkl' : (k : Int) ≤ (s.size : Int) := by omega
    replace hf := hide hf
    replace hR := hide hR
    have fin : Hid (runEnd 48 57 s k = k → ∀ W, Still wr W → POST (.returned (.string (s.extract i k))) W) := hide (fun hk W hW => by
      rw [hPOST.out, he, hk]
      exact ⟨rfl, hf.out.still hW, hR.out.still hW⟩)
    by_cases hk : k < s.size
    · have hk' : (k : Int) < (s.size : Int) := by omega
      have hd1 : decide ((k : Int) < (s.size : Int)) = true := decide_eq_true hk'
      obtain ⟨c, hc⟩ : ∃ c, bt s k = c := ⟨_, rfl⟩
      have hbk : ((s[k]'hk).toNat : Int) = (c : Int) := by rw [← hc, bt_eq s k hk]
      have hcall : Hid (∀ (q : Nat) (b : Bool), decide (48 ≤ c ∧ c ≤ 57) = b → Calls Tryz.prog 109 #[.int .u8 (c : Int)] (wr.drewN q) fun e w' => e = .returned (.bool b) ∧ w' = wr.drewN q) := hide (fun q b hb => by rw [← hb]; exact isDigit_any c _)
      have hst : runEnd 48 57 s k = if 48 ≤ c ∧ c ≤ 57 then runEnd 48 57 s (k + 1) else k := by
        rw [runEnd, dif_pos hk, hc]
      by_cases hin : 48 ≤ c ∧ c ≤ 57
      · rw [if_pos hin] at hst
        have hdin := hide (decide_eq_true hin)
        have hne := hide (he.trans hst)
        clear hst he fin
        replace hc := hide hc
        go_wp2_with fail
        go_quiet (first | (go_at_call 109; exact Calls.quiet_of_same (hcall.out _ _ hdin.out)))
        go_wp2_with fail
        go_roundg (s.size + 1 - (k + 1))
        case measure => omega
        case rel => exact ⟨k + 1, by omega, hk, Nat.le_refl _, (hf.out.still (Still.drewN _ _)).setCell _ _ (fun _ => rfl), (hR.out.still (Still.drewN _ _)).inc, hne.out⟩
      · rw [if_neg hin] at hst
        have hdin := hide (decide_eq_false hin)
        replace hst := hide hst
        replace hc := hide hc
        clear he
        go_wp2_with fail
        go_quiet (first | (go_at_call 109; exact Calls.quiet_of_same (hcall.out _ _ hdin.out)))
        go_wp2_with fail
        go_quiet (fail)
        go_wp2_with fail
        try go_ret
        exact fin.out hst.out _ ((Still.drewN _ _).trans (Still.drewN _ _))
    · have hk' : ¬ ((k : Int) < (s.size : Int)) := by omega
      have hd1 : decide ((k : Int) < (s.size : Int)) = false := decide_eq_false hk'
      have hst := hide (show runEnd 48 57 s k = k by rw [runEnd, dif_neg hk])
      clear he
      go_wp2_with fail
      go_quiet (fail)
      go_wp2_with fail
      go_quiet (fail)
      go_wp2_with fail
      try go_ret
      exact fin.out hst.out _ ((Still.drewN _ _).trans (Still.drewN _ _))
end Go.Proofs.YthndngbnioacpaaGreatDoor
namespace Go.Proofs.YthndngbnioacpaaGreatDoor
open Go.RowKit
def PPost (W : World) (t : ByteArray) (e : Ending) (w' : World) : Prop := Fr W w' (fun _ => False) ∧
  ((∃ v, Lib.parseIntB 64 t.data.toList = .ok v ∧ e = .returned (.tuple #[.int .i64 v, .nilIface])) ∨ ((∀ v, Lib.parseIntB 64 t.data.toList ≠ .ok v) ∧ ∃ v T x, e = .returned (.tuple #[.int .i64 v, .iface T x])))
def numFit (s : ByteArray) (i : Nat) : Prop := 0 < (numTx s i).size ∧ ¬ (bt (numTx s i) 0 = 48 ∧ (1 < (numTx s i).size ∨ negAt s i = true))
def DecPost (w : World) (br : Nat) (sv rv : Value) (s : ByteArray) (i : Nat) (nb : Bool) (lo hi : Int) (e : Ending) (w' : World) : Prop :=
  ∃ n b, e = .returned (.tuple #[.int .i64 n, .bool b]) ∧ Fr w w' (· = br) ∧ RdAt w' br sv rv s (numEnd s i) nb ∧
    (b = true ↔ (numFit s i ∧ ∃ v, Lib.parseIntB 64 (s.extract i (numEnd s i)).data.toList = .ok v ∧ lo ≤ v ∧ v ≤ hi))
section
variable {w : World} {br : Nat} {sv rv : Value} {s : ByteArray} {i : Nat} {nb : Bool} {lo hi : Int}
theorem ntake_sgn (h : RdAt w br sv rv s i nb) (hs : s.size ≤ 4000) (hi : i ≤ s.size) :
    Calls Tryz.prog 86 #[.pointer (some ⟨br, 0, none⟩), .int .u8 45] w fun e w' => e = .returned (.bool (negAt s i)) ∧ Fr w w' (· = br) ∧ RdAt w' br sv rv s (sgn s i) nb := by
  refine (ntake_any 45 h hs hi rfl (by decide)).mono ?_
  rintro e w' ⟨b, rfl, hf, hT⟩
  rcases hT with ⟨hy, rfl, h1, _⟩ | ⟨hn, rfl, h1⟩
  · refine ⟨?_, hf, ?_⟩
    · unfold negAt; rw [hy]; rfl
    · unfold sgn; rw [if_pos hy]; exact h1
  · refine ⟨?_, hf, ?_⟩
    · have : negAt s i = false := by unfold negAt; exact beq_eq_false_iff_ne.2 (by omega)
      rw [this]
    · unfold sgn; rw [if_neg hn]; exact h1
theorem sgn_le (hi : i ≤ s.size) : i ≤ sgn s i ∧ sgn s i ≤ s.size ∧ sgn s i ≤ numEnd s i ∧ numEnd s i ≤ s.size := by
  have h1 : i ≤ sgn s i ∧ sgn s i ≤ s.size := by
    unfold sgn
    split
    · rename_i h
      have : i < s.size := by
        by_cases hh : i < s.size
        · exact hh
        · unfold bt at h; rw [dif_neg hh] at h; exact absurd h (by decide)
      omega
    · omega
  have h2 := runEnd_ge 48 57 s _ (sgn s i) (Nat.le_refl _)
  exact ⟨h1.1, h1.2, h2.1, h2.2 h1.2⟩
set_option maxHeartbeats 8000000 in
set_option maxRecDepth 100000 in
theorem ndecimal_any (h : RdAt w br sv rv s i nb) (hs : s.size ≤ 4000) (hil : i ≤ s.size)
    (hP : ∀ W, Fr w W (· = br) → Calls Tryz.prog 110 #[.string (s.extract i (numEnd s i)), .int .i64 10, .int .i64 64] W (PPost W (s.extract i (numEnd s i)))) :
    Calls Tryz.prog 97 #[.pointer (some ⟨br, 0, none⟩), .int .i64 lo, .int .i64 hi] w (DecPost w br sv rv s i nb lo hi) := by
  obtain ⟨POST, hPOST⟩ : ∃ Q, Hid (Q = DecPost w br sv rv s i nb lo hi) := ⟨_, rfl⟩
  rw [← hPOST.out]
  obtain ⟨l1, l2, l3, l4⟩ := sgn_le hil
  have c3 := h.c3
  have hC1 := hide (ntake_sgn h hs hil)
  have hC2 : Hid (∀ W, RdAt W br sv rv s (sgn s i) nb → Calls Tryz.prog 103 #[.pointer (some ⟨br, 0, none⟩), .func (.func 109) #[] #[]] W fun e w' => e = .returned (.string (numTx s i)) ∧ Fr W w' (· = br) ∧ RdAt w' br sv rv s (numEnd s i) nb) := hide (fun W hW => nrun_digits hW hs l2)
  have hbad : Hid (¬ numFit s i → ∀ W, Fr w W (· = br) → RdAt W br sv rv s (numEnd s i) nb → POST (.returned (.tuple #[.int .i64 0, .bool false])) W) := hide (fun hn W hf hR => by
    rw [hPOST.out]
    exact ⟨0, false, rfl, hf, hR, ⟨fun e => absurd e (by decide), fun e => absurd e.1 hn⟩⟩)
  have hgood : Hid (numFit s i → ∀ n b W, Fr w W (· = br) → RdAt W br sv rv s (numEnd s i) nb → (b = true ↔ ∃ v, Lib.parseIntB 64 (s.extract i (numEnd s i)).data.toList = .ok v ∧ lo ≤ v ∧ v ≤ hi) → POST (.returned (.tuple #[.int .i64 n, .bool b])) W) := hide (fun hn n b W hf hR hb => by
    rw [hPOST.out]
    exact ⟨n, b, rfl, hf, hR, hb.trans ⟨fun e => ⟨hn, e⟩, fun e => e.2⟩⟩)
  replace hP := hide hP
  have hfit : numFit s i = (0 < (numTx s i).size ∧ ¬ (bt (numTx s i) 0 = 48 ∧ (1 < (numTx s i).size ∨ negAt s i = true))) := rfl
  have l5 : i ≤ numEnd s i := by omega
  clear l1 l2 l3 h
  generalize numTx s i = t at hC2 hfit
  generalize numEnd s i = k at *
  generalize negAt s i = neg at *
  generalize sgn s i = j at *
  by_cases ht0 : t.size = 0
  · have e0 : t.toList = [] := by rw [ByteArray.toList_eq]; exact List.eq_nil_of_length_eq_zero (by rw [Array.length_toList]; exact ht0)
    have hnf := hide (show ¬ numFit s i by rw [hfit]; omega)
    clear hfit
    go_enter Tryz.func97, Tryz.ntmps97
    go_wp2_with (first
      | (go_at_call 86; refine hC1.out.mono ?_; rintro e w1 ⟨rfl, hf1, h1⟩; have F1 := hide hf1; have R1 := hide h1; clear hf1 h1)
      | (go_at_call 103; refine (hC2.out _ R1.out).mono ?_; rintro e w2 ⟨rfl, hf2, h2⟩; have F2 := hide (F1.out.trans hf2 (fun _ _ e => e)); have R2 := hide h2; clear hf2 h2))
    exact hbad.out hnf.out _ F2.out R2.out
  · have h0 : 0 < t.size := by omega
    have e0 : ¬ t.toList = [] := by
      rw [ByteArray.toList_eq]
      intro e
      have : t.data.toList.length = t.size := Array.length_toList
      rw [e, List.length_nil] at this
      omega
    have e1 : t.toList.isEmpty = false := by cases hh : t.toList with | nil => exact absurd hh e0 | cons _ _ => rfl
    obtain ⟨c, hc⟩ : ∃ c, bt t 0 = c := ⟨_, rfl⟩
    have hbk : ((t[0]'h0).toNat : Int) = (c : Int) := by rw [← hc, bt_eq t 0 h0]
    rw [hc] at hfit
    replace hc := hide hc
    have harm : (c = 48 ∧ neg = true) ∨ (c = 48 ∧ neg = false ∧ 1 < t.size) ∨ c ≠ 48 ∨ (c = 48 ∧ neg = false ∧ t.size = 1) := by
      cases neg
      · by_cases c = 48
        · by_cases 1 < t.size
          · simp_all
          · exact .inr (.inr (.inr ⟨by assumption, rfl, by omega⟩))
        · simp_all
      · by_cases c = 48 <;> simp_all
    rcases harm with ⟨rfl, rfl⟩ | ⟨rfl, rfl, h1⟩ | hne | ⟨rfl, rfl, h1⟩
    · have hnf := hide (show ¬ numFit s i by rw [hfit]; simp)
      clear hfit
      go_enter Tryz.func97, Tryz.ntmps97
      go_wp2_with (first
        | (go_at_call 86; refine hC1.out.mono ?_; rintro e w1 ⟨rfl, hf1, h1⟩; have F1 := hide hf1; have R1 := hide h1; clear hf1 h1)
        | (go_at_call 103; refine (hC2.out _ R1.out).mono ?_; rintro e w2 ⟨rfl, hf2, h2⟩; have F2 := hide (F1.out.trans hf2 (fun _ _ e => e)); have R2 := hide h2; clear hf2 h2))
      exact hbad.out hnf.out _ F2.out R2.out
    · have hnf := hide (show ¬ numFit s i by rw [hfit]; simp [h1])
      clear hfit
      have h1' : (1 : Int) < (t.size : Int) := by omega
      go_enter Tryz.func97, Tryz.ntmps97
      go_wp2_with (first
        | (go_at_call 86; refine hC1.out.mono ?_; rintro e w1 ⟨rfl, hf1, h1⟩; have F1 := hide hf1; have R1 := hide h1; clear hf1 h1)
        | (go_at_call 103; refine (hC2.out _ R1.out).mono ?_; rintro e w2 ⟨rfl, hf2, h2⟩; have F2 := hide (F1.out.trans hf2 (fun _ _ e => e)); have R2 := hide h2; clear hf2 h2))
      exact hbad.out hnf.out _ F2.out R2.out
    case' neg.inr.inr.inl => have hf := hide (show numFit s i by rw [hfit]; exact ⟨h0, fun e => hne e.1⟩)
    case' neg.inr.inr.inl => have hcn : ((c : Int) == 48) = false := by simp; omega
    case' neg.inr.inr.inr => have hf := hide (show numFit s i by rw [hfit]; exact ⟨h0, by simp [h1]⟩)
    case' neg.inr.inr.inr => have h1' : ¬ (1 : Int) < (t.size : Int) := by omega
    all_goals clear hfit
    all_goals
      go_enter Tryz.func97, Tryz.ntmps97
      go_wp2_with (first
        | (go_at_call 86; refine hC1.out.mono ?_; rintro e w1 ⟨rfl, hf1, h1⟩; have F1 := hide hf1; have R1 := hide h1; clear hf1 h1)
        | (go_at_call 103; refine (hC2.out _ R1.out).mono ?_; rintro e w2 ⟨rfl, hf2, h2⟩; have F2 := hide (F1.out.trans hf2 (fun _ _ e => e)); have R2 := hide h2; clear hf2 h2))
      have s2 := R2.out.c2
      have s3 := R2.out.c3
      refine wp_regionAll (fun W => W.cell? ⟨br, 2, none⟩ = some (.string s) ∧ W.cell? ⟨br, 3, none⟩ = some (.int .i64 (k : Int))) (by kernel_rfl) ?_
      refine wpAllC_take 0 (.pointer (some ⟨br, 0, none⟩)) rfl (by kernel_rfl) (fun _ _ _ h => h) (by kernel_rfl) (by rintro W ⟨h1, h2⟩; go_simp) ?_
      refine wpAllC_take 1 (.pointer (some ⟨br, 0, none⟩)) rfl (by kernel_rfl) (fun _ _ _ h => h) (by kernel_rfl) (by rintro W ⟨h1, h2⟩; go_simp) ?_
      refine wpAllC_take 2 (.pointer (some ⟨br, 2, none⟩)) rfl (by kernel_rfl) (fun _ _ _ h => h) (by kernel_rfl) (by rintro W ⟨h1, h2⟩; go_simp) ?_
      refine wpAllC_take 3 (.string s) rfl (by kernel_rfl) (fun _ _ _ h => h) (by kernel_rfl) (by rintro W ⟨h1, h2⟩; go_simp) ?_
      refine wpAllC_take 4 (.int .i64 (i : Int)) rfl (by kernel_rfl) (fun _ _ _ h => h) (by kernel_rfl) (by rintro W ⟨h1, h2⟩; go_simp) ?_
      refine wpAllC_take 5 (.pointer (some ⟨br, 0, none⟩)) rfl (by kernel_rfl) (fun _ _ _ h => h) (by kernel_rfl) (by rintro W ⟨h1, h2⟩; go_simp) ?_
      refine wpAllC_take 6 (.pointer (some ⟨br, 0, none⟩)) rfl (by kernel_rfl) (fun _ _ _ h => h) (by kernel_rfl) (by rintro W ⟨h1, h2⟩; go_simp) ?_
      refine wpAllC_take 7 (.pointer (some ⟨br, 3, none⟩)) rfl (by kernel_rfl) (fun _ _ _ h => h) (by kernel_rfl) (by rintro W ⟨h1, h2⟩; go_simp) ?_
      refine wpAllC_take 8 (.int .i64 (k : Int)) rfl (by kernel_rfl) (fun _ _ _ h => h) (by kernel_rfl) (by rintro W ⟨h1, h2⟩; go_simp) ?_
      refine wpAllC_take 9 (.string (s.extract i k)) rfl (by kernel_rfl) (fun _ _ _ h => h) (by kernel_rfl) (by rintro W ⟨h1, h2⟩; go_simp) ?_
      refine wpAllC_one 10 rfl (by kernel_rfl) ⟨s2, s3⟩ (fun K hK => ?_)
      go_simp
      refine (hP.out _ F2.out.drew).mono ?_
      rintro e w3 ⟨hf3, hm⟩
      have F3 := hide (F2.out.drew.trans hf3 (fun _ _ f => f.elim))
      have R3 : Hid (RdAt w3 br sv rv s k nb) := hide (hf3.blk R2.out id)
      have x2 := R3.out.c2
      have x3 := R3.out.c3
      replace hm := hide hm
      clear hf3 s2 s3
      rcases hm.out with ⟨v, hv, rfl⟩ | ⟨hno, v, T, x, rfl⟩
      · replace hv := hide hv
        refine hK _ _ ?_
        clear hK K
        refine wpAllC_take 11 (.tuple #[.int .i64 v, .nilIface]) rfl (by kernel_rfl) (fun _ _ _ h => h) (by kernel_rfl) (by rintro W ⟨h1, h2⟩; go_simp) ?_
        refine wpAllC_take 12 (.int .i64 v) rfl (by kernel_rfl) (fun _ _ _ h => h) (by kernel_rfl) (by rintro W ⟨h1, h2⟩; go_simp) ?_
        refine wpAllC_take 13 .nilIface rfl (by kernel_rfl) (fun _ _ _ h => h) (by kernel_rfl) (by rintro W ⟨h1, h2⟩; go_simp) ?_
        refine wpAllC_take 14 (.int .i64 v) rfl (by kernel_rfl) (fun _ _ _ h => h) (by kernel_rfl) (by rintro W ⟨h1, h2⟩; go_simp) ?_
        refine wpAllC_take 15 .nilIface rfl (by kernel_rfl) (fun _ _ _ h => h) (by kernel_rfl) (by rintro W ⟨h1, h2⟩; go_simp) ?_
        refine wpAllC_done (by kernel_rfl) ⟨x2, x3⟩ ?_ _
        by_cases hlo : v ≥ lo
        · have dlo : decide (v ≥ lo) = true := decide_eq_true hlo
          by_cases hhi : v ≤ hi
          · have dhi : decide (v ≤ hi) = true := decide_eq_true hhi
            go_wp2_with fail
            exact hgood.out hf.out v true _ F3.out R3.out ⟨fun _ => ⟨v, hv.out, hlo, hhi⟩, fun _ => rfl⟩
          · have dhi : decide (v ≤ hi) = false := decide_eq_false hhi
            go_wp2_with fail
            exact hgood.out hf.out v false _ F3.out R3.out ⟨fun e => absurd e (by decide), fun ⟨u, hu, _, h2⟩ => by rw [hv.out] at hu; cases hu; exact absurd h2 (by omega)⟩
        · have dlo : decide (v ≥ lo) = false := decide_eq_false hlo
          go_wp2_with fail
          exact hgood.out hf.out v false _ F3.out R3.out ⟨fun e => absurd e (by decide), fun ⟨u, hu, h1, _⟩ => by rw [hv.out] at hu; cases hu; exact absurd h1 (by omega)⟩
      · replace hno := hide hno
        refine hK _ _ ?_
        clear hK K
        refine wpAllC_take 11 (.tuple #[.int .i64 v, .iface T x]) rfl (by kernel_rfl) (fun _ _ _ h => h) (by kernel_rfl) (by rintro W ⟨h1, h2⟩; go_simp) ?_
        refine wpAllC_take 12 (.int .i64 v) rfl (by kernel_rfl) (fun _ _ _ h => h) (by kernel_rfl) (by rintro W ⟨h1, h2⟩; go_simp) ?_
        refine wpAllC_take 13 (.iface T x) rfl (by kernel_rfl) (fun _ _ _ h => h) (by kernel_rfl) (by rintro W ⟨h1, h2⟩; go_simp) ?_
        refine wpAllC_take 14 (.int .i64 v) rfl (by kernel_rfl) (fun _ _ _ h => h) (by kernel_rfl) (by rintro W ⟨h1, h2⟩; go_simp) ?_
        refine wpAllC_take 15 (.iface T x) rfl (by kernel_rfl) (fun _ _ _ h => h) (by kernel_rfl) (by rintro W ⟨h1, h2⟩; go_simp) ?_
        refine wpAllC_done (by kernel_rfl) ⟨x2, x3⟩ ?_ _
        go_wp2_with fail
        exact hgood.out hf.out v false _ F3.out R3.out ⟨fun e => absurd e (by decide), fun ⟨u, hu, _, _⟩ => absurd hu (hno.out u)⟩
end
end Go.Proofs.YthndngbnioacpaaGreatDoor
