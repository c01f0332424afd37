import Derived.Test.YthndngbnioacpaaGreatDoorW33
namespace Go.Proofs.YthndngbnioacpaaGreatDoor
open Go.RowKit
def itemsP {St : Type} (step : St → Nat → Option (St × Nat)) (s : ByteArray) (fin : Nat) : Nat → St → Nat → Option (St × Nat)
  | 0, _, _ => none
  | n + 1, σ, j =>
    match step σ j with
    | none => none
    | some (σ', j') => if bt s j' = fin then some (σ', j' + 1) else if bt s j' = 44 then itemsP step s fin n σ' (j' + 1) else none
def listP {St : Type} (step : St → Nat → Option (St × Nat)) (s : ByteArray) (op fin : Nat) (σ : St) (i : Nat) : Option (St × Nat) :=
  if bt s i = op then (if bt s (i + 1) = fin then some (σ, i + 2) else itemsP step s fin (s.size + 2) σ (i + 1)) else none
structure ItemOK {St : Type} (sv rv : Value) (s : ByteArray) (nt : TypeId) (nx : Value) (br fid : Nat) (caps : Array Value) (step : St → Nat → Option (St × Nat)) (Inv : St → Nat → World → Prop) (Bad : Value → World → Prop) : Prop where
  F : ∀ W : World, (callFunc fid caps).run Tryz.prog W = .ok (.enter fid caps) W
  R : ∀ {σ j W}, Inv σ j W → RdAt W br sv rv s j false ∧ j ≤ s.size ∧ W.cell? ⟨4, 0, none⟩ = some (.iface nt nx)
  K : ∀ {σ j j' W W'}, Inv σ j W → RdAt W' br sv rv s j' false → Fr W W' (· = br) → j' ≤ s.size → j ≤ j' → Inv σ j' W'
  B : ∀ {σ j W}, Inv σ j W → Bad (.iface nt nx) W
  C : ∀ {σ j W}, Inv σ j W → Calls Tryz.prog fid caps W fun e W' => ∃ v, e = .returned v ∧ match step σ j with | some (σ', j') => v = .nilIface ∧ j < j' ∧ Inv σ' j' W' | none => (∃ T x, v = .iface T x) ∧ Bad v W'
def ItemsPost {St : Type} (Inv : St → Nat → World → Prop) (Bad : Value → World → Prop) (res : Option (St × Nat)) (e : Ending) (w' : World) : Prop :=
  ∃ v, e = .returned v ∧ match res with | some (σ, j) => v = .nilIface ∧ Inv σ j w' | none => (∃ T x, v = .iface T x) ∧ Bad v w'
set_option maxHeartbeats 8000000 in
set_option maxRecDepth 100000 in
theorem nitems_any {St : Type} {sv rv : Value} {s : ByteArray} {nt : TypeId} {nx : Value} {br fid : Nat} {caps : Array Value} {step : St → Nat → Option (St × Nat)} {Inv : St → Nat → World → Prop} {Bad : Value → World → Prop} (I : ItemOK sv rv s nt nx br fid caps step Inv Bad)
    {w : World} {σ : St} {i : Nat} {co cf : Int} (op fin : Nat) (hR : RdAt w br sv rv s i false) (hil : i ≤ s.size) (hS : ∀ W', RdAt W' br sv rv s (i + 1) false → Fr w W' (· = br) → i + 1 ≤ s.size → Inv σ (i + 1) W') (hB0 : ∀ W', RdAt W' br sv rv s i false → Fr w W' (· = br) → Bad (.iface nt nx) W' ∧ W'.cell? ⟨4, 0, none⟩ = some (.iface nt nx)) (hs4 : s.size ≤ 4000) (hco : co = (op : Int)) (hcf : cf = (fin : Int)) (ho0 : 0 < op) (hf0 : 0 < fin) :
    Calls Tryz.prog 99 #[.pointer (some ⟨br, 0, none⟩), .int .u8 co, .int .u8 cf, .func (.func fid) #[] caps] w (ItemsPost Inv Bad (listP step s op fin σ i)) := by
  subst hco
  subst hcf
  obtain ⟨POST, hPOST⟩ : ∃ Q, Hid (Q = ItemsPost Inv Bad (listP step s op fin σ i)) := ⟨_, rfl⟩
  rw [← hPOST.out]
  by_cases hop : bt s i = op
  case neg =>
    have hr := hide (show listP step s op fin σ i = none by unfold listP; rw [if_neg hop])
    have hC := hide (ntake_no op hR hs4 hil rfl ho0 hop)
    replace hB0 := hide hB0
    clear hR hop hS
    go_enter Tryz.func99, Tryz.ntmps99
    go_wp2_with (go_at_call 86; refine hC.out.mono ?_; rintro e w2 ⟨rfl, hf2, h2⟩; obtain ⟨B2, e2⟩ := hB0.out w2 h2 hf2; replace B2 := hide B2; clear hf2 h2)
    try go_ret
    rw [hPOST.out, hr.out]
    exact ⟨_, rfl, ⟨_, _, rfl⟩, B2.out⟩
  case pos =>
  have hlt : i + 1 ≤ s.size := bt_pos (s := s) (i := i) (by omega)
  have hC := hide (ntake_yes op hR hs4 hil rfl ho0 hop)
  replace hS := hide hS
  replace I := hide I
  clear hB0
  by_cases hfin : bt s (i + 1) = fin
  case pos =>
    have hlt2 : i + 1 + 1 ≤ s.size := bt_pos (s := s) (i := i + 1) (by omega)
    have hr := hide (show listP step s op fin σ i = some (σ, i + 2) by unfold listP; rw [if_pos hop, if_pos hfin])
    have hC2 : Hid (∀ w2, RdAt w2 br sv rv s (i + 1) false → _) := hide (fun w2 h2 => ntake_yes (w := w2) fin h2 hs4 hlt rfl hf0 hfin)
    clear hR hop hfin
    go_enter Tryz.func99, Tryz.ntmps99
    go_wp2_with (first
      | (go_at_call 86; refine hC.out.mono ?_; rintro e w2 ⟨rfl, hf2, h2⟩; have I2 := hS.out w2 h2 hf2 hlt; replace I2 := hide I2; clear hf2 hC; replace h2 := hide h2)
      | (go_at_call 86; refine (hC2.out w2 h2.out).mono ?_; rintro e w3 ⟨rfl, hf3, h3⟩; have I3 := I.out.K I2.out h3 hf3 hlt2 (by omega); replace I3 := hide I3; clear hf3 h3))
    try go_ret
    rw [hPOST.out, hr.out]
    exact ⟨_, rfl, rfl, I3.out⟩
  case neg =>
    have hr := hide (show listP step s op fin σ i = itemsP step s fin (s.size + 2) σ (i + 1) by unfold listP; rw [if_pos hop, if_neg hfin])
    have hC2 : Hid (∀ w2, RdAt w2 br sv rv s (i + 1) false → _) := hide (fun w2 h2 => ntake_no (w := w2) fin h2 hs4 hlt rfl hf0 hfin)
    clear hR hop hfin
    go_enter Tryz.func99, Tryz.ntmps99
    go_wp2_with (first
      | (go_at_call 86; refine hC.out.mono ?_; rintro e w2 ⟨rfl, hf2, h2⟩; have I2 := hS.out w2 h2 hf2 hlt; replace I2 := hide I2; clear hf2 hC; replace h2 := hide h2)
      | (go_at_call 86; refine (hC2.out w2 h2.out).mono ?_; rintro e w3 ⟨rfl, hf3, h3⟩; have I3 := I.out.K I2.out h3 hf3 hlt (Nat.le_refl _); have start : ∃ n σ' j, Inv σ' j w3 ∧ s.size + 1 - j ≤ s.size + 1 ∧ s.size + 1 - j ≤ n ∧ listP step s op fin σ i = itemsP step s fin n σ' j := ⟨s.size + 2, σ, i + 1, I3, (by omega), (by omega), hr.out⟩; replace start := hide start; clear I3 hf3 h3 I2 hr))
    go_loopg [] (s.size + 1) (fun m W => ∃ n σ' j, Inv σ' j W ∧ s.size + 1 - j ≤ m ∧ s.size + 1 - j ≤ n ∧ listP step s op fin σ i = itemsP step s fin n σ' j)
    case atStart => exact start.out
    case round =>
      clear start
      have hcf := I.out.F
      obtain ⟨n, σ1, j, hI, hm, hn, hr⟩ := hrel
      obtain ⟨hR, hjl, hE⟩ := I.out.R hI
      have hCc := I.out.C hI
      obtain ⟨n', rfl⟩ : ∃ n', n = n' + 1 := ⟨n - 1, by omega⟩
      rw [itemsP] at hr
      cases hst : step σ1 j with
      | none =>
        rw [hst] at hr hCc
        replace hr := hide hr
        replace hCc := hide hCc
        clear hR hE hI hst
        go_wp2_with (refine hCc.out.mono ?_; rintro e w5 ⟨v5, rfl, ⟨vT, vx, rfl⟩, hB⟩; replace hB := hide hB; clear hCc)
        try go_ret
        rw [hPOST.out, hr.out]
        exact ⟨_, rfl, ⟨_, _, rfl⟩, hB.out⟩
      | some q =>
        obtain ⟨σ2, j2⟩ := q
        rw [hst] at hr hCc
        simp only at hr
        replace hCc := hide hCc
        clear hR hE hI hst
        by_cases hbf : bt s j2 = fin
        · rw [if_pos hbf] at hr
          replace hr := hide hr
          have hlt2 : j2 + 1 ≤ s.size := bt_pos (s := s) (i := j2) (by omega)
          replace hbf := hide hbf
          go_wp2_with (first
            | (refine hCc.out.mono ?_; rintro e w5 ⟨v5, rfl, rfl, hjj, hI5⟩; have hR5 := (I.out.R hI5).1; have hj5 := (I.out.R hI5).2.1; replace hI5 := hide hI5; replace hR5 := hide hR5; clear hCc)
            | (go_at_call 86; refine (ntake_yes fin hR5.out hs4 hj5 rfl hf0 hbf.out).mono ?_; rintro e w6 ⟨rfl, hf6, h6⟩; have I6 := I.out.K hI5.out h6 hf6 hlt2 (by omega); replace I6 := hide I6; clear hf6 h6))
          try go_ret
          rw [hPOST.out, hr.out]
          exact ⟨_, rfl, rfl, I6.out⟩
        · rw [if_neg hbf] at hr
          by_cases hb44 : bt s j2 = 44
          · rw [if_pos hb44] at hr
            replace hr := hide hr
            have hlt2 : j2 + 1 ≤ s.size := bt_pos (s := s) (i := j2) (by omega)
            replace hbf := hide hbf
            replace hb44 := hide hb44
            go_wp2_with (first
              | (refine hCc.out.mono ?_; rintro e w5 ⟨v5, rfl, rfl, hjj, hI5⟩; have hR5 := (I.out.R hI5).1; have hj5 := (I.out.R hI5).2.1; replace hI5 := hide hI5; replace hR5 := hide hR5; clear hCc)
              | (go_at_call 86; refine (ntake_no fin hR5.out hs4 hj5 rfl hf0 hbf.out).mono ?_; rintro e w6 ⟨rfl, hf6, h6⟩; have I6 := I.out.K hI5.out h6 hf6 hj5 (Nat.le_refl _); have hR6 := (I.out.R I6).1; replace I6 := hide I6; replace hR6 := hide hR6; clear hf6 h6 hR5)
              | (go_at_call 86; refine (ntake_yes 44 hR6.out hs4 hj5 rfl (by decide) hb44.out).mono ?_; rintro e w7 ⟨rfl, hf7, h7⟩; have I7 := I.out.K I6.out h7 hf7 hlt2 (by omega); replace I7 := hide I7; clear hf7 h7))
            go_roundg (s.size + 1 - (j2 + 1))
            case measure => omega
            case rel => exact ⟨n', σ2, j2 + 1, I7.out, Nat.le_refl _, by omega, hr.out⟩
          · rw [if_neg hb44] at hr
            replace hr := hide hr
            replace hbf := hide hbf
            replace hb44 := hide hb44
            go_wp2_with (first
              | (refine hCc.out.mono ?_; rintro e w5 ⟨v5, rfl, rfl, hjj, hI5⟩; have hR5 := (I.out.R hI5).1; have hj5 := (I.out.R hI5).2.1; replace hI5 := hide hI5; replace hR5 := hide hR5; clear hCc)
              | (go_at_call 86; refine (ntake_no fin hR5.out hs4 hj5 rfl hf0 hbf.out).mono ?_; rintro e w6 ⟨rfl, hf6, h6⟩; have I6 := I.out.K hI5.out h6 hf6 hj5 (Nat.le_refl _); have hR6 := (I.out.R I6).1; replace I6 := hide I6; replace hR6 := hide hR6; clear hf6 h6 hR5)
              | (go_at_call 86; refine (ntake_no 44 hR6.out hs4 hj5 rfl (by decide) hb44.out).mono ?_; rintro e w7 ⟨rfl, hf7, h7⟩; have I7 := I.out.K I6.out h7 hf7 hj5 (Nat.le_refl _); have e7 := (I.out.R I7).2.2; replace I7 := hide I7; clear hf7 h7))
            try go_ret
            rw [hPOST.out, hr.out]
            exact ⟨_, rfl, ⟨_, _, rfl⟩, I.out.B I7.out⟩
end Go.Proofs.YthndngbnioacpaaGreatDoor
namespace Go.Proofs.YthndngbnioacpaaGreatDoor
open Go.RowKit
def DatN (w0 : World) (P : Nat → Prop) (ss : ByteArray) (ds : List PD) (sv rv : Value) (xs : List Value) (s : ByteArray) (nt : TypeId) (nx : Value) (br f : Nat) (t : PT) (j : Nat) : Prop :=
  ∀ (w : World) (v : Value), NC w0 P ss ds sv rv xs s nt nx br j w → TyV w P t v →
    Calls Tryz.prog 82 #[.pointer (some ⟨br, 0, none⟩), v] w (NPost w sv rv s nt nx br ((rdT s (envOf ds) true f t j).map Prod.snd))
def stepL (R : Nat → Option (DT × Nat)) (n j : Nat) : Option (Nat × Nat) := (R j).map (fun q => (n + 1, q.2))
theorem items_list (R : Nat → Option (DT × Nat)) (s : ByteArray) (fin : Nat) : ∀ n k j last, (itemsP (stepL R) s fin n k j).map Prod.snd = (rdItems R s fin false n last j).map Prod.snd := by
  intro n
  induction n with
  | zero => intro k j last; rfl
  | succ n ih =>
    intro k j last
    rw [itemsP, rdItems]
    simp only [rdKey, Bool.false_eq_true, if_false, stepL]
    cases R j with
    | none => rfl
    | some q =>
      obtain ⟨d, j'⟩ := q
      simp only [Option.map_some]
      split
      · rfl
      · split
        · rw [ih (k + 1) (j' + 1) (some noB)]
          cases rdItems R s fin false n (some noB) (j' + 1) with
          | none => rfl
          | some q => rfl
        · rfl
theorem list_wrap (R : Nat → Option (DT × Nat)) (s : ByteArray) (i : Nat) : (listP (stepL R) s 91 93 0 i).map Prod.snd = (rdWrap R s 91 i).map Prod.snd := by
  unfold listP rdWrap rdList
  split
  · rw [show closing 91 = 93 from rfl, show ((91 : Nat) == 123) = false from rfl]
    split
    · rfl
    · rw [items_list R s 93 _ 0 (i + 1) none]
      cases rdItems R s 93 false (s.size + 2) none (i + 1) with
      | none => rfl
      | some q => rfl
  · rfl
structure LI (w0 w : World) (P : Nat → Prop) (ss : ByteArray) (ds : List PD) (sv rv : Value) (xs : List Value) (s : ByteArray) (nt : TypeId) (nx : Value) (br i : Nat) (t : PT) (p : Int) (v : Value) (n j : Nat) (W : World) : Prop where
  M : NC w0 P ss ds sv rv xs s nt nx br j W
  fr : Fr w W (· = br)
  lt : br < w.heap.size
  hB : w.heap.size + 3 ≤ W.heap.size
  b2 : Blk W w.heap.size [.pointer (some ⟨br, 0, none⟩)] 191
  b3 : Blk W (w.heap.size + 1) [.int .i64 p, v] 143
  ty : TyV W P t v
  c : i + n < j
  row : ∃ lv ys, Blk W (w.heap.size + 2) [lv] 219 ∧ W.ownsRow (w.heap.size + 3) 102 1 lv n ys
section
variable {w0 w : World} {P : Nat → Prop} {ss : ByteArray} {ds : List PD} {sv rv : Value} {xs : List Value} {s : ByteArray} {nt : TypeId} {nx : Value} {br i : Nat} {t : PT} {p : Int} {v : Value} {n j j' : Nat} {W W' : World}
theorem LI.call (L : LI w0 w P ss ds sv rv xs s nt nx br i t p v n j W) (h : RdAt W' br sv rv s j' false) (hf : Fr W W' (· = br)) (hj : j' ≤ s.size) (hc : i + n < j') : LI w0 w P ss ds sv rv xs s nt nx br i t p v n j' W' := by
  have h1 := L.lt
  obtain ⟨lv, ys, r1, r2⟩ := L.row
  exact ⟨L.M.call h hf hj, L.fr.trans hf (fun _ _ e => e), L.lt, Nat.le_trans L.hB hf.size, hf.blk L.b2 (by omega), hf.blk L.b3 (by omega), L.ty.fr hf (fun g hg e => L.M.brP (e ▸ hg)), hc, lv, ys, hf.blk r1 (by omega), ownsRow_fr r2 hf (fun g hg e => by have := r2.lt g hg; omega)⟩
end
def BadL (w : World) (sv rv : Value) (s : ByteArray) (nt : TypeId) (nx : Value) (br : Nat) (ev : Value) (W : World) : Prop :=
  Fr w W (· = br) ∧ ErrD W w.heap.size nt nx ev ∧ ∃ j, RdAt W br sv rv s j false ∧ j ≤ s.size
theorem u_DList : Tryz.prog.underlying 219 = some (.slice 102) := by kernel_rfl
theorem i_Datum2 : (Tryz.prog.info? 102).map (fun i => (i.zero, i.size, i.bytes)) = some (some .nilIface, 1, 16) := by kernel_rfl
set_option maxHeartbeats 8000000 in
set_option maxRecDepth 100000 in
theorem nlist1_any {w0 w : World} {P : Nat → Prop} {ss : ByteArray} {ds : List PD} {sv rv : Value} {xs : List Value} {s : ByteArray} {nt : TypeId} {nx : Value} {br i : Nat} {t : PT} {p : Int} {vT : TypeId} {vx : Value} {n j f : Nat} {W : World} (L : LI w0 w P ss ds sv rv xs s nt nx br i t p (.iface vT vx) n j W) (hI : ItoaOK w0) (hR : DatN w0 P ss ds sv rv xs s nt nx br f t j) (hgo : ∀ d j', rdT s (envOf ds) true f t j = some (d, j') → j < j') :
    Calls Tryz.prog 100 #[.pointer (some ⟨w.heap.size, 0, none⟩), .pointer (some ⟨w.heap.size + 1, 0, none⟩), .pointer (some ⟨w.heap.size + 2, 0, none⟩)] W fun e W' => ∃ v, e = .returned v ∧ match stepL (rdT s (envOf ds) true f t) n j with | some (n', j') => v = .nilIface ∧ j < j' ∧ LI w0 w P ss ds sv rv xs s nt nx br i t p (.iface vT vx) n' j' W' | none => (∃ T x, v = .iface T x) ∧ BadL w sv rv s nt nx br v W' := by
  obtain ⟨POST, hPOST⟩ : ∃ Q, Hid (Q = fun (e : Ending) (W' : World) => ∃ v, e = .returned v ∧ match stepL (rdT s (envOf ds) true f t) n j with | some (n', j') => v = .nilIface ∧ j < j' ∧ LI w0 w P ss ds sv rv xs s nt nx br i t p (.iface vT vx) n' j' W' | none => (∃ T x, v = .iface T x) ∧ BadL w sv rv s nt nx br v W') := ⟨_, rfl⟩
  rw [← hPOST.out]
  have hC := hide (hR W _ L.M L.ty)
  have c20 := L.b2.cell 0
  have c31 := L.b3.cell 1
  simp only [List.getElem?_cons_zero, List.getElem?_cons_succ] at c20 c31
  have hjs := L.M.il
  have hs3 := L.M.hs
  have hcn := L.c
  have hlt := L.lt
  replace L := hide L
  cases hp : rdT s (envOf ds) true f t j with
  | none =>
    have hst := hide (show stepL (rdT s (envOf ds) true f t) n j = none by unfold stepL; rw [hp]; rfl)
    replace hp := hide hp
    go_enter Tryz.func100, Tryz.ntmps100
    go_wp2_with (first
      | (go_at_call 82; refine hC.out.mono ?_; rintro e w1 ⟨v1, ev1, rfl, hf1, hm⟩; rw [hp.out] at hm; obtain ⟨rfl, hErr, j1, h1, hj1⟩ := hm; obtain ⟨eT, ex, rfl⟩ := hErr.iface; have G1 := (L.out.M.call h1 hf1 hj1).G; obtain ⟨lv, ys, r1, r2⟩ := L.out.row; obtain ⟨la, lc, rfl⟩ := own_sl r2; have k0 := (hf1.blk r1 (by omega)).cell 0; simp only [List.getElem?_cons_zero] at k0; replace hf1 := hide hf1; replace hErr := hide hErr; replace h1 := hide h1; replace G1 := hide G1; clear r1 r2)
      | (go_at_call 101; refine (inItem_any (n := n) hI G1.out (by omega)).mono ?_; intro e w2 hW; obtain ⟨g2, tx2, rfl, hg2, hb2, hf2⟩ := hW; replace hf2 := hide hf2; replace hb2 := hide hb2))
    try go_ret
    rw [hPOST.out]
    refine ⟨_, rfl, ?_⟩
    rw [hst.out]
    have hs1 := (L.out.fr.trans hf1.out (fun _ _ e => e)).size
    have hsW := L.out.fr.size
    exact ⟨⟨_, _, rfl⟩, (L.out.fr.trans hf1.out (fun _ _ e => e)).trans hf2.out (fun _ _ f => f.elim), .within g2 (by omega) tx2 hb2.out ((hErr.out.less hsW).fr hf2.out (fun _ _ f => f)), j1, hf2.out.blk h1.out id, hj1⟩
  | some q =>
    obtain ⟨d, j2⟩ := q
    have hj2 := hgo d j2 hp
    have hst := hide (show stepL (rdT s (envOf ds) true f t) n j = some (n + 1, j2) by unfold stepL; rw [hp]; rfl)
    replace hp := hide hp
    obtain ⟨ti, hi1, hi2, hi3, hi4⟩ := info_parts i_Datum2
    go_enter Tryz.func100, Tryz.ntmps100
    go_wp2_with (first
      | (go_at_call 82; refine hC.out.mono ?_; rintro e w1 ⟨v1, ev1, rfl, hf1, hm⟩; rw [hp.out] at hm; obtain ⟨rfl, ⟨dT, dx, rfl⟩, h1, hj1⟩ := hm; have L1 := L.out.call h1 hf1 hj1 (by omega); obtain ⟨lv, ys, r1, r2⟩ := L1.row; obtain ⟨la, lc, rfl⟩ := own_sl r2; have k0 := r1.cell 0; have kg := r1.thaw 0; simp only [List.getElem?_cons_zero] at k0; have hB1 := L1.hB; replace L1 := hide L1; replace r1 := hide r1; replace r2 := hide r2; clear hf1 h1)
      | (at_builtin; go_must (refine wpList_append_own_at _ rfl _ _ 219 rfl (w.heap.size + 3) 102 ti _ 1 16 u_DList hi1 hi2 hi3 hi4 rfl (by decide) (.slice la n lc) n ys rfl ?hown _ 1 1 [.iface dT dx] rfl rfl (news_new _ #[.iface dT dx] _ _ ?nn) ?one ?b1 ?b2 ?b3 ?_)
         case hown => exact World.ownsRow.alloc r2.out _
         case nn => simp
         case one => simp [Value.oneCell']
         case b1 => unfold maxLen; omega
         case b2 => omega
         case b3 => simp; omega
         intro v5 w5 ho5 hg5 hn5 hl5
         have hF5 : Fr w1 w5 (fun g => (Value.slice la n lc).ownBlock = some g) := Fr.grown ((Fr.refl w1 _).alloc _) hg5 (fun k e _ => e)
         have e5 := (hF5.blk r1.out (fun e => by have := r2.out.lt _ e; omega)).cell 0
         have f5 := (hF5.blk r1.out (fun e => by have := r2.out.lt _ e; omega)).thaw 0
         have R5 := hF5.blk r1.out (fun e => by have := r2.out.lt _ e; omega)
         simp only [List.getElem?_cons_zero] at e5
         have hn5' : ∀ g, v5.ownBlock = some g → w.heap.size + 3 ≤ g := (fun g hg => (ho5.lt g hg).1)
         obtain ⟨g5, cap5, rfl⟩ := own_form ho5 (by omega)
         replace hF5 := hide hF5
         replace ho5 := hide ho5
         replace R5 := hide R5
         replace hn5' := hide hn5'
         clear hg5 hl5 hn5))
    try go_ret
    rw [hPOST.out]
    refine ⟨_, rfl, ?_⟩
    rw [hst.out]
    refine ⟨rfl, hj2, ?_⟩
    have hG : Fr w5 (w5.setCell ⟨w.heap.size + 2, 0, none⟩ (.slice (some ⟨g5, 0, none⟩) (n + 1) cap5)) (fun g => g = w.heap.size + 2) := (Fr.refl w5 (fun g => g = w.heap.size + 2)).setCell ⟨w.heap.size + 2, 0, none⟩ _ (fun _ => rfl)
    have hH : Fr w1 (w5.setCell ⟨w.heap.size + 2, 0, none⟩ (.slice (some ⟨g5, 0, none⟩) (n + 1) cap5)) (fun g => w.heap.size + 2 ≤ g) := (hF5.out.mono (fun g _ e => by have := r2.out.lt g e; omega)).trans hG (fun g _ e => by omega)
    have hM1 := L1.out.M
    have hbG := hM1.brG
    have hl1 := L1.out.lt
    have hPl : ∀ g, P g → ¬ (w.heap.size + 2 ≤ g) := fun g hg => by have := hM1.Pbr g hg; omega
    exact ⟨⟨hH.blk hM1.R (by omega), hM1.D.fr hH hPl, hM1.G.fr hH (by have := hM1.lt; omega) (fun g e => by omega), hM1.E, hM1.Pbr, hM1.brG, hM1.hs, hM1.il⟩, L1.out.fr.trans hH (fun g hg e => by omega), L1.out.lt, Nat.le_trans L1.out.hB hH.size, hH.blk L1.out.b2 (by omega), hH.blk L1.out.b3 (by omega), L1.out.ty.fr hH hPl, by omega, _, _, R5.out.set 0 _, ownsRow_fr ho5.out hG (fun g hg e => by have := hn5'.out g hg; omega)⟩
end Go.Proofs.YthndngbnioacpaaGreatDoor
namespace Go.Proofs.YthndngbnioacpaaGreatDoor
open Go.RowKit
theorem li_start {w0 w : World} {P : Nat → Prop} {ss : ByteArray} {ds : List PD} {sv rv : Value} {xs : List Value} {s : ByteArray} {nt : TypeId} {nx : Value} {br i : Nat} {t : PT} {p : Int} {vT : TypeId} {vx : Value} (M : NC w0 P ss ds sv rv xs s nt nx br i w) (hT : TyV w P t (.iface vT vx)) {W' : World} (h : RdAt W' br sv rv s (i + 1) false) (hf : Fr (((w.alloc (.cells #[.pointer (some ⟨br, 0, none⟩)] 191)).alloc (.cells #[.int .i64 p, .iface vT vx] 143)).alloc (.cells #[.slice none 0 0] 219)) W' (· = br)) (hi : i + 1 ≤ s.size) :
    LI w0 w P ss ds sv rv xs s nt nx br i t p (.iface vT vx) 0 (i + 1) W' := by
  have hbl := M.lt
  have A : Fr w (((w.alloc (.cells #[.pointer (some ⟨br, 0, none⟩)] 191)).alloc (.cells #[.int .i64 p, .iface vT vx] 143)).alloc (.cells #[.slice none 0 0] 219)) (fun _ => False) := (((Fr.refl w _).alloc _).alloc _).alloc _
  have hz : (((w.alloc (.cells #[.pointer (some ⟨br, 0, none⟩)] 191)).alloc (.cells #[.int .i64 p, .iface vT vx] 143)).alloc (.cells #[.slice none 0 0] 219)).heap.size = w.heap.size + 3 := by simp
  have z1 : (w.alloc (.cells #[.pointer (some ⟨br, 0, none⟩)] 191)).heap.size = w.heap.size + 1 := by simp
  have z2 : ((w.alloc (.cells #[.pointer (some ⟨br, 0, none⟩)] 191)).alloc (.cells #[.int .i64 p, .iface vT vx] 143)).heap.size = w.heap.size + 2 := by simp
  have B2 := ((Blk.new w #[.pointer (some ⟨br, 0, none⟩)] 191).alloc (.cells #[.int .i64 p, .iface vT vx] 143)).alloc (.cells #[.slice none 0 0] 219)
  have B3 := (Blk.new (w.alloc (.cells #[.pointer (some ⟨br, 0, none⟩)] 191)) #[.int .i64 p, .iface vT vx] 143).alloc (.cells #[.slice none 0 0] 219)
  have B6 := Blk.new ((w.alloc (.cells #[.pointer (some ⟨br, 0, none⟩)] 191)).alloc (.cells #[.int .i64 p, .iface vT vx] 143)) #[.slice none 0 0] 219
  rw [z1] at B3
  rw [z2] at B6
  have hsz := hf.size
  exact ⟨(M.new A).call h hf hi, (A.mono (fun _ _ f => f.elim)).trans hf (fun _ _ e => e), hbl, by omega, hf.blk B2 (by omega), hf.blk B3 (by omega), (hT.fr A (fun _ _ f => f)).fr hf (fun g hg e => M.brP (e ▸ hg)), by omega, _, _, hf.blk B6 (by omega), World.ownsRow_nil _ _ _ _⟩
set_option maxHeartbeats 8000000 in
set_option maxRecDepth 100000 in
theorem nlist_any {w0 w : World} {P : Nat → Prop} {ss : ByteArray} {ds : List PD} {sv rv : Value} {xs : List Value} {s : ByteArray} {nt : TypeId} {nx : Value} {br i : Nat} {t : PT} {p : Int} {vT : TypeId} {vx : Value} {f : Nat} (M : NC w0 P ss ds sv rv xs s nt nx br i w) (hT : TyV w P t (.iface vT vx)) (hI : ItoaOK w0) (hR : ∀ j, i < j → j ≤ s.size → DatN w0 P ss ds sv rv xs s nt nx br f t j) :
    Calls Tryz.prog 90 #[.pointer (some ⟨br, 0, none⟩), .agg #[.int .i64 p, .iface vT vx]] w (NPost w sv rv s nt nx br ((rdWrap (rdT s (envOf ds) true f t) s 91 i).map Prod.snd)) := by
  obtain ⟨POST, hPOST⟩ : ∃ Q, Hid (Q = NPost w sv rv s nt nx br ((rdWrap (rdT s (envOf ds) true f t) s 91 i).map Prod.snd)) := ⟨_, rfl⟩
  rw [← hPOST.out]
  have hs4 : s.size ≤ 4000 := by have := M.hs; omega
  have A : Fr w (((w.alloc (.cells #[.pointer (some ⟨br, 0, none⟩)] 191)).alloc (.cells #[.int .i64 p, .iface vT vx] 143)).alloc (.cells #[.slice none 0 0] 219)) (fun _ => False) := (((Fr.refl w _).alloc _).alloc _).alloc _
  have hgo := rdT_goes s (envOf ds) true f t
  have IT : ItemOK sv rv s nt nx br 100 #[.pointer (some ⟨w.heap.size, 0, none⟩), .pointer (some ⟨w.heap.size + 1, 0, none⟩), .pointer (some ⟨w.heap.size + 2, 0, none⟩)] (stepL (rdT s (envOf ds) true f t)) (fun n j W => LI w0 w P ss ds sv rv xs s nt nx br i t p (.iface vT vx) n j W) (BadL w sv rv s nt nx br) :=
    { F := fun W => by kernel_rfl
      R := fun h => ⟨h.M.R, h.M.il, h.M.e⟩
      K := fun h h1 h2 h3 h4 => h.call h1 h2 h3 (by have := h.c; omega)
      B := fun h => ⟨h.fr, .base, _, h.M.R, h.M.il⟩
      C := fun {n j W} h => (nlist1_any h hI (hR j (by have := h.c; omega) h.M.il) (fun d j' e => (hgo j d j' e).1)).mono (by
        rintro e W' ⟨v, he, hm⟩
        refine ⟨v, he, ?_⟩
        cases hq : stepL (rdT s (envOf ds) true f t) n j with
        | none => rw [hq] at hm; exact hm
        | some q => obtain ⟨a, b⟩ := q; rw [hq] at hm; exact hm) }
  have hC := hide (nitems_any IT (w := (((w.alloc (.cells #[.pointer (some ⟨br, 0, none⟩)] 191)).alloc (.cells #[.int .i64 p, .iface vT vx] 143)).alloc (.cells #[.slice none 0 0] 219))) (σ := (0 : Nat)) (i := i) (co := 91) (cf := 93) 91 93 (A.blk M.R id) M.il (fun W' h hf hi => li_start M hT h hf hi) (fun W' h hf => ⟨⟨(A.mono (fun _ _ f => f.elim)).trans hf (fun _ _ e => e), .base, i, h, M.il⟩, ((M.new A).call h hf M.il).e⟩) hs4 rfl rfl (by decide) (by decide))
  have hres := hide (list_wrap (rdT s (envOf ds) true f t) s i)
  clear IT A hgo hT hR hI M
  cases hp : listP (stepL (rdT s (envOf ds) true f t)) s 91 93 0 i with
  | none =>
    rw [hp] at hres
    replace hp := hide hp
    go_enter Tryz.func90, Tryz.ntmps90
    go_wp2_with (go_at_call 99; refine hC.out.mono ?_; rintro e w2 ⟨v2, rfl, hm⟩; rw [hp.out] at hm; obtain ⟨⟨eT, ex, rfl⟩, hB⟩ := hm; replace hB := hide hB)
    try go_ret
    rw [hPOST.out, ← hres.out]
    obtain ⟨h1, h2, h3⟩ := hB.out
    exact ⟨.nilIface, _, rfl, h1, rfl, h2, h3⟩
  | some q =>
    obtain ⟨n2, j2⟩ := q
    rw [hp] at hres
    replace hp := hide hp
    go_enter Tryz.func90, Tryz.ntmps90
    go_wp2_with (go_at_call 99; refine hC.out.mono ?_; rintro e w2 ⟨v2, rfl, hm⟩; rw [hp.out] at hm; obtain ⟨rfl, hL⟩ := hm; obtain ⟨lv, ys, r1, r2⟩ := hL.row; obtain ⟨la, lc, rfl⟩ := own_sl r2; have k0 := r1.cell 0; simp only [List.getElem?_cons_zero] at k0; replace hL := hide hL; clear r1 r2)
    try go_ret
    rw [hPOST.out, ← hres.out]
    exact nok hL.out.fr hL.out.M.R hL.out.M.il
end Go.Proofs.YthndngbnioacpaaGreatDoor
namespace Go.Proofs.YthndngbnioacpaaGreatDoor
open Go.RowKit
def stepR (R : PT → Nat → Option (DT × Nat)) (fs : List PF) (n j : Nat) : Option (Nat × Nat) :=
  match fs[n]? with | none => none | some g => (R g.ty j).map (fun q => (n + 1, q.2))
def closeN (len : Nat) : Option (Nat × Nat) → Option Nat
  | none => none
  | some (n, j) => if n < len then none else some j
def closeF (s : ByteArray) : Option (List DT × Nat) → Option Nat
  | none => none
  | some (_, e) => if bt s e = 41 then some (e + 1) else none
theorem items_fields (R : PT → Nat → Option (DT × Nat)) (s : ByteArray) (fs : List PF) (hgo : ∀ t, Goes s (R t)) : ∀ N k j, k < fs.length → j ≤ s.size → s.size + 1 - j ≤ N →
    closeN fs.length (itemsP (stepR R fs) s 41 N k j) = closeF s (rdFields R s true ((fs.drop k).map PF.ty) j) := by
  intro N
  induction N with
  | zero => intro k j _ hj hN; omega
  | succ N ih =>
    intro k j hk hj hN
    rw [itemsP, List.drop_eq_getElem_cons hk, List.map_cons, rdFields, if_pos rfl]
    simp only [stepR, List.getElem?_eq_getElem hk]
    cases hR : R (fs[k]).ty j with
    | none => rfl
    | some q =>
      obtain ⟨d, j'⟩ := q
      have hj' := hgo _ j d j' hR
      simp only [Option.map_some]
      by_cases h41 : bt s j' = 41
      · rw [if_pos h41]
        by_cases hk1 : k + 1 < fs.length
        · rw [List.drop_eq_getElem_cons hk1, List.map_cons, rdFields]
          simp only [Bool.false_eq_true, if_false]
          rw [if_neg (by omega)]
          simp only [closeN, closeF]
          rw [if_pos hk1]
        · rw [List.drop_eq_nil_of_le (by omega), List.map_nil, rdFields]
          simp only [closeN, closeF]
          rw [if_neg (by omega), if_pos h41]
      · rw [if_neg h41]
        by_cases h44 : bt s j' = 44
        · rw [if_pos h44]
          have hlt := bt_pos (s := s) (i := j') (by omega)
          by_cases hk1 : k + 1 < fs.length
          · have := ih (k + 1) (j' + 1) hk1 hlt (by omega)
            rw [this]
            rw [List.drop_eq_getElem_cons hk1, List.map_cons, rdFields, rdFields, if_pos rfl]
            simp only [Bool.false_eq_true, if_false]
            rw [if_pos h44]
            cases R (fs[k + 1]).ty (j' + 1) with
            | none => rfl
            | some q =>
              obtain ⟨d2, j2⟩ := q
              simp only
              cases rdFields R s false ((fs.drop (k + 1 + 1)).map PF.ty) j2 with
              | none => rfl
              | some q => rfl
          · rw [List.drop_eq_nil_of_le (by omega), List.map_nil, rdFields]
            have hn : itemsP (stepR R fs) s 41 N (k + 1) (j' + 1) = none := by
              cases N with
              | zero => rfl
              | succ N => rw [itemsP]; simp only [stepR]; rw [List.getElem?_eq_none (by omega)]
            rw [hn]
            simp only [closeN, closeF]
            rw [if_neg h41]
        · rw [if_neg h44]
          by_cases hk1 : k + 1 < fs.length
          · rw [List.drop_eq_getElem_cons hk1, List.map_cons, rdFields]
            simp only [Bool.false_eq_true, if_false]
            rw [if_neg h44]
            rfl
          · rw [List.drop_eq_nil_of_le (by omega), List.map_nil, rdFields]
            simp only [closeN, closeF]
            rw [if_neg h41]
def smEnv (env : Nat → Option PB) : Prop := ∀ c l o, env c = some (.enum l o) → ∀ q ∈ l, isSmall q.1 = true
theorem rdT_41 {s : ByteArray} {env : Nat → Option PB} (hsm : smEnv env) {i : Nat} (h : bt s i = 41) : ∀ (f : Nat) (t : PT), okT env t → rdT s env true f t i = none := by
  intro f
  induction f with
  | zero => intro t _; rfl
  | succ f ih =>
    intro t ht
    cases t with
    | leaf c p =>
      rw [rdT]
      unfold rdLeaf
      split
      · rw [if_neg (by omega)]
      · split
        · rw [if_neg (by omega), if_neg (by omega)]
        · split
          · have hno : rdNum s c i = none := by
              unfold rdNum
              rw [if_neg]
              intro hq
              have hz : (numTx s i).size = 0 := by
                unfold numTx numEnd
                have hsg : sgn s i = i := by unfold sgn; rw [if_neg (by omega)]
                rw [hsg, runEnd_off (by omega), ByteArray.size_extract]
                omega
              exact absurd hq.1 (by omega)
            rw [hno]
          · split
            · rw [if_neg (by omega)]
            · cases he : env c with
              | none => rfl
              | some pb =>
                simp only
                unfold rdNamed
                cases pb with
                | recd fs => simp only; rw [if_neg (by omega)]
                | enum l o =>
                  simp only
                  split
                  · have : (l.map Prod.fst).findIdx? (fun c => c == bt s i) = none := by
                      rw [List.findIdx?_eq_none_iff]
                      intro x hx
                      obtain ⟨q, hq, rfl⟩ := List.mem_map.1 hx
                      have := hsm c l o he q hq
                      obtain ⟨k, hk, _⟩ := small_k this
                      rw [h, beq_eq_false_iff_ne]
                      omega
                    rw [this]
                  · rfl
                | bytes n => simp only; rw [if_neg (by omega)]
    | wrap c p t =>
      unfold okT at ht
      rw [rdT]
      unfold rdWrap
      rw [if_neg (by omega)]
    | alts p ts =>
      rw [rdT]
      unfold rdBranch
      rw [if_pos rfl]
      cases ts with
      | nil => rfl
      | cons t r =>
        simp only
        have ht' : okT env t := by
          unfold okT at ht
          have h2 := ht.2
          unfold okTs at h2
          exact h2.2.1
        rw [ih t ht']
end Go.Proofs.YthndngbnioacpaaGreatDoor
