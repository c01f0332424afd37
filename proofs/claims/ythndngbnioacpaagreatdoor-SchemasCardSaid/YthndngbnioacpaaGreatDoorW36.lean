import Derived.Test.YthndngbnioacpaaGreatDoorW35
namespace Go.Proofs.YthndngbnioacpaaGreatDoor
open Go.RowKit
theorem less_total : ∀ (a b : List UInt8), (Op.bytesLess a b || a == b) = !Op.bytesLess b a := by
  intro a
  induction a with
  | nil => intro b; cases b <;> rfl
  | cons x xs ih =>
    intro b
    cases b with
    | nil => rfl
    | cons y ys =>
      simp only [Op.bytesLess, List.cons_beq_cons]
      have h := ih ys
      by_cases h1 : x < y
      · have h2 : ¬ y < x := by simp only [UInt8.lt_iff_toNat_lt] at h1 ⊢; omega
        have h3 : ¬ y = x := fun e => by subst e; simp only [UInt8.lt_iff_toNat_lt] at h1; omega
        simp [h1, h2, h3]
      · by_cases h2 : x = y
        · subst h2
          simp [h1, h]
        · have h3 : y < x := by
            have : x.toNat ≠ y.toNat := fun e => h2 (UInt8.toNat_inj.1 e)
            simp only [UInt8.lt_iff_toNat_lt] at h1 ⊢; omega
          simp [h1, h2, h3]
def stepM (R : Nat → Option (DT × Nat)) (s : ByteArray) (σ : Nat × Option ByteArray) (j : Nat) : Option ((Nat × Option ByteArray) × Nat) :=
  match rdKey s true σ.2 j with
  | none => none
  | some (k, j1) => (R j1).map (fun q => ((σ.1 + 1, some k), q.2))
theorem items_map (R : Nat → Option (DT × Nat)) (s : ByteArray) (fin : Nat) : ∀ n k j last, (itemsP (stepM R s) s fin n (k, last) j).map Prod.snd = (rdItems R s fin true n last j).map Prod.snd := by
  intro n
  induction n with
  | zero => intro k j last; rfl
  | succ n ih =>
    intro k j last
    rw [itemsP, rdItems]
    simp only [stepM]
    cases rdKey s true last j with
    | none => rfl
    | some q =>
      obtain ⟨key, j1⟩ := q
      simp only
      cases R j1 with
      | none => rfl
      | some q =>
        obtain ⟨d, j'⟩ := q
        simp only [Option.map_some]
        split
        · rfl
        · split
          · rw [ih (k + 1) (j' + 1) (some key)]
            cases rdItems R s fin true n (some key) (j' + 1) with
            | none => rfl
            | some q => rfl
          · rfl
theorem map_wrap (R : Nat → Option (DT × Nat)) (s : ByteArray) (i : Nat) : (listP (stepM R s) s 123 125 (0, none) i).map Prod.snd = (rdWrap R s 123 i).map Prod.snd := by
  unfold listP rdWrap rdList
  split
  · rw [show closing 123 = 125 from rfl, show ((123 : Nat) == 123) = true from rfl]
    split
    · rfl
    · rw [items_map R s 125 _ 0 (i + 1) none]
      cases rdItems R s 125 true (s.size + 2) none (i + 1) with
      | none => rfl
      | some q => rfl
  · rfl
structure MI (w0 w : World) (P : Nat → Prop) (ss : ByteArray) (ds : List PD) (sv rv : Value) (xs : List Value) (s : ByteArray) (nt : TypeId) (nx : Value) (br i : Nat) (t : PT) (p : Int) (v : Value) (σ : Nat × Option ByteArray) (j : Nat) (W : World) : Prop where
  M : NC w0 P ss ds sv rv xs s nt nx br j W
  fr : Fr w W (· = br)
  lt : br < w.heap.size
  hB : w.heap.size + 3 ≤ W.heap.size
  b2 : Blk W w.heap.size [.pointer (some ⟨br, 0, none⟩)] 191
  b3 : Blk W (w.heap.size + 1) [.int .i64 p, v] 144
  ty : TyV W P t v
  c : i + σ.1 < j
  row : ∃ lv ys, Blk W (w.heap.size + 2) [lv] 223 ∧ W.ownsRow (w.heap.size + 3) 226 2 lv σ.1 ys ∧ match σ.2 with | none => σ.1 = 0 | some lk => ∃ m, σ.1 = m + 1 ∧ ys[m * 2]? = some (.string lk)
section
variable {w0 w : World} {P : Nat → Prop} {ss : ByteArray} {ds : List PD} {sv rv : Value} {xs : List Value} {s : ByteArray} {nt : TypeId} {nx : Value} {br i : Nat} {t : PT} {p : Int} {v : Value} {σ : Nat × Option ByteArray} {j j' : Nat} {W W' : World}
theorem MI.call (L : MI w0 w P ss ds sv rv xs s nt nx br i t p v σ j W) (h : RdAt W' br sv rv s j' false) (hf : Fr W W' (· = br)) (hj : j' ≤ s.size) (hc : i + σ.1 < j') : MI w0 w P ss ds sv rv xs s nt nx br i t p v σ j' W' := by
  have h1 := L.lt
  obtain ⟨lv, ys, r1, r2, r3⟩ := L.row
  exact ⟨L.M.call h hf hj, L.fr.trans hf (fun _ _ e => e), L.lt, Nat.le_trans L.hB hf.size, hf.blk L.b2 (by omega), hf.blk L.b3 (by omega), L.ty.fr hf (fun g hg e => L.M.brP (e ▸ hg)), hc, lv, ys, hf.blk r1 (by omega), ownsRow_fr r2 hf (fun g hg e => by have := r2.lt g hg; omega), r3⟩
end
theorem u_DMap : Tryz.prog.underlying 223 = some (.slice 226) := by kernel_rfl
theorem i_Entry : (Tryz.prog.info? 226).map (fun i => (i.zero, i.size, i.bytes)) = some (some (.agg #[.string ⟨#[]⟩, .nilIface]), 2, 32) := by kernel_rfl
def M1Post (w0 w : World) (P : Nat → Prop) (ss : ByteArray) (ds : List PD) (sv rv : Value) (xs : List Value) (s : ByteArray) (nt : TypeId) (nx : Value) (br i : Nat) (t : PT) (p : Int) (v : Value) (R : Nat → Option (DT × Nat)) (σ : Nat × Option ByteArray) (j : Nat) (e : Ending) (W' : World) : Prop :=
  ∃ v1, e = .returned v1 ∧ match stepM R s σ j with | some (σ', j') => v1 = .nilIface ∧ j < j' ∧ MI w0 w P ss ds sv rv xs s nt nx br i t p v σ' j' W' | none => (∃ T x, v1 = .iface T x) ∧ BadL w sv rv s nt nx br v1 W'
set_option maxHeartbeats 16000000 in
set_option maxRecDepth 100000 in
theorem nmap1_any {w0 w : World} {P : Nat → Prop} {ss : ByteArray} {ds : List PD} {sv rv : Value} {xs : List Value} {s : ByteArray} {nt : TypeId} {nx : Value} {br i : Nat} {t : PT} {p : Int} {vT : TypeId} {vx : Value} {n j f : Nat} {last : Option ByteArray} {W : World} (L : MI w0 w P ss ds sv rv xs s nt nx br i t p (.iface vT vx) (n, last) j W) (hI : QuoteOK w0) (hR : ∀ j', j < j' → j' ≤ s.size → DatN w0 P ss ds sv rv xs s nt nx br f t j') (hgo : ∀ j d j', rdT s (envOf ds) true f t j = some (d, j') → j < j') :
    Calls Tryz.prog 102 #[.pointer (some ⟨w.heap.size, 0, none⟩), .pointer (some ⟨w.heap.size + 2, 0, none⟩), .pointer (some ⟨w.heap.size + 1, 0, none⟩)] W (M1Post w0 w P ss ds sv rv xs s nt nx br i t p (.iface vT vx) (rdT s (envOf ds) true f t) (n, last) j) := by
  obtain ⟨POST, hPOST⟩ : ∃ Q, Hid (Q = M1Post w0 w P ss ds sv rv xs s nt nx br i t p (.iface vT vx) (rdT s (envOf ds) true f t) (n, last) j) := ⟨_, rfl⟩
  rw [← hPOST.out]
  have c20 := L.b2.cell 0
  simp only [List.getElem?_cons_zero] at c20
  have hjs := L.M.il
  have hs3 := L.M.hs
  have hs4 : s.size ≤ 4000 := by omega
  have hcn : i + n < j := L.c
  have hlt := L.lt
  have hBW := L.hB
  have hle := letEnd_le hjs
  obtain ⟨e1, he1⟩ : ∃ e1, letEnd s j = e1 := ⟨_, rfl⟩
  rw [he1] at hle
  obtain ⟨key, hkey⟩ : ∃ k, s.extract j e1 = k := ⟨_, rfl⟩
  have hks : key.size ≤ 4000 := by rw [← hkey, ByteArray.size_extract]; omega
  have hrun := hide (show Calls Tryz.prog 103 #[.pointer (some ⟨br, 0, none⟩), .func (.func 104) #[] #[]] W fun e w' => e = .returned (.string key) ∧ Fr W w' (· = br) ∧ RdAt w' br sv rv s e1 false by
    have h := nrun_letters L.M.R hs4 hjs
    rw [show runEnd 97 122 s j = e1 from he1, hkey] at h
    exact h)
  have hrk : Hid (rdKey s true last j = if bt s e1 = 58 ∧ rises last key = true then some (key, e1 + 1) else none) := hide (by unfold rdKey; rw [if_pos rfl, he1, hkey])
  have hL1 : Hid (∀ w1, Fr W w1 (· = br) → RdAt w1 br sv rv s e1 false → MI w0 w P ss ds sv rv xs s nt nx br i t p (.iface vT vx) (n, last) e1 w1) := hide (fun w1 hf h => L.call h hf hle.2 (by show i + n < e1; omega))
  have hbad : Hid (stepM (rdT s (envOf ds) true f t) s (n, last) j = none → ∀ w1 j1, Fr W w1 (· = br) → RdAt w1 br sv rv s j1 false → j1 ≤ s.size → POST (.returned (.iface nt nx)) w1) := hide (fun hst w1 j1 hf h hj => by
    rw [hPOST.out]
    refine ⟨_, rfl, ?_⟩
    rw [hst]
    exact ⟨⟨_, _, rfl⟩, L.fr.trans hf (fun _ _ e => e), .base, j1, h, hj⟩)
  replace L := hide L
  clear he1 hkey
  by_cases hri : rises last key = true
  case neg =>
    have hst := hide (show stepM (rdT s (envOf ds) true f t) s (n, last) j = none by unfold stepM; simp only; rw [hrk.out, if_neg (fun h => hri h.2)])
    cases last with
    | none => exact absurd rfl hri
    | some lk =>
      have hless : (Op.bytesLess key.toList lk.toList || key.toList == lk.toList) = true := by
        rw [less_total]
        cases hb : Op.bytesLess lk.toList key.toList with
        | false => rfl
        | true => exact absurd hb hri
      obtain ⟨lv, ys, r1, r2, m, hm, hym⟩ := L.out.row
      have hm' : n = m + 1 := hm
      subst hm'
      obtain ⟨la, lc, rfl⟩ := own_sl r2
      obtain ⟨g, cap, hgc⟩ := own_form r2 (by simp)
      cases hgc
      have hwp : IntKind.i64.wrap (((m + 1 : Nat) : Int) - 1) = (m : Int) := by rw [IntKind.wrap_i64]; omega
      have hmp : (0 : Int) < ((m + 1 : Nat) : Int) := by omega
      have hfac : Hid (∀ w1, Fr W w1 (· = br) → w1.cell? ⟨w.heap.size + 2, 0, none⟩ = some (.slice (some ⟨g, 0, none⟩) (m + 1) lc) ∧ w1.cell? ⟨g, m * 2, none⟩ = some (.string lk)) := hide (fun w1 hf => ⟨by rw [(hf.blk r1 (by omega)).cell 0]; rfl, own_cell (ownsRow_fr r2 hf (fun g' hg e => by have := r2.lt g' hg; omega)) rfl hym⟩)
      clear r1 r2 hym hm hri hR hgo
      go_enter Tryz.func102, Tryz.ntmps102
      go_wp2_with (go_at_call 103; refine hrun.out.mono ?_; rintro e w1 ⟨rfl, hf1, h1⟩; obtain ⟨k0, k1⟩ := hfac.out w1 hf1; have e0 := (hL1.out w1 hf1 h1).M.e; replace hf1 := hide hf1; replace h1 := hide h1)
      try go_ret
      exact hbad.out hst.out w1 e1 hf1.out h1.out hle.2
  case pos =>
    cases last with
    | none =>
      obtain ⟨lv, ys, r1, r2, hm⟩ := L.out.row
      have hm' : n = 0 := hm
      subst hm'
      obtain ⟨la, lc, rfl⟩ := own_sl r2
      have hfac : Hid (∀ w1, Fr W w1 (· = br) → w1.cell? ⟨w.heap.size + 2, 0, none⟩ = some (.slice la 0 lc)) := hide (fun w1 hf => by rw [(hf.blk r1 (by omega)).cell 0]; rfl)
      clear r1 r2 hm
      by_cases h58 : bt s e1 = 58
      case neg =>
        have hst := hide (show stepM (rdT s (envOf ds) true f t) s (0, none) j = none by unfold stepM; simp only; rw [hrk.out, if_neg (fun h => h58 h.1)])
        replace h58 := hide h58
        clear hR hgo hri
        go_enter Tryz.func102, Tryz.ntmps102
        go_wp2_with (first
          | (go_at_call 103; refine hrun.out.mono ?_; rintro e w1 ⟨rfl, hf1, h1⟩; have k0 := hfac.out w1 hf1; have e0 := (hL1.out w1 hf1 h1).M.e; have b20 := (hL1.out w1 hf1 h1).b2.cell 0; simp only [List.getElem?_cons_zero] at b20; have L1 := hide (hL1.out w1 hf1 h1); replace hf1 := hide hf1; replace h1 := hide h1)
          | (go_at_call 86; refine (ntake_no 58 h1.out hs4 hle.2 rfl (by decide) h58.out).mono ?_; rintro e w2 ⟨rfl, hf2, h2⟩; have e2 := (L1.out.call h2 hf2 hle.2 L1.out.c).M.e; replace hf2 := hide hf2; replace h2 := hide h2))
        try go_ret
        exact hbad.out hst.out w2 e1 (hf1.out.trans hf2.out (fun _ _ e => e)) h2.out hle.2
      case pos =>
        have hlt2 : e1 + 1 ≤ s.size := bt_pos (s := s) (i := e1) (by omega)
        have hsm : stepM (rdT s (envOf ds) true f t) s (0, none) j = (rdT s (envOf ds) true f t (e1 + 1)).map (fun q => ((0 + 1, some key), q.2)) := by
          unfold stepM
          simp only
          rw [hrk.out, if_pos ⟨h58, hri⟩]
        replace h58 := hide h58
        cases hp : rdT s (envOf ds) true f t (e1 + 1) with
        | none =>
          have hst := hide (show stepM (rdT s (envOf ds) true f t) s (0, none) j = none by rw [hsm, hp]; rfl)
          replace hp := hide hp
          clear hsm hgo hri
          go_enter Tryz.func102, Tryz.ntmps102
          go_wp2_with (first
            | (go_at_call 103; refine hrun.out.mono ?_; rintro e w1 ⟨rfl, hf1, h1⟩; have k0 := hfac.out w1 hf1; have e0 := (hL1.out w1 hf1 h1).M.e; have b20 := (hL1.out w1 hf1 h1).b2.cell 0; simp only [List.getElem?_cons_zero] at b20; have L1 := hide (hL1.out w1 hf1 h1); replace hf1 := hide hf1; replace h1 := hide h1)
            | (go_at_call 86; refine (ntake_yes 58 h1.out hs4 hle.2 rfl (by decide) h58.out).mono ?_; rintro e w2 ⟨rfl, hf2, h2⟩; have L2 := L1.out.call h2 hf2 hlt2 (by have := L1.out.c; omega); have hC := hR (e1 + 1) (by omega) hlt2 w2 _ L2.M L2.ty; have d20 := L2.b2.cell 0; have d31 := L2.b3.cell 1; simp only [List.getElem?_cons_zero, List.getElem?_cons_succ] at d20 d31; replace hC := hide hC; replace L2 := hide L2; have F2 := hide (hf1.out.trans hf2 (fun _ _ e => e)); clear hf2 h2)
            | (go_at_call 82; refine hC.out.mono ?_; rintro e w3 ⟨v3, ev3, rfl, hf3, hm3⟩; rw [hp.out] at hm3; obtain ⟨rfl, hErr, j3, h3, hj3⟩ := hm3; obtain ⟨eT, ex, rfl⟩ := hErr.iface; have G3 := (L2.out.M.call h3 hf3 hj3).G; have F3 := hide (L2.out.fr.trans hf3 (fun _ _ e => e)); replace hErr := hide hErr; replace h3 := hide h3; replace G3 := hide G3; clear hf3)
            | (go_at_call 105; refine (inKey_any (k := key) hI G3.out hks).mono ?_; intro e w4 hW; obtain ⟨g4, tx4, rfl, hg4, hb4, hf4⟩ := hW; replace hf4 := hide hf4; replace hb4 := hide hb4))
          try go_ret
          rw [hPOST.out]
          refine ⟨_, rfl, ?_⟩
          rw [hst.out]
          have hs1 := F3.out.size
          have hsW := L2.out.fr.size
          exact ⟨⟨_, _, rfl⟩, F3.out.trans hf4.out (fun _ _ f => f.elim), .within g4 (by omega) tx4 hb4.out ((hErr.out.less hsW).fr hf4.out (fun _ _ f => f)), j3, hf4.out.blk h3.out id, hj3⟩
        | some q =>
          obtain ⟨d, j2⟩ := q
          have hj2 := hgo _ d j2 hp
          have hst := hide (show stepM (rdT s (envOf ds) true f t) s (0, none) j = some ((0 + 1, some key), j2) by rw [hsm, hp]; rfl)
          replace hp := hide hp
          obtain ⟨ti, hi1, hi2, hi3, hi4⟩ := info_parts i_Entry
          clear hsm hgo hri
          go_enter Tryz.func102, Tryz.ntmps102
          go_wp2_with (first
            | (go_at_call 103; refine hrun.out.mono ?_; rintro e w1 ⟨rfl, hf1, h1⟩; have k0 := hfac.out w1 hf1; have e0 := (hL1.out w1 hf1 h1).M.e; have b20 := (hL1.out w1 hf1 h1).b2.cell 0; simp only [List.getElem?_cons_zero] at b20; have L1 := hide (hL1.out w1 hf1 h1); replace hf1 := hide hf1; replace h1 := hide h1)
            | (go_at_call 86; refine (ntake_yes 58 h1.out hs4 hle.2 rfl (by decide) h58.out).mono ?_; rintro e w2 ⟨rfl, hf2, h2⟩; have L2 := L1.out.call h2 hf2 hlt2 (by have := L1.out.c; omega); have hC := hR (e1 + 1) (by omega) hlt2 w2 _ L2.M L2.ty; have d20 := L2.b2.cell 0; have d31 := L2.b3.cell 1; simp only [List.getElem?_cons_zero, List.getElem?_cons_succ] at d20 d31; replace hC := hide hC; replace L2 := hide L2; have F2 := hide (hf1.out.trans hf2 (fun _ _ e => e)); clear hf2 h2)
            | (go_at_call 82; refine hC.out.mono ?_; rintro e w3 ⟨v3, ev3, rfl, hf3, hm3⟩; rw [hp.out] at hm3; obtain ⟨rfl, ⟨dT, dx, rfl⟩, h3, hj3⟩ := hm3; have L3 := L2.out.call h3 hf3 hj3 (by have := L2.out.c; omega); obtain ⟨lv3, ys3, r1, r2, r3⟩ := L3.row; obtain ⟨la3, lc3, rfl⟩ := own_sl r2; have k3 := r1.cell 0; have kg := r1.thaw 0; simp only [List.getElem?_cons_zero] at k3; have hB3 := L3.hB; replace L3 := hide L3; replace r1 := hide r1; replace r2 := hide r2; clear hf3 h3 r3)
            | (at_builtin; go_must (refine wpList_append_own_at _ rfl _ _ 223 rfl (w.heap.size + 3) 226 ti _ 2 32 u_DMap hi1 hi2 hi3 hi4 rfl (by decide) (.slice la3 0 lc3) 0 ys3 rfl ?hown _ 1 1 [.string key, .iface dT dx] rfl rfl (news_new _ #[.string key, .iface dT dx] _ _ ?nn) ?one ?b1 ?b2 ?b3 ?_)
               case hown => exact World.ownsRow.alloc r2.out _
               case nn => simp
               case one => simp [Value.oneCell']
               case b1 => unfold maxLen; omega
               case b2 => omega
               case b3 => simp; omega
               intro v5 w5 ho5 hg5 hn5 hl5
               have hF5 : Fr w3 w5 (fun g => (Value.slice la3 0 lc3).ownBlock = some g) := Fr.grown ((Fr.refl w3 _).alloc _) hg5 (fun k e _ => e)
               have R5 := hF5.blk r1.out (fun e => by have := r2.out.lt _ e; omega)
               have e5 := R5.cell 0
               have f5 := R5.thaw 0
               simp only [List.getElem?_cons_zero] at e5
               have hn5' : ∀ g, v5.ownBlock = some g → w.heap.size + 3 ≤ g := (fun g hg => (ho5.lt g hg).1)
               obtain ⟨g5, cap5, rfl⟩ := own_form ho5 (by omega)
               replace hF5 := hide hF5
               replace ho5 := hide ho5
               replace R5 := hide R5
               replace hn5' := hide hn5'
               clear hg5 hl5 hn5))
          try go_ret
          rw [hPOST.out]
          refine ⟨_, rfl, ?_⟩
          rw [hst.out]
          refine ⟨rfl, by omega, ?_⟩
          have hG : Fr w5 (w5.setCell ⟨w.heap.size + 2, 0, none⟩ (.slice (some ⟨g5, 0, none⟩) (0 + 1) cap5)) (fun g => g = w.heap.size + 2) := (Fr.refl w5 (fun g => g = w.heap.size + 2)).setCell ⟨w.heap.size + 2, 0, none⟩ _ (fun _ => rfl)
          have hH : Fr w3 (w5.setCell ⟨w.heap.size + 2, 0, none⟩ (.slice (some ⟨g5, 0, none⟩) (0 + 1) cap5)) (fun g => w.heap.size + 2 ≤ g) := (hF5.out.mono (fun g _ e => by have := r2.out.lt g e; omega)).trans hG (fun g _ e => by omega)
          have hM1 := L3.out.M
          have hbG := hM1.brG
          have hl1 := L3.out.lt
          have hPl : ∀ g, P g → ¬ (w.heap.size + 2 ≤ g) := fun g hg => by have := hM1.Pbr g hg; omega
          have hyl := r2.out.1
          exact ⟨⟨hH.blk hM1.R (by omega), hM1.D.fr hH hPl, hM1.G.fr hH (by have := hM1.lt; omega) (fun g e => by omega), hM1.E, hM1.Pbr, hM1.brG, hM1.hs, hM1.il⟩, L3.out.fr.trans hH (fun g hg e => by omega), L3.out.lt, Nat.le_trans L3.out.hB hH.size, hH.blk L3.out.b2 (by omega), hH.blk L3.out.b3 (by omega), L3.out.ty.fr hH hPl, by show i + (0 + 1) < j2; omega, _, _, R5.out.set 0 _, ownsRow_fr ho5.out hG (fun g hg e => by have := hn5'.out g hg; omega), 0, rfl, by rw [List.getElem?_append_right (by omega), show 0 * 2 - ys3.length = 0 by omega]; rfl⟩
    | some lk =>
      have hless : (Op.bytesLess key.toList lk.toList || key.toList == lk.toList) = false := by
        rw [less_total]
        rw [show Op.bytesLess lk.toList key.toList = true from hri]
        rfl
      obtain ⟨lv, ys, r1, r2, m, hm, hym⟩ := L.out.row
      have hm' : n = m + 1 := hm
      subst hm'
      obtain ⟨la, lc, rfl⟩ := own_sl r2
      obtain ⟨g, cap, hgc⟩ := own_form r2 (by simp)
      cases hgc
      have hwp : IntKind.i64.wrap (((m + 1 : Nat) : Int) - 1) = (m : Int) := by rw [IntKind.wrap_i64]; omega
      have hmp : (0 : Int) < ((m + 1 : Nat) : Int) := by omega
      have hfac : Hid (∀ w1, Fr W w1 (· = br) → w1.cell? ⟨w.heap.size + 2, 0, none⟩ = some (.slice (some ⟨g, 0, none⟩) (m + 1) lc) ∧ w1.cell? ⟨g, m * 2, none⟩ = some (.string lk)) := hide (fun w1 hf => ⟨by rw [(hf.blk r1 (by omega)).cell 0]; rfl, own_cell (ownsRow_fr r2 hf (fun g' hg e => by have := r2.lt g' hg; omega)) rfl hym⟩)
      clear r1 r2 hym hm
      by_cases h58 : bt s e1 = 58
      case neg =>
        have hst := hide (show stepM (rdT s (envOf ds) true f t) s ((m + 1), (some lk)) j = none by unfold stepM; simp only; rw [hrk.out, if_neg (fun h => h58 h.1)])
        replace h58 := hide h58
        clear hR hgo hri
        go_enter Tryz.func102, Tryz.ntmps102
        go_wp2_with (first
          | (go_at_call 103; refine hrun.out.mono ?_; rintro e w1 ⟨rfl, hf1, h1⟩; obtain ⟨k0, k1⟩ := hfac.out w1 hf1; have e0 := (hL1.out w1 hf1 h1).M.e; have b20 := (hL1.out w1 hf1 h1).b2.cell 0; simp only [List.getElem?_cons_zero] at b20; have L1 := hide (hL1.out w1 hf1 h1); replace hf1 := hide hf1; replace h1 := hide h1)
          | (go_at_call 86; refine (ntake_no 58 h1.out hs4 hle.2 rfl (by decide) h58.out).mono ?_; rintro e w2 ⟨rfl, hf2, h2⟩; have e2 := (L1.out.call h2 hf2 hle.2 L1.out.c).M.e; replace hf2 := hide hf2; replace h2 := hide h2))
        try go_ret
        exact hbad.out hst.out w2 e1 (hf1.out.trans hf2.out (fun _ _ e => e)) h2.out hle.2
      case pos =>
        have hlt2 : e1 + 1 ≤ s.size := bt_pos (s := s) (i := e1) (by omega)
        have hsm : stepM (rdT s (envOf ds) true f t) s ((m + 1), (some lk)) j = (rdT s (envOf ds) true f t (e1 + 1)).map (fun q => (((m + 1) + 1, some key), q.2)) := by
          unfold stepM
          simp only
          rw [hrk.out, if_pos ⟨h58, hri⟩]
        replace h58 := hide h58
        cases hp : rdT s (envOf ds) true f t (e1 + 1) with
        | none =>
          have hst := hide (show stepM (rdT s (envOf ds) true f t) s ((m + 1), (some lk)) j = none by rw [hsm, hp]; rfl)
          replace hp := hide hp
          clear hsm hgo hri
          go_enter Tryz.func102, Tryz.ntmps102
          go_wp2_with (first
            | (go_at_call 103; refine hrun.out.mono ?_; rintro e w1 ⟨rfl, hf1, h1⟩; obtain ⟨k0, k1⟩ := hfac.out w1 hf1; have e0 := (hL1.out w1 hf1 h1).M.e; have b20 := (hL1.out w1 hf1 h1).b2.cell 0; simp only [List.getElem?_cons_zero] at b20; have L1 := hide (hL1.out w1 hf1 h1); replace hf1 := hide hf1; replace h1 := hide h1)
            | (go_at_call 86; refine (ntake_yes 58 h1.out hs4 hle.2 rfl (by decide) h58.out).mono ?_; rintro e w2 ⟨rfl, hf2, h2⟩; have L2 := L1.out.call h2 hf2 hlt2 (by have := L1.out.c; omega); have hC := hR (e1 + 1) (by omega) hlt2 w2 _ L2.M L2.ty; have d20 := L2.b2.cell 0; have d31 := L2.b3.cell 1; simp only [List.getElem?_cons_zero, List.getElem?_cons_succ] at d20 d31; replace hC := hide hC; replace L2 := hide L2; have F2 := hide (hf1.out.trans hf2 (fun _ _ e => e)); clear hf2 h2)
            | (go_at_call 82; refine hC.out.mono ?_; rintro e w3 ⟨v3, ev3, rfl, hf3, hm3⟩; rw [hp.out] at hm3; obtain ⟨rfl, hErr, j3, h3, hj3⟩ := hm3; obtain ⟨eT, ex, rfl⟩ := hErr.iface; have G3 := (L2.out.M.call h3 hf3 hj3).G; have F3 := hide (L2.out.fr.trans hf3 (fun _ _ e => e)); replace hErr := hide hErr; replace h3 := hide h3; replace G3 := hide G3; clear hf3)
            | (go_at_call 105; refine (inKey_any (k := key) hI G3.out hks).mono ?_; intro e w4 hW; obtain ⟨g4, tx4, rfl, hg4, hb4, hf4⟩ := hW; replace hf4 := hide hf4; replace hb4 := hide hb4))
          try go_ret
          rw [hPOST.out]
          refine ⟨_, rfl, ?_⟩
          rw [hst.out]
          have hs1 := F3.out.size
          have hsW := L2.out.fr.size
          exact ⟨⟨_, _, rfl⟩, F3.out.trans hf4.out (fun _ _ f => f.elim), .within g4 (by omega) tx4 hb4.out ((hErr.out.less hsW).fr hf4.out (fun _ _ f => f)), j3, hf4.out.blk h3.out id, hj3⟩
        | some q =>
          obtain ⟨d, j2⟩ := q
          have hj2 := hgo _ d j2 hp
          have hst := hide (show stepM (rdT s (envOf ds) true f t) s ((m + 1), (some lk)) j = some (((m + 1) + 1, some key), j2) by rw [hsm, hp]; rfl)
          replace hp := hide hp
          obtain ⟨ti, hi1, hi2, hi3, hi4⟩ := info_parts i_Entry
          clear hsm hgo hri
          go_enter Tryz.func102, Tryz.ntmps102
          go_wp2_with (first
            | (go_at_call 103; refine hrun.out.mono ?_; rintro e w1 ⟨rfl, hf1, h1⟩; obtain ⟨k0, k1⟩ := hfac.out w1 hf1; have e0 := (hL1.out w1 hf1 h1).M.e; have b20 := (hL1.out w1 hf1 h1).b2.cell 0; simp only [List.getElem?_cons_zero] at b20; have L1 := hide (hL1.out w1 hf1 h1); replace hf1 := hide hf1; replace h1 := hide h1)
            | (go_at_call 86; refine (ntake_yes 58 h1.out hs4 hle.2 rfl (by decide) h58.out).mono ?_; rintro e w2 ⟨rfl, hf2, h2⟩; have L2 := L1.out.call h2 hf2 hlt2 (by have := L1.out.c; omega); have hC := hR (e1 + 1) (by omega) hlt2 w2 _ L2.M L2.ty; have d20 := L2.b2.cell 0; have d31 := L2.b3.cell 1; simp only [List.getElem?_cons_zero, List.getElem?_cons_succ] at d20 d31; replace hC := hide hC; replace L2 := hide L2; have F2 := hide (hf1.out.trans hf2 (fun _ _ e => e)); clear hf2 h2)
            | (go_at_call 82; refine hC.out.mono ?_; rintro e w3 ⟨v3, ev3, rfl, hf3, hm3⟩; rw [hp.out] at hm3; obtain ⟨rfl, ⟨dT, dx, rfl⟩, h3, hj3⟩ := hm3; have L3 := L2.out.call h3 hf3 hj3 (by have := L2.out.c; omega); obtain ⟨lv3, ys3, r1, r2, r3⟩ := L3.row; obtain ⟨la3, lc3, rfl⟩ := own_sl r2; have k3 := r1.cell 0; have kg := r1.thaw 0; simp only [List.getElem?_cons_zero] at k3; have hB3 := L3.hB; replace L3 := hide L3; replace r1 := hide r1; replace r2 := hide r2; clear hf3 h3 r3)
            | (at_builtin; go_must (refine wpList_append_own_at _ rfl _ _ 223 rfl (w.heap.size + 3) 226 ti _ 2 32 u_DMap hi1 hi2 hi3 hi4 rfl (by decide) (.slice la3 (m + 1) lc3) (m + 1) ys3 rfl ?hown _ 1 1 [.string key, .iface dT dx] rfl rfl (news_new _ #[.string key, .iface dT dx] _ _ ?nn) ?one ?b1 ?b2 ?b3 ?_)
               case hown => exact World.ownsRow.alloc r2.out _
               case nn => simp
               case one => simp [Value.oneCell']
               case b1 => unfold maxLen; omega
               case b2 => omega
               case b3 => simp; omega
               intro v5 w5 ho5 hg5 hn5 hl5
               have hF5 : Fr w3 w5 (fun g => (Value.slice la3 (m + 1) lc3).ownBlock = some g) := Fr.grown ((Fr.refl w3 _).alloc _) hg5 (fun k e _ => e)
               have R5 := hF5.blk r1.out (fun e => by have := r2.out.lt _ e; omega)
               have e5 := R5.cell 0
               have f5 := R5.thaw 0
               simp only [List.getElem?_cons_zero] at e5
               have hn5' : ∀ g, v5.ownBlock = some g → w.heap.size + 3 ≤ g := (fun g hg => (ho5.lt g hg).1)
               obtain ⟨g5, cap5, rfl⟩ := own_form ho5 (by omega)
               replace hF5 := hide hF5
               replace ho5 := hide ho5
               replace R5 := hide R5
               replace hn5' := hide hn5'
               clear hg5 hl5 hn5))
          try go_ret
          rw [hPOST.out]
          refine ⟨_, rfl, ?_⟩
          rw [hst.out]
          refine ⟨rfl, by omega, ?_⟩
          have hG : Fr w5 (w5.setCell ⟨w.heap.size + 2, 0, none⟩ (.slice (some ⟨g5, 0, none⟩) ((m + 1) + 1) cap5)) (fun g => g = w.heap.size + 2) := (Fr.refl w5 (fun g => g = w.heap.size + 2)).setCell ⟨w.heap.size + 2, 0, none⟩ _ (fun _ => rfl)
          have hH : Fr w3 (w5.setCell ⟨w.heap.size + 2, 0, none⟩ (.slice (some ⟨g5, 0, none⟩) ((m + 1) + 1) cap5)) (fun g => w.heap.size + 2 ≤ g) := (hF5.out.mono (fun g _ e => by have := r2.out.lt g e; omega)).trans hG (fun g _ e => by omega)
          have hM1 := L3.out.M
          have hbG := hM1.brG
          have hl1 := L3.out.lt
          have hPl : ∀ g, P g → ¬ (w.heap.size + 2 ≤ g) := fun g hg => by have := hM1.Pbr g hg; omega
          have hyl := r2.out.1
          exact ⟨⟨hH.blk hM1.R (by omega), hM1.D.fr hH hPl, hM1.G.fr hH (by have := hM1.lt; omega) (fun g e => by omega), hM1.E, hM1.Pbr, hM1.brG, hM1.hs, hM1.il⟩, L3.out.fr.trans hH (fun g hg e => by omega), L3.out.lt, Nat.le_trans L3.out.hB hH.size, hH.blk L3.out.b2 (by omega), hH.blk L3.out.b3 (by omega), L3.out.ty.fr hH hPl, by show i + ((m + 1) + 1) < j2; omega, _, _, R5.out.set 0 _, ownsRow_fr ho5.out hG (fun g hg e => by have := hn5'.out g hg; omega), (m + 1), rfl, by rw [List.getElem?_append_right (by omega), show (m + 1) * 2 - ys3.length = 0 by omega]; rfl⟩
end Go.Proofs.YthndngbnioacpaaGreatDoor
namespace Go.Proofs.YthndngbnioacpaaGreatDoor
open Go.RowKit
theorem mi_start {w0 w : World} {P : Nat → Prop} {ss : ByteArray} {ds : List PD} {sv rv : Value} {xs : List Value} {s : ByteArray} {nt : TypeId} {nx : Value} {br i : Nat} {t : PT} {p : Int} {vT : TypeId} {vx : Value} (M : NC w0 P ss ds sv rv xs s nt nx br i w) (hT : TyV w P t (.iface vT vx)) {W' : World} (h : RdAt W' br sv rv s (i + 1) false) (hf : Fr (((w.alloc (.cells #[.pointer (some ⟨br, 0, none⟩)] 191)).alloc (.cells #[.int .i64 p, .iface vT vx] 144)).alloc (.cells #[.slice none 0 0] 223)) W' (· = br)) (hi : i + 1 ≤ s.size) :
    MI w0 w P ss ds sv rv xs s nt nx br i t p (.iface vT vx) (0, none) (i + 1) W' := by
  have hbl := M.lt
  have A : Fr w (((w.alloc (.cells #[.pointer (some ⟨br, 0, none⟩)] 191)).alloc (.cells #[.int .i64 p, .iface vT vx] 144)).alloc (.cells #[.slice none 0 0] 223)) (fun _ => False) := (((Fr.refl w _).alloc _).alloc _).alloc _
  have hz : (((w.alloc (.cells #[.pointer (some ⟨br, 0, none⟩)] 191)).alloc (.cells #[.int .i64 p, .iface vT vx] 144)).alloc (.cells #[.slice none 0 0] 223)).heap.size = w.heap.size + 3 := by simp
  have z1 : (w.alloc (.cells #[.pointer (some ⟨br, 0, none⟩)] 191)).heap.size = w.heap.size + 1 := by simp
  have z2 : ((w.alloc (.cells #[.pointer (some ⟨br, 0, none⟩)] 191)).alloc (.cells #[.int .i64 p, .iface vT vx] 144)).heap.size = w.heap.size + 2 := by simp
  have B2 := ((Blk.new w #[.pointer (some ⟨br, 0, none⟩)] 191).alloc (.cells #[.int .i64 p, .iface vT vx] 144)).alloc (.cells #[.slice none 0 0] 223)
  have B3 := (Blk.new (w.alloc (.cells #[.pointer (some ⟨br, 0, none⟩)] 191)) #[.int .i64 p, .iface vT vx] 144).alloc (.cells #[.slice none 0 0] 223)
  have B6 := Blk.new ((w.alloc (.cells #[.pointer (some ⟨br, 0, none⟩)] 191)).alloc (.cells #[.int .i64 p, .iface vT vx] 144)) #[.slice none 0 0] 223
  rw [z1] at B3
  rw [z2] at B6
  have hsz := hf.size
  exact ⟨(M.new A).call h hf hi, (A.mono (fun _ _ f => f.elim)).trans hf (fun _ _ e => e), hbl, by omega, hf.blk B2 (by omega), hf.blk B3 (by omega), (hT.fr A (fun _ _ f => f)).fr hf (fun g hg e => M.brP (e ▸ hg)), by show i + 0 < i + 1; omega, _, _, hf.blk B6 (by omega), World.ownsRow_nil _ _ _ _, rfl⟩
set_option maxHeartbeats 8000000 in
set_option maxRecDepth 100000 in
theorem nmapping_any {w0 w : World} {P : Nat → Prop} {ss : ByteArray} {ds : List PD} {sv rv : Value} {xs : List Value} {s : ByteArray} {nt : TypeId} {nx : Value} {br i : Nat} {t : PT} {p : Int} {vT : TypeId} {vx : Value} {f : Nat} (M : NC w0 P ss ds sv rv xs s nt nx br i w) (hT : TyV w P t (.iface vT vx)) (hI : QuoteOK w0) (hR : ∀ j, i < j → j ≤ s.size → DatN w0 P ss ds sv rv xs s nt nx br f t j) :
    Calls Tryz.prog 91 #[.pointer (some ⟨br, 0, none⟩), .agg #[.int .i64 p, .iface vT vx]] w (NPost w sv rv s nt nx br ((rdWrap (rdT s (envOf ds) true f t) s 123 i).map Prod.snd)) := by
  obtain ⟨POST, hPOST⟩ : ∃ Q, Hid (Q = NPost w sv rv s nt nx br ((rdWrap (rdT s (envOf ds) true f t) s 123 i).map Prod.snd)) := ⟨_, rfl⟩
  rw [← hPOST.out]
  have hs4 : s.size ≤ 4000 := by have := M.hs; omega
  have A : Fr w (((w.alloc (.cells #[.pointer (some ⟨br, 0, none⟩)] 191)).alloc (.cells #[.int .i64 p, .iface vT vx] 144)).alloc (.cells #[.slice none 0 0] 223)) (fun _ => False) := (((Fr.refl w _).alloc _).alloc _).alloc _
  have hgo := rdT_goes s (envOf ds) true f t
  have IT : ItemOK (St := Nat × Option ByteArray) sv rv s nt nx br 102 #[.pointer (some ⟨w.heap.size, 0, none⟩), .pointer (some ⟨w.heap.size + 2, 0, none⟩), .pointer (some ⟨w.heap.size + 1, 0, none⟩)] (stepM (rdT s (envOf ds) true f t) s) (fun n j W => MI w0 w P ss ds sv rv xs s nt nx br i t p (.iface vT vx) n j W) (BadL w sv rv s nt nx br) :=
    { F := fun W => by kernel_rfl
      R := fun h => ⟨h.M.R, h.M.il, h.M.e⟩
      K := fun h h1 h2 h3 h4 => h.call h1 h2 h3 (by have := h.c; omega)
      B := fun h => ⟨h.fr, .base, _, h.M.R, h.M.il⟩
      C := fun {n j W} h => (nmap1_any (n := n.1) (last := n.2) h hI (fun j' h1 h2 => hR j' (by have := h.c; omega) h2) (fun j d j' e => (hgo j d j' e).1)).mono (by
        rintro e W' ⟨v, he, hm⟩
        refine ⟨v, he, ?_⟩
        cases hq : stepM (rdT s (envOf ds) true f t) s n j with
        | none => rw [hq] at hm; exact hm
        | some q => obtain ⟨a, b⟩ := q; rw [hq] at hm; exact hm) }
  have hC := hide (nitems_any IT (w := (((w.alloc (.cells #[.pointer (some ⟨br, 0, none⟩)] 191)).alloc (.cells #[.int .i64 p, .iface vT vx] 144)).alloc (.cells #[.slice none 0 0] 223))) (σ := ((0, none) : Nat × Option ByteArray)) (i := i) (co := 123) (cf := 125) 123 125 (A.blk M.R id) M.il (fun W' h hf hi => mi_start M hT h hf hi) (fun W' h hf => ⟨⟨(A.mono (fun _ _ f => f.elim)).trans hf (fun _ _ e => e), .base, i, h, M.il⟩, ((M.new A).call h hf M.il).e⟩) hs4 rfl rfl (by decide) (by decide))
  have hres := hide (map_wrap (rdT s (envOf ds) true f t) s i)
  clear IT A hgo hT hR hI M
  cases hp : listP (stepM (rdT s (envOf ds) true f t) s) s 123 125 (0, none) i with
  | none =>
    rw [hp] at hres
    replace hp := hide hp
    go_enter Tryz.func91, Tryz.ntmps91
    go_wp2_with (go_at_call 99; refine hC.out.mono ?_; rintro e w2 ⟨v2, rfl, hm⟩; rw [hp.out] at hm; obtain ⟨⟨eT, ex, rfl⟩, hB⟩ := hm; replace hB := hide hB)
    try go_ret
    rw [hPOST.out, ← hres.out]
    obtain ⟨h1, h2, h3⟩ := hB.out
    exact ⟨.nilIface, _, rfl, h1, rfl, h2, h3⟩
  | some q =>
    obtain ⟨n2, j2⟩ := q
    rw [hp] at hres
    replace hp := hide hp
    go_enter Tryz.func91, Tryz.ntmps91
    go_wp2_with (go_at_call 99; refine hC.out.mono ?_; rintro e w2 ⟨v2, rfl, hm⟩; rw [hp.out] at hm; obtain ⟨rfl, hL⟩ := hm; obtain ⟨lv, ys, r1, r2, r3⟩ := hL.row; obtain ⟨la, lc, rfl⟩ := own_sl r2; have k0 := r1.cell 0; simp only [List.getElem?_cons_zero] at k0; replace hL := hide hL; clear r1 r2 r3)
    try go_ret
    rw [hPOST.out, ← hres.out]
    exact nok hL.out.fr hL.out.M.R hL.out.M.il
end Go.Proofs.YthndngbnioacpaaGreatDoor
