import Derived.Test.YthndngbnioacpaaGreatDoorW34
namespace Go.Proofs.YthndngbnioacpaaGreatDoor
open Go.RowKit
structure RI (w0 w : World) (P : Nat → Prop) (ss : ByteArray) (ds : List PD) (sv rv : Value) (xs : List Value) (s : ByteArray) (nt : TypeId) (nx : Value) (br i : Nat) (fs : List PF) (p : Int) (fv : Value) (zs : List Value) (n j : Nat) (W : World) : Prop where
  M : NC w0 P ss ds sv rv xs s nt nx br j W
  fr : Fr w W (· = br)
  lt : br < w.heap.size
  hB : w.heap.size + 3 ≤ W.heap.size
  b2 : Blk W w.heap.size [.pointer (some ⟨br, 0, none⟩)] 191
  b3 : Blk W (w.heap.size + 1) [.int .i64 p, fv] 149
  F : FlRow W P ss fs fv zs
  c : i + n < j
  nl : n ≤ fs.length
  row : ∃ lv ys, Blk W (w.heap.size + 2) [lv] 229 ∧ W.ownsRow (w.heap.size + 3) 102 1 lv n ys
section
variable {w0 w : World} {P : Nat → Prop} {ss : ByteArray} {ds : List PD} {sv rv : Value} {xs : List Value} {s : ByteArray} {nt : TypeId} {nx : Value} {br i : Nat} {fs : List PF} {p : Int} {fv : Value} {zs : List Value} {n j j' : Nat} {W W' : World}
theorem RI.call (L : RI w0 w P ss ds sv rv xs s nt nx br i fs p fv zs n j W) (h : RdAt W' br sv rv s j' false) (hf : Fr W W' (· = br)) (hj : j' ≤ s.size) (hc : i + n < j') : RI w0 w P ss ds sv rv xs s nt nx br i fs p fv zs n j' W' := by
  have h1 := L.lt
  obtain ⟨lv, ys, r1, r2⟩ := L.row
  exact ⟨L.M.call h hf hj, L.fr.trans hf (fun _ _ e => e), L.lt, Nat.le_trans L.hB hf.size, hf.blk L.b2 (by omega), hf.blk L.b3 (by omega), L.F.fr hf (fun g hg e => L.M.brP (e ▸ hg)), hc, L.nl, lv, ys, hf.blk r1 (by omega), ownsRow_fr r2 hf (fun g hg e => by have := r2.lt g hg; omega)⟩
theorem RI.new (L : RI w0 w P ss ds sv rv xs s nt nx br i fs p fv zs n j W) (hf : Fr W W' (fun _ => False)) : RI w0 w P ss ds sv rv xs s nt nx br i fs p fv zs n j W' := L.call (hf.blk L.M.R id) (hf.mono (fun _ _ f => f.elim)) L.M.il L.c
end
theorem u_DRec : Tryz.prog.underlying 229 = some (.slice 102) := by kernel_rfl
set_option maxHeartbeats 8000000 in
set_option maxRecDepth 100000 in
theorem nrec1_any {w0 w : World} {P : Nat → Prop} {ss : ByteArray} {ds : List PD} {sv rv : Value} {xs : List Value} {s : ByteArray} {nt : TypeId} {nx : Value} {br i : Nat} {fs : List PF} {p : Int} {fa : Option Addr} {fc : Nat} {zs : List Value} {n j f : Nat} {W : World} (L : RI w0 w P ss ds sv rv xs s nt nx br i fs p (.slice fa fs.length fc) zs n j W) (hsm : ∀ g ∈ fs, isSmall g.letter = true) (hlen : fs.length ≤ 300) (hR : ∀ g ∈ fs, DatN w0 P ss ds sv rv xs s nt nx br f g.ty j) (hgo : ∀ t d j', rdT s (envOf ds) true f t j = some (d, j') → j < j') :
    Calls Tryz.prog 107 #[.pointer (some ⟨w.heap.size + 2, 0, none⟩), .pointer (some ⟨w.heap.size + 1, 0, none⟩), .pointer (some ⟨w.heap.size, 0, none⟩)] W fun e W' => ∃ v, e = .returned v ∧ match stepR (rdT s (envOf ds) true f) fs n j with | some (n', j') => v = .nilIface ∧ j < j' ∧ RI w0 w P ss ds sv rv xs s nt nx br i fs p (.slice fa fs.length fc) zs n' j' W' | none => (∃ T x, v = .iface T x) ∧ BadL w sv rv s nt nx br v W' := by
  obtain ⟨POST, hPOST⟩ : ∃ Q, Hid (Q = fun (e : Ending) (W' : World) => ∃ v, e = .returned v ∧ match stepR (rdT s (envOf ds) true f) fs n j with | some (n', j') => v = .nilIface ∧ j < j' ∧ RI w0 w P ss ds sv rv xs s nt nx br i fs p (.slice fa fs.length fc) zs n' j' W' | none => (∃ T x, v = .iface T x) ∧ BadL w sv rv s nt nx br v W') := ⟨_, rfl⟩
  rw [← hPOST.out]
  have c20 := L.b2.cell 0
  have c31 := L.b3.cell 1
  simp only [List.getElem?_cons_zero, List.getElem?_cons_succ] at c20 c31
  have hjs := L.M.il
  have hs3 := L.M.hs
  have hcn := L.c
  have hlt := L.lt
  have hnl := L.nl
  have hBW := L.hB
  have l2 : w.heap.size < W.heap.size := by omega
  obtain ⟨lv, ys, r1, r2⟩ := L.row
  obtain ⟨la, lc, rfl⟩ := own_sl r2
  have k0 := r1.cell 0
  simp only [List.getElem?_cons_zero] at k0
  by_cases hn : n = fs.length
  · have hst := hide (show stepR (rdT s (envOf ds) true f) fs n j = none by unfold stepR; rw [List.getElem?_eq_none (by omega)])
    have e0 := L.M.e
    replace L := hide L
    subst hn
    clear r1 r2 hR hgo
    go_enter Tryz.func107, Tryz.ntmps107
    go_wp2_with fail
    try go_ret
    rw [hPOST.out]
    refine ⟨_, rfl, ?_⟩
    rw [hst.out]
    exact ⟨⟨_, _, rfl⟩, L.out.fr, .base, j, L.out.M.R, L.out.M.il⟩
  · have hlt' : n < fs.length := by omega
    have hneq : ((n : Int) == (fs.length : Int)) = false := by simp; omega
    have hd : fs[n]? = some fs[n] := List.getElem?_eq_getElem hlt'
    have hmem : fs[n] ∈ fs := List.getElem_mem hlt'
    generalize fs[n] = g0 at hd hmem
    have hni : (n : Int) < (fs.length : Int) := by omega
    obtain ⟨g, cap, hgc⟩ := own_form L.F.row (by omega)
    cases hgc
    obtain ⟨T, x, d0, c0, c1, c2, c3, hT, hDf⟩ := L.F.cells hd
    obtain ⟨l, hl0⟩ : ∃ l, g0.letter = l := ⟨_, rfl⟩
    obtain ⟨pl, hpl⟩ : ∃ q, g0.place = q := ⟨_, rfl⟩
    have hls : isSmall l = true := by rw [← hl0]; exact hsm _ hmem
    rw [hl0] at c1
    rw [hpl] at c0
    have A1 := (Fr.refl W (fun _ => False)).alloc (.cells #[.int .i64 (pl : Int), .int .u8 (l : Int), .iface T x, .pointer d0] 99)
    have N1 := Blk.new W #[.int .i64 (pl : Int), .int .u8 (l : Int), .iface T x, .pointer d0] 99
    have L1 := L.new A1
    have hC := hide (hR _ hmem _ _ L1.M (hT.fr A1 (fun _ _ f => f)))
    have hz1 : (W.alloc (.cells #[.int .i64 (pl : Int), .int .u8 (l : Int), .iface T x, .pointer d0] 99)).heap.size = W.heap.size + 1 := by simp
    replace hz1 := hide hz1
    replace L1 := hide L1
    replace N1 := hide N1
    replace r2 := hide r2
    replace L := hide L
    clear hl0 hpl hT hDf hR A1 r1
    cases hp : rdT s (envOf ds) true f g0.ty j with
    | none =>
      have hst := hide (show stepR (rdT s (envOf ds) true f) fs n j = none by unfold stepR; rw [hd]; simp only; rw [hp]; rfl)
      replace hp := hide hp
      go_enter Tryz.func107, Tryz.ntmps107
      go_wp2_with (first
        | (go_at_call 82; refine hC.out.mono ?_; rintro e w1 ⟨v1, ev1, rfl, hf1, hm⟩; rw [hp.out] at hm; obtain ⟨rfl, hErr, j1, h1, hj1⟩ := hm; obtain ⟨eT, ex, rfl⟩ := hErr.iface; have n1 := (hf1.blk N1.out (by omega)).cell 1; simp only [List.getElem?_cons_zero, List.getElem?_cons_succ] at n1; replace hf1 := hide hf1; replace hErr := hide hErr; replace h1 := hide h1)
        | (go_at_call 108; refine (inField_any hls).mono ?_; intro e w2 hW; obtain ⟨g2, tx2, rfl, hg2, hb2, hf2⟩ := hW; replace hf2 := hide hf2; replace hb2 := hide hb2))
      try go_ret
      rw [hPOST.out]
      refine ⟨_, rfl, ?_⟩
      rw [hst.out]
      have hF1 := L1.out.fr.trans hf1.out (fun _ _ e => e)
      have hs1 := hF1.size
      have hsW := L1.out.fr.size
      exact ⟨⟨_, _, rfl⟩, hF1.trans hf2.out (fun _ _ f => f.elim), .within g2 (by omega) tx2 hb2.out ((hErr.out.less hsW).fr hf2.out (fun _ _ f => f)), j1, hf2.out.blk h1.out id, hj1⟩
    | some q =>
      obtain ⟨d, j2⟩ := q
      have hj2 := hgo _ d j2 hp
      have hst := hide (show stepR (rdT s (envOf ds) true f) fs n j = some (n + 1, j2) by unfold stepR; rw [hd]; simp only; rw [hp]; rfl)
      replace hp := hide hp
      obtain ⟨ti, hi1, hi2, hi3, hi4⟩ := info_parts i_Datum2
      clear hgo
      go_enter Tryz.func107, Tryz.ntmps107
      go_wp2_with (first
        | (go_at_call 82; refine hC.out.mono ?_; rintro e w1 ⟨v1, ev1, rfl, hf1, hm⟩; rw [hp.out] at hm; obtain ⟨rfl, ⟨dT, dx, rfl⟩, h1, hj1⟩ := hm; have L2 := L1.out.call h1 hf1 hj1 (by omega); clear k0 c20 c31; obtain ⟨lv, ys2, r1, r3⟩ := L2.row; obtain ⟨la2, lc2, rfl⟩ := own_sl r3; have k0 := r1.cell 0; have kg := r1.thaw 0; simp only [List.getElem?_cons_zero] at k0; have hB1 := L2.hB; replace L2 := hide L2; replace r1 := hide r1; replace r3 := hide r3; clear hf1 h1)
        | (at_builtin; go_must (refine wpList_append_own_at _ rfl _ _ 229 rfl (w.heap.size + 3) 102 ti _ 1 16 u_DRec hi1 hi2 hi3 hi4 rfl (by decide) (.slice la2 n lc2) n ys2 rfl ?hown _ 1 1 [.iface dT dx] rfl rfl (news_new _ #[.iface dT dx] _ _ ?nn) ?one ?b1 ?b2 ?b3 ?_)
           case hown => exact World.ownsRow.alloc r3.out _
           case nn => simp
           case one => simp [Value.oneCell']
           case b1 => unfold maxLen; omega
           case b2 => omega
           case b3 => simp; omega
           intro v5 w5 ho5 hg5 hn5 hl5
           have hF5 : Fr w1 w5 (fun g => (Value.slice la2 n lc2).ownBlock = some g) := Fr.grown ((Fr.refl w1 _).alloc _) hg5 (fun k e _ => e)
           have R5 := hF5.blk r1.out (fun e => by have := r3.out.lt _ e; omega)
           have e5 := R5.cell 0
           have f5 := R5.thaw 0
           simp only [List.getElem?_cons_zero] at e5
           have hn5' : ∀ g, v5.ownBlock = some g → w.heap.size + 3 ≤ g := (fun g hg => (ho5.lt g hg).1)
           obtain ⟨g5, cap5, rfl⟩ := own_form ho5 (by omega)
           replace hF5 := hide hF5
           replace ho5 := hide ho5
           replace R5 := hide R5
           replace hn5' := hide hn5'
           clear hg5 hl5 hn5))
      try go_ret
      rw [hPOST.out]
      refine ⟨_, rfl, ?_⟩
      rw [hst.out]
      refine ⟨rfl, hj2, ?_⟩
      have hG : Fr w5 (w5.setCell ⟨w.heap.size + 2, 0, none⟩ (.slice (some ⟨g5, 0, none⟩) (n + 1) cap5)) (fun g => g = w.heap.size + 2) := (Fr.refl w5 (fun g => g = w.heap.size + 2)).setCell ⟨w.heap.size + 2, 0, none⟩ _ (fun _ => rfl)
      have hH : Fr w1 (w5.setCell ⟨w.heap.size + 2, 0, none⟩ (.slice (some ⟨g5, 0, none⟩) (n + 1) cap5)) (fun g => w.heap.size + 2 ≤ g) := (hF5.out.mono (fun g _ e => by have := r3.out.lt g e; omega)).trans hG (fun g _ e => by omega)
      have hM1 := L2.out.M
      have hbG := hM1.brG
      have hl1 := L2.out.lt
      have hPl : ∀ g, P g → ¬ (w.heap.size + 2 ≤ g) := fun g hg => by have := hM1.Pbr g hg; omega
      exact ⟨⟨hH.blk hM1.R (by omega), hM1.D.fr hH hPl, hM1.G.fr hH (by have := hM1.lt; omega) (fun g e => by omega), hM1.E, hM1.Pbr, hM1.brG, hM1.hs, hM1.il⟩, L2.out.fr.trans hH (fun g hg e => by omega), L2.out.lt, Nat.le_trans L2.out.hB hH.size, hH.blk L2.out.b2 (by omega), hH.blk L2.out.b3 (by omega), L2.out.F.fr hH hPl, by omega, by omega, _, _, R5.out.set 0 _, ownsRow_fr ho5.out hG (fun g hg e => by have := hn5'.out g hg; omega)⟩
end Go.Proofs.YthndngbnioacpaaGreatDoor
namespace Go.Proofs.YthndngbnioacpaaGreatDoor
open Go.RowKit
theorem rec_named {s : ByteArray} {env : Nat → Option PB} {f i : Nat} {fs : List PF} (hsm : smEnv env) (hok : ∀ g ∈ fs, okT env g.ty) :
    closeN fs.length (listP (stepR (rdT s env true f) fs) s 40 41 0 i) = (rdNamed (rdT s env true f) s (.recd fs) i).map Prod.snd := by
  unfold listP rdNamed
  simp only
  by_cases h40 : bt s i = 40
  · rw [if_pos h40, if_pos h40]
    have hlt := bt_pos (s := s) (i := i) (by omega)
    by_cases h41 : bt s (i + 1) = 41
    · rw [if_pos h41]
      cases fs with
      | nil =>
        simp only [List.map_nil, rdFields, closeN]
        rw [if_pos h41]
        rfl
      | cons g r =>
        rw [List.map_cons, rdFields, if_pos rfl, rdT_41 hsm h41 f g.ty (hok g (by simp))]
        rfl
    · rw [if_neg h41]
      cases hfs : fs with
      | nil =>
        rw [itemsP]
        simp only [stepR, List.getElem?_nil, List.map_nil, rdFields, closeN]
        rw [if_neg h41]
        rfl
      | cons g r =>
        rw [← hfs]
        have h := items_fields (rdT s env true f) s fs (rdT_goes s env true f) (s.size + 2) 0 (i + 1) (by rw [hfs]; simp) hlt (by omega)
        rw [h, List.drop_zero]
        cases rdFields (rdT s env true f) s true (fs.map PF.ty) (i + 1) with
        | none => rfl
        | some q =>
          obtain ⟨l, e⟩ := q
          simp only [closeF]
          split <;> rfl
  · rw [if_neg h40, if_neg h40]
    rfl
theorem ri_start {w0 w : World} {P : Nat → Prop} {ss : ByteArray} {ds : List PD} {sv rv : Value} {xs : List Value} {s : ByteArray} {nt : TypeId} {nx : Value} {br i : Nat} {fs : List PF} {p : Int} {fa : Option Addr} {fc : Nat} {zs : List Value} (M : NC w0 P ss ds sv rv xs s nt nx br i w) (hF : FlRow w P ss fs (.slice fa fs.length fc) zs) {W' : World} (h : RdAt W' br sv rv s (i + 1) false) (hf : Fr (((w.alloc (.cells #[.pointer (some ⟨br, 0, none⟩)] 191)).alloc (.cells #[.int .i64 p, .slice fa fs.length fc] 149)).alloc (.cells #[.slice none 0 0] 229)) W' (· = br)) (hi : i + 1 ≤ s.size) :
    RI w0 w P ss ds sv rv xs s nt nx br i fs p (.slice fa fs.length fc) zs 0 (i + 1) W' := by
  have hbl := M.lt
  have A : Fr w (((w.alloc (.cells #[.pointer (some ⟨br, 0, none⟩)] 191)).alloc (.cells #[.int .i64 p, .slice fa fs.length fc] 149)).alloc (.cells #[.slice none 0 0] 229)) (fun _ => False) := (((Fr.refl w _).alloc _).alloc _).alloc _
  have hz : (((w.alloc (.cells #[.pointer (some ⟨br, 0, none⟩)] 191)).alloc (.cells #[.int .i64 p, .slice fa fs.length fc] 149)).alloc (.cells #[.slice none 0 0] 229)).heap.size = w.heap.size + 3 := by simp
  have z1 : (w.alloc (.cells #[.pointer (some ⟨br, 0, none⟩)] 191)).heap.size = w.heap.size + 1 := by simp
  have z2 : ((w.alloc (.cells #[.pointer (some ⟨br, 0, none⟩)] 191)).alloc (.cells #[.int .i64 p, .slice fa fs.length fc] 149)).heap.size = w.heap.size + 2 := by simp
  have B2 := ((Blk.new w #[.pointer (some ⟨br, 0, none⟩)] 191).alloc (.cells #[.int .i64 p, .slice fa fs.length fc] 149)).alloc (.cells #[.slice none 0 0] 229)
  have B3 := (Blk.new (w.alloc (.cells #[.pointer (some ⟨br, 0, none⟩)] 191)) #[.int .i64 p, .slice fa fs.length fc] 149).alloc (.cells #[.slice none 0 0] 229)
  have B6 := Blk.new ((w.alloc (.cells #[.pointer (some ⟨br, 0, none⟩)] 191)).alloc (.cells #[.int .i64 p, .slice fa fs.length fc] 149)) #[.slice none 0 0] 229
  rw [z1] at B3
  rw [z2] at B6
  have hsz := hf.size
  exact ⟨(M.new A).call h hf hi, (A.mono (fun _ _ f => f.elim)).trans hf (fun _ _ e => e), hbl, by omega, hf.blk B2 (by omega), hf.blk B3 (by omega), (hF.fr A (fun _ _ f => f)).fr hf (fun g hg e => M.brP (e ▸ hg)), by omega, Nat.zero_le _, _, _, hf.blk B6 (by omega), World.ownsRow_nil _ _ _ _⟩
set_option maxHeartbeats 8000000 in
set_option maxRecDepth 100000 in
theorem nrecord_any {w0 w : World} {P : Nat → Prop} {ss : ByteArray} {ds : List PD} {sv rv : Value} {xs : List Value} {s : ByteArray} {nt : TypeId} {nx : Value} {br i : Nat} {fs : List PF} {p : Int} {fa : Option Addr} {fc : Nat} {zs : List Value} {f : Nat} (M : NC w0 P ss ds sv rv xs s nt nx br i w) (hF : FlRow w P ss fs (.slice fa fs.length fc) zs) (hsm : ∀ g ∈ fs, isSmall g.letter = true) (hlen : fs.length ≤ 300) (hse : smEnv (envOf ds)) (hok : ∀ g ∈ fs, okT (envOf ds) g.ty) (hR : ∀ g ∈ fs, ∀ j, i < j → j ≤ s.size → DatN w0 P ss ds sv rv xs s nt nx br f g.ty j) :
    Calls Tryz.prog 93 #[.pointer (some ⟨br, 0, none⟩), .agg #[.int .i64 p, .slice fa fs.length fc]] w (NPost w sv rv s nt nx br ((rdNamed (rdT s (envOf ds) true f) s (.recd fs) i).map Prod.snd)) := by
  obtain ⟨POST, hPOST⟩ : ∃ Q, Hid (Q = NPost w sv rv s nt nx br ((rdNamed (rdT s (envOf ds) true f) s (.recd fs) i).map Prod.snd)) := ⟨_, rfl⟩
  rw [← hPOST.out]
  have hs4 : s.size ≤ 4000 := by have := M.hs; omega
  have A : Fr w (((w.alloc (.cells #[.pointer (some ⟨br, 0, none⟩)] 191)).alloc (.cells #[.int .i64 p, .slice fa fs.length fc] 149)).alloc (.cells #[.slice none 0 0] 229)) (fun _ => False) := (((Fr.refl w _).alloc _).alloc _).alloc _
  have hgo := rdT_goes s (envOf ds) true f
  have IT : ItemOK sv rv s nt nx br 107 #[.pointer (some ⟨w.heap.size + 2, 0, none⟩), .pointer (some ⟨w.heap.size + 1, 0, none⟩), .pointer (some ⟨w.heap.size, 0, none⟩)] (stepR (rdT s (envOf ds) true f) fs) (fun n j W => RI w0 w P ss ds sv rv xs s nt nx br i fs p (.slice fa fs.length fc) zs n j W) (BadL w sv rv s nt nx br) :=
    { F := fun W => by kernel_rfl
      R := fun h => ⟨h.M.R, h.M.il, h.M.e⟩
      K := fun h h1 h2 h3 h4 => h.call h1 h2 h3 (by have := h.c; omega)
      B := fun h => ⟨h.fr, .base, _, h.M.R, h.M.il⟩
      C := fun {n j W} h => (nrec1_any h hsm hlen (fun g hg => hR g hg j (by have := h.c; omega) h.M.il) (fun t d j' e => (hgo t j d j' e).1)).mono (by
        rintro e W' ⟨v, he, hm⟩
        refine ⟨v, he, ?_⟩
        cases hq : stepR (rdT s (envOf ds) true f) fs n j with
        | none => rw [hq] at hm; exact hm
        | some q => obtain ⟨a, b⟩ := q; rw [hq] at hm; exact hm) }
  have hC := hide (nitems_any IT (w := (((w.alloc (.cells #[.pointer (some ⟨br, 0, none⟩)] 191)).alloc (.cells #[.int .i64 p, .slice fa fs.length fc] 149)).alloc (.cells #[.slice none 0 0] 229))) (σ := (0 : Nat)) (i := i) (co := 40) (cf := 41) 40 41 (A.blk M.R id) M.il (fun W' h hf hi => ri_start M hF h hf hi) (fun W' h hf => ⟨⟨(A.mono (fun _ _ f => f.elim)).trans hf (fun _ _ e => e), .base, i, h, M.il⟩, ((M.new A).call h hf M.il).e⟩) hs4 rfl rfl (by decide) (by decide))
  have hres := hide (rec_named (s := s) (f := f) (i := i) hse hok)
  clear IT A hgo hF hR M hok hsm
  cases hp : listP (stepR (rdT s (envOf ds) true f) fs) s 40 41 0 i with
  | none =>
    rw [hp] at hres
    replace hp := hide hp
    go_enter Tryz.func93, Tryz.ntmps93
    go_wp2_with (go_at_call 99; refine hC.out.mono ?_; rintro e w2 ⟨v2, rfl, hm⟩; rw [hp.out] at hm; obtain ⟨⟨eT, ex, rfl⟩, hB⟩ := hm; replace hB := hide hB)
    try go_ret
    rw [hPOST.out, ← hres.out]
    obtain ⟨h1, h2, h3⟩ := hB.out
    exact ⟨.nilIface, _, rfl, h1, rfl, h2, h3⟩
  | some q =>
    obtain ⟨n2, j2⟩ := q
    rw [hp] at hres
    replace hp := hide hp
    by_cases hn : n2 < fs.length
    · have hn' : (n2 : Int) < (fs.length : Int) := by omega
      rw [show closeN fs.length (some (n2, j2)) = none from if_pos hn] at hres
      go_enter Tryz.func93, Tryz.ntmps93
      go_wp2_with (go_at_call 99; refine hC.out.mono ?_; rintro e w2 ⟨v2, rfl, hm⟩; rw [hp.out] at hm; obtain ⟨rfl, hL⟩ := hm; obtain ⟨lv, ys, r1, r2⟩ := hL.row; obtain ⟨la, lc, rfl⟩ := own_sl r2; have k0 := r1.cell 0; have c31 := hL.b3.cell 1; have e0 := hL.M.e; simp only [List.getElem?_cons_zero, List.getElem?_cons_succ] at k0 c31; replace hL := hide hL; clear r1 r2)
      go_quiet (fail)
      go_wp2_with fail
      try go_ret
      rw [hPOST.out, ← hres.out]
      exact nerr (hL.out.fr.still (Still.drewN _ _)) (hL.out.M.R.still (Still.drewN _ _)) hL.out.M.il
    · have hn' : ¬ ((n2 : Int) < (fs.length : Int)) := by omega
      rw [show closeN fs.length (some (n2, j2)) = some j2 from if_neg hn] at hres
      go_enter Tryz.func93, Tryz.ntmps93
      go_wp2_with (go_at_call 99; refine hC.out.mono ?_; rintro e w2 ⟨v2, rfl, hm⟩; rw [hp.out] at hm; obtain ⟨rfl, hL⟩ := hm; obtain ⟨lv, ys, r1, r2⟩ := hL.row; obtain ⟨la, lc, rfl⟩ := own_sl r2; have k0 := r1.cell 0; have c31 := hL.b3.cell 1; simp only [List.getElem?_cons_zero, List.getElem?_cons_succ] at k0 c31; replace hL := hide hL; clear r1 r2)
      try go_ret
      rw [hPOST.out, ← hres.out]
      exact nok hL.out.fr hL.out.M.R hL.out.M.il
set_option maxHeartbeats 8000000 in
set_option maxRecDepth 100000 in
theorem nbranch_any {w0 w : World} {P : Nat → Prop} {ss : ByteArray} {ds : List PD} {sv rv : Value} {xs : List Value} {s : ByteArray} {nt : TypeId} {nx : Value} {br i : Nat} {t : PT} {l : List PT} {p : Int} {bv : Value} {f : Nat} {X : Nat → Value} (M : NC w0 P ss ds sv rv xs s nt nx br i w) (ho : w.ownsRow 0 32 1 bv (t :: l).length ((List.range (t :: l).length).map X)) (hX : TyV w P t (X 0)) (hI : ItoaOK w0) (hR : DatN w0 P ss ds sv rv xs s nt nx br f t i) :
    Calls Tryz.prog 106 #[.pointer (some ⟨br, 0, none⟩), .agg #[.int .i64 p, bv], .int .i64 0] w (NPost w sv rv s nt nx br ((rdT s (envOf ds) true f t i).map Prod.snd)) := by
  obtain ⟨POST, hPOST⟩ : ∃ Q, Hid (Q = NPost w sv rv s nt nx br ((rdT s (envOf ds) true f t i).map Prod.snd)) := ⟨_, rfl⟩
  rw [← hPOST.out]
  obtain ⟨g, cap, rfl⟩ := own_form ho (by simp)
  obtain ⟨T, x, hx⟩ := hX.iface
  have c0 := own_cell ho rfl (k := 0) (x := X 0) (by simp [List.range_succ_eq_map])
  rw [hx] at c0 hX
  have A : Fr w (w.alloc (.cells #[.int .i64 p, .slice (some ⟨g, 0, none⟩) (t :: l).length cap] 158)) (fun _ => False) := (Fr.refl w _).alloc _
  have M0 := M.new A
  have hgl := World.block_lt_of_cell? w ⟨g, 0, none⟩ c0
  have hC := hide (hR _ _ M0 (hX.fr A (fun _ _ f => f)))
  obtain ⟨n, hn⟩ : ∃ n, (t :: l).length = n + 1 := ⟨l.length, rfl⟩
  rw [hn] at hC A ⊢
  have hn0 : (0 : Int) < (n : Int) + 1 := by omega
  have hsz := A.size
  replace A := hide A
  rw [hn] at M0
  replace M0 := hide M0
  clear hn ho hX hR M hx
  cases hp : rdT s (envOf ds) true f t i with
  | none =>
    replace hp := hide hp
    go_enter Tryz.func106, Tryz.ntmps106
    go_wp2_with (first
      | (go_at_call 82; refine hC.out.mono ?_; rintro e w1 ⟨v1, ev1, rfl, hf1, hm⟩; rw [hp.out] at hm; obtain ⟨rfl, hErr, j1, h1, hj1⟩ := hm; obtain ⟨eT, ex, rfl⟩ := hErr.iface; have G1 := (M0.out.call h1 hf1 hj1).G; replace hf1 := hide hf1; replace hErr := hide hErr; replace h1 := hide h1; replace G1 := hide G1)
      | (go_at_call 113; refine (inBranch_any (n := 0) hI G1.out (by omega)).mono ?_; intro e w2 hW; obtain ⟨g2, tx2, rfl, hg2, hb2, hf2⟩ := hW; replace hf2 := hide hf2; replace hb2 := hide hb2))
    try go_ret
    rw [hPOST.out, hp.out]
    have hF1 := (A.out.mono (T := fun g => g = br) (fun _ _ f => f.elim)).trans hf1.out (fun _ _ e => e)
    have hs1 := hF1.size
    exact ⟨.nilIface, _, rfl, hF1.trans hf2.out (fun _ _ f => f.elim), rfl, .within g2 (by omega) tx2 hb2.out ((hErr.out.less hsz).fr hf2.out (fun _ _ f => f)), j1, hf2.out.blk h1.out id, hj1⟩
  | some q =>
    obtain ⟨d, j2⟩ := q
    replace hp := hide hp
    go_enter Tryz.func106, Tryz.ntmps106
    go_wp2_with (go_at_call 82; refine hC.out.mono ?_; rintro e w1 ⟨v1, ev1, rfl, hf1, hm⟩; rw [hp.out] at hm; obtain ⟨rfl, ⟨dT, dx, rfl⟩, h1, hj1⟩ := hm; replace hf1 := hide hf1; replace h1 := hide h1)
    try go_ret
    rw [hPOST.out, hp.out]
    exact nok ((A.out.mono (T := fun g => g = br) (fun _ _ f => f.elim)).trans hf1.out (fun _ _ e => e)) h1.out hj1
set_option maxHeartbeats 4000000 in
set_option maxRecDepth 100000 in
theorem nunion_any {w0 w : World} {P : Nat → Prop} {ss : ByteArray} {ds : List PD} {sv rv : Value} {xs : List Value} {s : ByteArray} {nt : TypeId} {nx : Value} {br i : Nat} {t : PT} {l : List PT} {p : Int} {bv : Value} {f : Nat} {X : Nat → Value} (M : NC w0 P ss ds sv rv xs s nt nx br i w) (ho : w.ownsRow 0 32 1 bv (t :: l).length ((List.range (t :: l).length).map X)) (hoP : ∀ g, bv.ownBlock = some g → P g) (hX : TyV w P t (X 0)) (hI : ItoaOK w0) (hR : DatN w0 P ss ds sv rv xs s nt nx br f t i) :
    Calls Tryz.prog 92 #[.pointer (some ⟨br, 0, none⟩), .agg #[.int .i64 p, bv]] w (NPost w sv rv s nt nx br ((rdT s (envOf ds) true f t i).map Prod.snd)) := by
  obtain ⟨POST, hPOST⟩ : ∃ Q, Hid (Q = NPost w sv rv s nt nx br ((rdT s (envOf ds) true f t i).map Prod.snd)) := ⟨_, rfl⟩
  rw [← hPOST.out]
  obtain ⟨ba, bc, rfl⟩ := own_sl ho
  have A : Fr w (w.alloc (.cells #[.int .i64 p, .slice ba (t :: l).length bc] 158)) (fun _ => False) := (Fr.refl w _).alloc _
  have M0 := M.new A
  have hC := hide (nbranch_any (p := p) M0 (ownsRow_fr ho A (fun _ _ f => f)) (hX.fr A (fun _ _ f => f)) hI hR)
  have c4 := M0.R.c4
  have hsz := A.size
  replace A := hide A
  clear M0 ho hX hR M hoP
  generalize (t :: l).length = n at hC A hsz c4 ⊢
  go_enter Tryz.func92, Tryz.ntmps92
  go_wp2_with (go_at_call 106; refine hC.out.mono ?_; rintro e w1 ⟨v1, ev1, rfl, hf1, hm⟩; replace hf1 := hide hf1; replace hm := hide hm)
  try go_ret
  rw [hPOST.out]
  refine ⟨v1, ev1, rfl, (A.out.mono (T := fun g => g = br) (fun _ _ f => f.elim)).trans hf1.out (fun _ _ e => e), ?_⟩
  have hm' := hm.out
  cases hp : (rdT s (envOf ds) true f t i).map Prod.snd with
  | none => rw [hp] at hm'; exact ⟨hm'.1, hm'.2.1.less hsz, hm'.2.2⟩
  | some j => rw [hp] at hm'; exact hm'
end Go.Proofs.YthndngbnioacpaaGreatDoor
