import Derived.Test.YthndngbnioacpaaGreatDoorW29
import Derived.Test.YthndngbnioacpaaGreatDoorW01
namespace Go.Proofs.YthndngbnioacpaaGreatDoor
open Go.RowKit
def plB : PB → Prop
  | .recd fs => fs.length ≤ 300 ∧ (∀ f ∈ fs, isSmall f.letter = true) ∧ ∀ f ∈ fs, fewB f.ty
  | .enum l o => l.length ≤ 300 ∧ (∀ q ∈ l, isSmall q.1 = true) ∧ ∀ c p, o = some (c, p) → isSmall c = true
  | .bytes _ => True
set_option maxHeartbeats 4000000 in
set_option maxRecDepth 100000 in
theorem pcheckBody_any {w : World} {P : Nat → Prop} {s : ByteArray} {ds : List PD} {sv rv v : Value} {xs : List Value} {b : PB} {et : TypeId} {ex : Value} (D : DRow w P s ds sv xs) (hb : BodyV w P s b v) (hE : ErrV 2 w et ex) (hok : plB b) (hPw : ∀ g, P g → g < w.heap.size) :
    Calls Tryz.prog 34 #[.agg #[sv, rv], v] w (ChkPost w (.iface et ex) (bodyF (envOf ds) b)) := by
  obtain ⟨POST, hPOST⟩ : ∃ Q, Hid (Q = ChkPost w (.iface et ex) (bodyF (envOf ds) b)) := ⟨_, rfl⟩
  rw [← hPOST.out]
  obtain ⟨sa, sc, rfl⟩ := own_sl D.row
  cases hb with
  | recd p ho hP h =>
    rename_i fs fv ys
    obtain ⟨fa, fc, rfl⟩ := own_sl ho
    have hf0 : Fr w ((w.alloc (.cells #[.slice sa ds.length sc, rv] 34)).alloc (.cells #[.int .i64 (p : Int), .slice fa fs.length fc] 149)) (fun _ => False) := ((Fr.refl w _).alloc _).alloc _
    have hsz := hf0.size
    have hC := hide (pcheckFields_any (rv := rv) (p := (p : Int)) (D.fr hf0 (fun _ _ f => f)) ((⟨ho, hP, h⟩ : FlRow w P s fs _ _).fr hf0 (fun _ _ f => f)) (hE.fr hf0 id) hok.1 hok.2.1 hok.2.2 (fun g hg => Nat.lt_of_lt_of_le (hPw g hg) hsz))
    replace hf0 := hide hf0
    have a1 := asRecord_yes
    clear D ho hP h hE hok hPw
    go_enter Tryz.func34, Tryz.ntmps34
    go_wp2_with (go_at_call 58; refine hC.out.mono ?_; rintro e w2 ⟨v2, rfl, hf2, hm⟩; replace hf2 := hide hf2; replace hm := hide hm)
    try go_ret
    rw [hPOST.out]
    refine ⟨v2, rfl, hf0.out.trans hf2.out (fun _ _ f => f), ?_⟩
    have hm' := hm.out
    rw [bodyF]
    cases hL : fldF (envOf ds) [] fs with
    | nil => rw [hL] at hm'; exact hm'
    | cons x r => rw [hL] at hm'; exact hm'.less hsz
  | enum p ho hP hu =>
    rename_i l o lv u
    obtain ⟨fa, fc, rfl⟩ := own_sl ho
    obtain ⟨d, rfl⟩ : ∃ d, u = .pointer d := by
      have hu' := hu
      unfold UnkV at hu'
      split at hu'
      · exact ⟨_, hu'⟩
      · obtain ⟨g', _, e, _⟩ := hu'; exact ⟨_, e⟩
    have hf0 : Fr w ((w.alloc (.cells #[.slice sa ds.length sc, rv] 34)).alloc (.cells #[.int .i64 (p : Int), .slice fa l.length fc, .pointer d] 154)) (fun _ => False) := ((Fr.refl w _).alloc _).alloc _
    have hsz := hf0.size
    have hC := hide (pcheckSymbols_any (p := (p : Int)) (ownsRow_fr ho hf0 (fun _ _ f => f)) hP (hu.fr hf0 (fun _ _ f => f)) (hE.fr hf0 id) hok.1 hok.2.1 hok.2.2 (fun g hg => Nat.lt_of_lt_of_le (hPw g hg) hsz))
    replace hf0 := hide hf0
    have a1 := asRecord_no 154 (by decide)
    have a2 := asEnum_yes
    clear D ho hP hu hE hok hPw
    go_enter Tryz.func34, Tryz.ntmps34
    go_wp2_with (go_at_call 59; refine hC.out.mono ?_; rintro e w2 ⟨v2, rfl, hf2, hm⟩; replace hf2 := hide hf2; replace hm := hide hm)
    try go_ret
    rw [hPOST.out]
    refine ⟨v2, rfl, hf0.out.trans hf2.out (fun _ _ f => f), ?_⟩
    have hm' := hm.out
    rw [bodyF]
    cases hL : dupS [] l ++ unkF l o with
    | nil => rw [hL] at hm'; exact hm'
    | cons x r => rw [hL] at hm'; exact hm'.less hsz
  | bytes p n =>
    have a1 := asRecord_no 198 (by decide)
    have a2 := asEnum_no 198 (by decide)
    clear D hE hok hPw
    go_enter Tryz.func34, Tryz.ntmps34
    go_wp2_with fail
    try go_ret
    rw [hPOST.out]
    exact ⟨.nilIface, rfl, (Fr.refl w _).alloc _, rfl⟩
theorem DRow.pre {w : World} {P : Nat → Prop} {s : ByteArray} {ds : List PD} {g m cap : Nat} {xs : List Value} (h : DRow w P s ds (.slice (some ⟨g, 0, none⟩) m cap) xs) {q : Nat} (hq : q ≤ ds.length) : DRow w P s (ds.take q) (.slice (some ⟨g, 0, none⟩) q cap) (xs.take (q * 3)) := by
  have hlen : (ds.take q).length = q := by rw [List.length_take]; omega
  refine ⟨?_, fun g' e => h.off g' e, fun i d e => ?_, by rw [hlen]; have := h.len; omega⟩
  · rw [hlen]
    obtain ⟨h1, h2⟩ := h.row
    refine ⟨by rw [List.length_take, h1]; omega, .inr ?_⟩
    rcases h2 with ⟨e, _⟩ | ⟨g', cap', cur, e, k1, k2, k3, k4, k5, k6⟩
    · cases e
    · cases e
      refine ⟨g, cap, cur, rfl, k1, k2, by omega, k4, k5, ?_⟩
      rw [← k6, List.take_take]
      congr 1
      omega
  · have hi := (List.getElem?_eq_some_iff.1 e).1
    rw [hlen] at hi
    rw [List.getElem?_take, if_pos hi] at e
    obtain ⟨c, k1, k2, k3, k4⟩ := h.V i d e
    exact ⟨c, by rw [List.getElem?_take, if_pos (by omega)]; exact k1, by rw [List.getElem?_take, if_pos (by omega)]; exact k2, by rw [List.getElem?_take, if_pos (by omega)]; exact k3, k4⟩
theorem defF_drop {env : Nat → Option PB} {ds : List PD} {q : Nat} {d : PD} (h : ds[q]? = some d) (seen : List Nat) : defF env seen (ds.drop q) = (if d.letter ∈ seen then [d.place] else []) ++ (bodyF env d.body ++ defF env (seen ++ [d.letter]) (ds.drop (q + 1))) := by
  have hl := (List.getElem?_eq_some_iff.1 h).1
  rw [List.drop_eq_getElem_cons hl, defF, (List.getElem?_eq_some_iff.1 h).2]
theorem take_defs {ds : List PD} {q : Nat} {d : PD} (h : ds[q]? = some d) : (ds.take (q + 1)).map PD.letter = (ds.take q).map PD.letter ++ [d.letter] := by
  rw [List.take_add_one, h]; simp
theorem envOf_none {ds : List PD} {c : Nat} : envOf ds c = none ↔ c ∉ ds.map PD.letter := by
  unfold envOf
  rw [← look_none 0 c ds]
  cases look 0 c ds <;> simp
set_option maxHeartbeats 8000000 in
set_option maxRecDepth 100000 in
theorem pcheckNames_any {w : World} {P : Nat → Prop} {s : ByteArray} {ds : List PD} {t : PT} {sv rv : Value} {xs : List Value} {et : TypeId} {ex : Value} (D : DRow w P s ds sv xs) (hT : TyV w P t rv) (hE : ErrV 2 w et ex) (hok : ∀ d ∈ ds, plB d.body) (hfew : fewB t) (hPw : ∀ g, P g → g < w.heap.size) :
    Calls Tryz.prog 15 #[.agg #[sv, rv]] w (ChkPost w (.iface et ex) (nameF ds t)) := by
  obtain ⟨POST, hPOST⟩ : ∃ Q, Hid (Q = ChkPost w (.iface et ex) (nameF ds t)) := ⟨_, rfl⟩
  rw [← hPOST.out]
  obtain ⟨sa, sc, rfl⟩ := own_sl D.row
  obtain ⟨rT, rx, rfl⟩ := hT.iface
  have hl6 := D.len
  obtain ⟨w0, hw0⟩ : ∃ W, W = w.alloc (.cells #[.slice sa ds.length sc, .iface rT rx] 34) := ⟨_, rfl⟩
  have hf0 : Fr w w0 (fun _ => False) := by rw [hw0]; exact (Fr.refl w _).alloc _
  have hS0 : Blk w0 w.heap.size [.slice sa ds.length sc, .iface rT rx] 34 := by rw [hw0]; exact Blk.new w #[.slice sa ds.length sc, .iface rT rx] 34
  have D0 := hide (D.fr hf0 (fun _ _ f => f))
  have hT0 := hide (hT.fr hf0 (fun _ _ f => f))
  have hE0 := hide (hE.fr hf0 id)
  have hP0 := hide (fun g (hg : P g) => Nat.lt_of_lt_of_le (hPw g hg) hf0.size)
  have start : Hid (∃ q : Nat, Value.int .i64 0 = .int .i64 (q : Int) ∧ q ≤ ds.length ∧ ds.length + 1 - q ≤ ds.length + 1 ∧ Fr w0 w0 (fun _ => False) ∧ defF (envOf ds) [] ds = defF (envOf ds) ((ds.take q).map PD.letter) (ds.drop q)) := hide ⟨0, rfl, Nat.zero_le _, by omega, Fr.refl _ _, rfl⟩
  replace hS0 := hide hS0
  replace hf0 := hide hf0
  clear D hE hT hPw
  go_enter Tryz.func15, Tryz.ntmps15
  go_wp2_with fail
  rw [← hw0]
  clear hw0
  go_loopg [3, 10] (ds.length + 1) (fun m u v W => ∃ q : Nat, v = .int .i64 (q : Int) ∧ q ≤ ds.length ∧ ds.length + 1 - q ≤ m ∧ Fr w0 W (fun _ => False) ∧ defF (envOf ds) [] ds = defF (envOf ds) ((ds.take q).map PD.letter) (ds.drop q))
  case atStart => exact start.out
  case round =>
    clear start
    obtain ⟨q, rfl, hq, hm, hf, he⟩ := hrel
    have hsz := hf.size
    have hS := hf.blk hS0.out id
    have hSlt : w.heap.size < wr.heap.size := hS.lt
    have s0 := hS.cell 0
    have s1 := hS.cell 1
    simp only [List.getElem?_cons_zero, List.getElem?_cons_succ] at s0 s1
    by_cases hlt : q < ds.length
    · have hlt' : (q : Int) < (ds.length : Int) := by omega
      have hd : ds[q]? = some ds[q] := List.getElem?_eq_getElem hlt
      have hmem : ds[q] ∈ ds := List.getElem_mem hlt
      generalize ds[q] = d at hd hmem
      obtain ⟨g, cap, hgc⟩ := own_form D0.out.row (by omega)
      cases hgc
      have Dw := D0.out.fr hf (fun _ _ f => f)
      obtain ⟨T, x, c0, c1, c2, hb⟩ := Dw.cells hd
      have hqc : q ≤ sc := by
        obtain ⟨_, h2⟩ := D0.out.row
        rcases h2 with ⟨e, _⟩ | ⟨g', cap', cur, e, k1, k2, k3, k4, k5, k6⟩
        · cases e
        · cases e; omega
      have hqc' : (q : Int) ≤ (sc : Int) := by omega
      have hokd := hok d hmem
      rw [defF_drop hd] at he
      have htk := take_defs hd
      obtain ⟨l, hl0⟩ : ∃ l, d.letter = l := ⟨_, rfl⟩
      obtain ⟨pl, hpl⟩ : ∃ p, d.place = p := ⟨_, rfl⟩
      obtain ⟨b, hb0⟩ : ∃ b, d.body = b := ⟨_, rfl⟩
      rw [hl0] at c1 he htk
      rw [hpl] at c0 he
      rw [hb0] at hb he hokd
      have A1 := ((Fr.refl wr (fun _ => False)).alloc (.cells #[.int .i64 (pl : Int), .int .u8 (l : Int), .iface T x] 85)).alloc (.cells #[.slice (some ⟨g, 0, none⟩) q sc, .nilIface] 34)
      have N1 := (Blk.new wr #[.int .i64 (pl : Int), .int .u8 (l : Int), .iface T x] 85).alloc (.cells #[.slice (some ⟨g, 0, none⟩) q sc, .nilIface] 34)
      have hC := hide (meaning_any (rv := .nilIface) l ((Dw.pre hq).fr A1 (fun _ _ f => f)))
      have D1 := Dw.fr A1 (fun _ _ f => f)
      have B1 := hb.fr A1 (fun _ _ f => f)
      have E1 := (hE0.out.fr hf id).fr A1 id
      have S1 := A1.blk hS id
      have hf1 := hide (hf.trans A1 (fun _ _ f => f))
      replace D1 := hide D1
      replace B1 := hide B1
      replace E1 := hide E1
      replace S1 := hide S1
      replace N1 := hide N1
      replace hokd := hide hokd
      clear A1 hb Dw hl0 hpl hb0 hS
      by_cases hdup : l ∈ (ds.take q).map PD.letter
      · rw [if_pos hdup] at he
        have hL := hide (show nameF ds t = pl :: (bodyF (envOf ds) b ++ defF (envOf ds) ((ds.take q).map PD.letter ++ [l]) (ds.drop (q + 1)) ++ useF (envOf ds) (usesOf t)) by unfold nameF; rw [he]; rfl)
        obtain ⟨bb, hbb⟩ : ∃ bb, envOf (ds.take q) l = some bb := by
          cases h : envOf (ds.take q) l with
          | none => exact absurd hdup (envOf_none.1 h)
          | some bb => exact ⟨bb, rfl⟩
        replace hbb := hide hbb
        clear he htk
        go_wp2_with (go_at_call 32; refine hC.out.mono ?_; rintro e w2 ⟨v2, rfl, hf2, hm2⟩; rw [hbb.out] at hm2; obtain ⟨bT, bx, rfl⟩ := hm2.iface; have n0 := (hf2.blk N1.out id).cell 0; have e0 := E1.out.fr hf2 id; simp only [List.getElem?_cons_zero] at n0; replace hf2 := hide hf2; replace e0 : _ = _ := e0; clear hm2)
        refine wp_regionC 7 (fun W => W.cell? ⟨wr.heap.size, 0, none⟩ = some (.int .i64 (pl : Int)) ∧ W.cell? ⟨2, 0, none⟩ = some (.iface et ex)) (by kernel_rfl) ?_
        refine wpAnyC_take 0 ?v0 rfl (by kernel_rfl) (fun _ _ _ h => h) (by kernel_rfl) ?y0 ?_
        case y0 => (rintro W ⟨h1, h2⟩; go_simp <;> rfl)
        refine wpAnyC_take 1 ?v1 rfl (by kernel_rfl) (fun _ _ _ h => h) (by kernel_rfl) ?y1 ?_
        case y1 => (rintro W ⟨h1, h2⟩; go_simp <;> rfl)
        refine wpAnyC_take 3 ?v3 rfl (by kernel_rfl) (fun _ _ _ h => h) (by kernel_rfl) ?y3 ?_
        case y3 => (rintro W ⟨h1, h2⟩; go_simp <;> rfl)
        refine wpAnyC_one 2 rfl (by kernel_rfl) (fun _ => ⟨n0, e0⟩) (fun K hK => ?_)
        go_simp
        refine (pplace_any (pl : Int) _).mono ?_
        rintro e w' ⟨rfl, rfl⟩
        refine hK _ _ ?_
        clear hK K
        refine wpAnyC_take 4 ?v4 rfl (by kernel_rfl) (fun _ _ _ h => h) (by kernel_rfl) ?y4 ?_
        case y4 => (rintro W ⟨h1, h2⟩; go_simp <;> rfl)
        refine wpAnyC_one 5 rfl (by kernel_rfl) (fun _ => ⟨n0, e0⟩) (fun K hK => ?_)
        go_simp
        refine hK _ _ ?_
        clear hK K
        have hAL : ∀ {a : Addr} {x : Value}, w2.cell? a = some x → (w2.drew.alloc (.cells #[.int .i64 (pl : Int), .iface et ex] 68)).cell? a = some x := @fun a x h => (World.cell?_alloc_lt (w2.drew) _ a (by exact World.block_lt_of_cell? w2 a h)).trans h
        refine wpAnyC_one 6 rfl (by kernel_rfl) (fun _ => ⟨hAL n0, hAL e0⟩) (fun K hK => ?_)
        go_simp
        refine hK _ _ ?_
        clear hK K
        refine wpAnyC_one 7 rfl (by kernel_rfl) (fun _ => ⟨hAL n0, hAL e0⟩) (fun K hK => ?_)
        go_simp
        refine hK _ _ ?_
        clear hK K
        refine wpAnyC_done (by kernel_rfl) (fun hm => absurd hm (by decide)) ?_ _
        go_wp2_with fail
        try go_ret
        rw [hPOST.out]
        have hF2 := (hf0.out.trans hf1.out (fun _ _ f => f)).trans hf2.out (fun _ _ f => f)
        have hs2 := hF2.size
        refine ⟨_, rfl, (hF2.alloc _).drew, ?_⟩
        rw [hL.out]
        exact ⟨w2.heap.size, hs2, rfl, (Blk.new w2 _ _).drew⟩
      · rw [if_neg hdup, List.nil_append] at he
        have hnn := hide (envOf_none.2 hdup)
        have hCb : Hid (∀ w2, Fr ((wr.alloc (.cells #[.int .i64 (pl : Int), .int .u8 (l : Int), .iface T x] 85)).alloc (.cells #[.slice (some ⟨g, 0, none⟩) q sc, .nilIface] 34)) w2 (fun _ => False) → Calls Tryz.prog 34 #[.agg #[.slice (some ⟨g, 0, none⟩) ds.length sc, .iface rT rx], .iface T x] w2 (ChkPost w2 (.iface et ex) (bodyF (envOf ds) b))) := hide (fun w2 h2 => pcheckBody_any (D1.out.fr h2 (fun _ _ f => f)) (B1.out.fr h2 (fun _ _ f => f)) (E1.out.fr h2 id) hokd.out (fun g hg => Nat.lt_of_lt_of_le (hP0.out g hg) (Nat.le_trans hf1.out.size h2.size)))
        cases hu : bodyF (envOf ds) b with
        | nil =>
          rw [hu, List.nil_append] at he
          replace he := hide he
          replace hu := hide hu
          go_wp2_with (first
            | (go_at_call 32; refine hC.out.mono ?_; rintro e w2 ⟨v2, rfl, hf2, hm2⟩; rw [hnn.out] at hm2; replace hm2 : v2 = .nilIface := hm2; subst hm2; have n2 := (hf2.blk N1.out id).cell 2; have SS := hf2.blk S1.out id; have z0 := SS.cell 0; have z1 := SS.cell 1; simp only [List.getElem?_cons_zero, List.getElem?_cons_succ] at n2 z0 z1; replace hf2 := hide hf2; clear SS)
            | (go_at_call 34; refine (hCb.out w2 hf2.out).mono ?_; rintro e w3 ⟨v3, rfl, hf3, hm3⟩; rw [hu.out] at hm3; replace hm3 : v3 = .nilIface := hm3; subst hm3; replace hf3 := hide hf3))
          go_roundg (ds.length + 1 - (q + 1))
          case measure => omega
          case rel => exact ⟨q + 1, rfl, hlt, Nat.le_refl _, (hf1.out.trans hf2.out (fun _ _ e => e)).trans hf3.out (fun _ _ f => f), by rw [htk]; exact he.out⟩
        | cons y r =>
          rw [hu, List.cons_append] at he
          have hL := hide (show nameF ds t = y :: (r ++ defF (envOf ds) ((ds.take q).map PD.letter ++ [l]) (ds.drop (q + 1)) ++ useF (envOf ds) (usesOf t)) by unfold nameF; rw [he]; rfl)
          clear he htk
          replace hu := hide hu
          go_wp2_with (first
            | (go_at_call 32; refine hC.out.mono ?_; rintro e w2 ⟨v2, rfl, hf2, hm2⟩; rw [hnn.out] at hm2; replace hm2 : v2 = .nilIface := hm2; subst hm2; have n2 := (hf2.blk N1.out id).cell 2; have SS := hf2.blk S1.out id; have z0 := SS.cell 0; have z1 := SS.cell 1; simp only [List.getElem?_cons_zero, List.getElem?_cons_succ] at n2 z0 z1; replace hf2 := hide hf2; clear SS)
            | (go_at_call 34; refine (hCb.out w2 hf2.out).mono ?_; rintro e w3 ⟨v3, rfl, hf3, hm3⟩; rw [hu.out] at hm3; obtain ⟨g3, hg1, rfl, hg2⟩ := hm3; replace hf3 := hide hf3; replace hg2 := hide hg2))
          try go_ret
          rw [hPOST.out]
          have hF2 := (hf0.out.trans hf1.out (fun _ _ f => f)).trans hf2.out (fun _ _ f => f)
          have hs2 := hF2.size
          refine ⟨_, rfl, hF2.trans hf3.out (fun _ _ f => f), ?_⟩
          rw [hL.out]
          exact ⟨g3, by omega, rfl, hg2.out⟩
    · have hlt' : ¬ ((q : Int) < (ds.length : Int)) := by omega
      rw [List.drop_eq_nil_of_le (by omega), defF] at he
      have hL := hide (show nameF ds t = useF (envOf ds) (usesOf t) by unfold nameF; rw [he]; rfl)
      have hC := hide (uses_ok _ t (Nat.le_refl _) hfew wr P s ds (.slice sa ds.length sc) (.iface rT rx) (.iface rT rx) xs et ex (D0.out.fr hf (fun _ _ f => f)) (hT0.out.fr hf (fun _ _ f => f)) (hE0.out.fr hf id))
      replace hf := hide hf
      clear he hS
      go_wp2_with (go_at_call 35; refine hC.out.mono ?_; rintro e w2 ⟨v2, rfl, hf2, hm2⟩; replace hf2 := hide hf2; replace hm2 := hide hm2)
      try go_ret
      rw [hPOST.out]
      have hF := hf0.out.trans hf.out (fun _ _ f => f)
      have hs := hF.size
      refine ⟨v2, rfl, hF.trans hf2.out (fun _ _ f => f), ?_⟩
      rw [hL.out]
      have hm' := hm2.out
      cases hu : useF (envOf ds) (usesOf t) with
      | nil => rw [hu] at hm'; exact hm'
      | cons y r => rw [hu] at hm'; exact hm'.less hs
end Go.Proofs.YthndngbnioacpaaGreatDoor
namespace Go.Proofs.YthndngbnioacpaaGreatDoor
open Go.RowKit
def wrapOK : PT → Prop
  | .wrap c _ _ => c = 91 ∨ c = 123
  | _ => True
set_option maxHeartbeats 4000000 in
set_option maxRecDepth 100000 in
theorem pisUnion_any {w : World} {P : Nat → Prop} {t : PT} {v : Value} (h : TyV w P t v) (hw : wrapOK t) :
    Calls Tryz.prog 60 #[v] w fun e w' => e = .returned (.bool (decide (t.kind = 40))) ∧ Fr w w' (fun _ => False) := by
  cases h with
  | base c p hc =>
    have hk : decide ((PT.leaf c p).kind = 40) = false := by
      simp only [isBase, Bool.or_eq_true, beq_iff_eq] at hc
      exact decide_eq_false (by simp only [PT.kind]; omega)
    rw [hk]
    obtain ⟨u, hu⟩ : ∃ u, u = baseT c := ⟨_, rfl⟩
    rw [← hu]
    have hn := baseT_ne c
    rw [← hu] at hn
    have a1 := asUnion_no u hn.2.2.1
    clear hu hn hk
    go_enter Tryz.func60, Tryz.ntmps60
    go_wp2_with fail
    try go_ret
    exact ⟨rfl, (Fr.refl w _).alloc _⟩
  | name c p hc =>
    have hk : decide ((PT.leaf c p).kind = 40) = false := by
      simp only [isName, Bool.and_eq_true, decide_eq_true_eq] at hc
      exact decide_eq_false (by simp only [PT.kind]; omega)
    rw [hk]
    have a1 := asUnion_no 147 (by decide)
    clear hk
    go_enter Tryz.func60, Tryz.ntmps60
    go_wp2_with fail
    try go_ret
    exact ⟨rfl, (Fr.refl w _).alloc _⟩
  | wrap c p h =>
    rename_i t0 v0
    have hk : decide ((PT.wrap c p t0).kind = 40) = false := by
      refine decide_eq_false ?_
      show ¬ (c = 40)
      rcases hw with h | h <;> omega
    rw [hk]
    obtain ⟨u, hu, hn⟩ : ∃ u, u = wrapT c ∧ u ≠ 158 := ⟨wrapT c, rfl, by unfold wrapT; split <;> decide⟩
    rw [← hu]
    have a1 := asUnion_no u hn
    clear hu hn hk
    go_enter Tryz.func60, Tryz.ntmps60
    go_wp2_with fail
    try go_ret
    exact ⟨rfl, (Fr.refl w _).alloc _⟩
  | alts p X ho hP h =>
    rename_i l sv
    have a1 := asUnion_yes
    have hk : decide ((PT.alts p l).kind = 40) = true := rfl
    rw [hk]
    obtain ⟨sa, sc, rfl⟩ := own_sl ho
    clear ho hP h hk
    go_enter Tryz.func60, Tryz.ntmps60
    go_wp2_with fail
    try go_ret
    exact ⟨rfl, (Fr.refl w _).alloc _⟩
set_option maxHeartbeats 4000000 in
set_option maxRecDepth 100000 in
theorem pkindOf_any {w : World} {P : Nat → Prop} {t : PT} {v : Value} (h : TyV w P t v) (hw : wrapOK t) (h40 : t.kind ≠ 40) :
    Calls Tryz.prog 62 #[v] w fun e w' => e = .returned (.int .u8 (t.kind : Int)) ∧ Fr w w' (fun _ => False) := by
  cases h with
  | base c p hc =>
    simp only [isBase, Bool.or_eq_true, beq_iff_eq] at hc
    simp only [PT.kind]
    clear hw h40
    rcases hc with (((rfl | rfl) | rfl) | rfl) | rfl
    · rw [show baseT 110 = 136 from rfl]
      have a0 := asNothing_yes
      go_enter Tryz.func62, Tryz.ntmps62
      go_wp2_with fail
      try go_ret
      exact ⟨rfl, (Fr.refl w _).alloc _⟩
    · rw [show baseT 116 = 137 from rfl]
      have a0 := asNothing_no 137 (by decide)
      have a1 := asTruth_yes
      go_enter Tryz.func62, Tryz.ntmps62
      go_wp2_with fail
      try go_ret
      exact ⟨rfl, (Fr.refl w _).alloc _⟩
    · rw [show baseT 105 = 138 from rfl]
      have a0 := asNothing_no 138 (by decide)
      have a1 := asTruth_no 138 (by decide)
      have a2 := asInt_yes
      go_enter Tryz.func62, Tryz.ntmps62
      go_wp2_with fail
      try go_ret
      exact ⟨rfl, (Fr.refl w _).alloc _⟩
    · rw [show baseT 108 = 139 from rfl]
      have a0 := asNothing_no 139 (by decide)
      have a1 := asTruth_no 139 (by decide)
      have a2 := asInt_no 139 (by decide)
      have a3 := asLong_yes
      go_enter Tryz.func62, Tryz.ntmps62
      go_wp2_with fail
      try go_ret
      exact ⟨rfl, (Fr.refl w _).alloc _⟩
    · rw [show baseT 115 = 140 from rfl]
      have a0 := asNothing_no 140 (by decide)
      have a1 := asTruth_no 140 (by decide)
      have a2 := asInt_no 140 (by decide)
      have a3 := asLong_no 140 (by decide)
      have a4 := asText_yes
      go_enter Tryz.func62, Tryz.ntmps62
      go_wp2_with fail
      try go_ret
      exact ⟨rfl, (Fr.refl w _).alloc _⟩
  | name c p hc =>
    simp only [PT.kind]
    clear hw h40 hc
    have a0 := asNothing_no 147 (by decide)
    have a1 := asTruth_no 147 (by decide)
    have a2 := asInt_no 147 (by decide)
    have a3 := asLong_no 147 (by decide)
    have a4 := asText_no 147 (by decide)
    have a5 := asList_no 147 (by decide)
    have a6 := asMap_no 147 (by decide)
    have a7 := asName_yes
    go_enter Tryz.func62, Tryz.ntmps62
    go_wp2_with fail
    try go_ret
    exact ⟨rfl, (Fr.refl w _).alloc _⟩
  | wrap c p h =>
    obtain ⟨vT, vx, rfl⟩ := h.iface
    simp only [PT.kind]
    clear h40 h
    rcases hw with rfl | rfl
    · rw [show wrapT 91 = 143 from rfl]
      have a0 := asNothing_no 143 (by decide)
      have a1 := asTruth_no 143 (by decide)
      have a2 := asInt_no 143 (by decide)
      have a3 := asLong_no 143 (by decide)
      have a4 := asText_no 143 (by decide)
      have a5 := asList_yes
      go_enter Tryz.func62, Tryz.ntmps62
      go_wp2_with fail
      try go_ret
      exact ⟨rfl, (Fr.refl w _).alloc _⟩
    · rw [show wrapT 123 = 144 from rfl]
      have a0 := asNothing_no 144 (by decide)
      have a1 := asTruth_no 144 (by decide)
      have a2 := asInt_no 144 (by decide)
      have a3 := asLong_no 144 (by decide)
      have a4 := asText_no 144 (by decide)
      have a5 := asList_no 144 (by decide)
      have a6 := asMap_yes
      go_enter Tryz.func62, Tryz.ntmps62
      go_wp2_with fail
      try go_ret
      exact ⟨rfl, (Fr.refl w _).alloc _⟩
  | alts p X ho hP h => exact absurd rfl h40
set_option maxHeartbeats 4000000 in
set_option maxRecDepth 100000 in
theorem phasKind_any {w : World} {P : Nat → Prop} {l : List PT} {sv : Value} {X : Nat → Value} {n k : Nat} {ys : List Value} (ho : w.ownsRow 0 32 1 sv n ys) (hn : n ≤ l.length) (hoP : ∀ g, sv.ownBlock = some g → P g) (hy : ∀ i t, i < n → l[i]? = some t → ys[i]? = some (X i) ∧ TyV w P t (X i)) (hok : ∀ t ∈ l, wrapOK t) (h40 : ∀ t ∈ l.take n, t.kind ≠ 40) (hln : n ≤ 300) :
    Calls Tryz.prog 61 #[sv, .int .u8 (k : Int)] w fun e w' => e = .returned (.bool (decide (k ∈ (l.take n).map PT.kind))) ∧ Fr w w' (fun _ => False) := by
  obtain ⟨POST, hPOST⟩ : ∃ Q, Hid (Q = fun (e : Ending) (w' : World) => e = .returned (.bool (decide (k ∈ (l.take n).map PT.kind))) ∧ Fr w w' (fun _ => False)) := ⟨_, rfl⟩
  rw [← hPOST.out]
  obtain ⟨sa, sc, rfl⟩ := own_sl ho
  have start : Hid (∃ q : Nat, Value.int .i64 0 = .int .i64 (q : Int) ∧ q ≤ n ∧ n + 1 - q ≤ n + 1 ∧ Fr w w (fun _ => False) ∧ k ∉ (l.take q).map PT.kind) := hide ⟨0, rfl, Nat.zero_le _, by omega, Fr.refl _ _, by simp⟩
  replace ho := hide ho
  replace hy := hide hy
  go_enter Tryz.func61, Tryz.ntmps61
  go_wp2_with fail
  go_loopg [9] (n + 1) (fun m v W => ∃ q : Nat, v = .int .i64 (q : Int) ∧ q ≤ n ∧ n + 1 - q ≤ m ∧ Fr w W (fun _ => False) ∧ k ∉ (l.take q).map PT.kind)
  case atStart => exact start.out
  case round =>
    clear start
    obtain ⟨q, rfl, hq, hm, hf, he⟩ := hrel
    by_cases hlt : q < n
    · have hlt' : (q : Int) < (n : Int) := by omega
      have hql : q < l.length := by omega
      have hd : l[q]? = some l[q] := List.getElem?_eq_getElem hql
      have hmem : l[q] ∈ l := List.getElem_mem hql
      have hmt : l[q] ∈ l.take n := by
        rw [List.mem_iff_getElem?]
        exact ⟨q, by rw [List.getElem?_take, if_pos hlt]; exact hd⟩
      generalize l[q] = t at hd hmem hmt
      obtain ⟨g, cap, hgc⟩ := own_form ho.out (by omega)
      cases hgc
      obtain ⟨y1, y2⟩ := hy.out q t hlt hd
      obtain ⟨T, x, e⟩ := y2.iface
      rw [e] at y1 y2
      have c0 := own_cell (ownsRow_fr ho.out hf (fun _ _ f => f)) rfl y1
      have hC := hide (pkindOf_any (y2.fr hf (fun _ _ f => f)) (hok t hmem) (h40 t hmt))
      have htk : (l.take (q + 1)).map PT.kind = (l.take q).map PT.kind ++ [t.kind] := by rw [List.take_add_one, hd]; simp
      obtain ⟨kk, hkk⟩ : ∃ kk, t.kind = kk := ⟨_, rfl⟩
      rw [hkk] at hC htk
      replace hf := hide hf
      clear y1 y2 e hkk
      by_cases hk : kk = k
      · subst hk
        have hin : Hid (kk ∈ (l.take n).map PT.kind) := hide (by
          have : (l.take (q + 1)).map PT.kind <+: (l.take n).map PT.kind := (List.take_prefix_take_left (by omega)).map PT.kind
          exact this.subset (by rw [htk]; simp))
        clear htk he
        go_wp2_with (go_at_call 62; refine hC.out.mono ?_; rintro e w2 ⟨rfl, hf2⟩; replace hf2 := hide hf2)
        try go_ret
        rw [hPOST.out]
        exact ⟨by rw [decide_eq_true hin.out]; rfl, hf.out.trans hf2.out (fun _ _ f => f)⟩
      · have hk' : ((kk : Int) == (k : Int)) = false := by simp; omega
        have he' := hide (show k ∉ (l.take (q + 1)).map PT.kind by rw [htk, List.mem_append, List.mem_singleton]; rintro (h | h); exact he h; exact hk h.symm)
        clear htk he
        go_wp2_with (go_at_call 62; refine hC.out.mono ?_; rintro e w2 ⟨rfl, hf2⟩; replace hf2 := hide hf2)
        go_roundg (n + 1 - (q + 1))
        case measure => omega
        case rel => exact ⟨q + 1, rfl, hlt, Nat.le_refl _, hf.out.trans hf2.out (fun _ _ f => f), he'.out⟩
    · have hlt' : ¬ ((q : Int) < (n : Int)) := by omega
      have hqn : q = n := by omega
      rw [hqn] at he
      replace he := hide he
      replace hf := hide hf
      clear hqn
      go_wp2_with fail
      try go_ret
      rw [hPOST.out]
      exact ⟨by rw [decide_eq_false he.out], hf.out⟩
end Go.Proofs.YthndngbnioacpaaGreatDoor
