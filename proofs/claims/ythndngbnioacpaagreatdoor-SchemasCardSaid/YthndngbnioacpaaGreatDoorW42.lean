import Derived.Test.YthndngbnioacpaaGreatDoorW41
import Derived.Test.YthndngbnioacpaaGreatDoorW19
namespace Go.Proofs.YthndngbnioacpaaGreatDoor
open Go.RowKit Go.Extern.Stop Go.Stop Go.Extern
theorem rv_method (z : Sem Value) (f : TypeId → Addr → Nat → Nat → Sem Value) (v : Value) :
    ReflectliteValue.method z f #[v] = (do match ← ReflectliteValue.parts v with | none => z | some (t, a, fl) => f t a fl (fl % 32)) := rfl
theorem rv_partsPF (a : Addr) (w : World) : (ReflectliteValue.parts (.agg #[.pointer (some ⟨23, 66, none⟩), .pointer (some a), .int .u64 150])).run Tryz.prog w = .ok (some (66, a, 150)) w := by kernel_rfl
theorem rv_partsF (a : Addr) (w : World) : (ReflectliteValue.parts (.agg #[.pointer (some ⟨23, 64, none⟩), .pointer (some a), .int .u64 150])).run Tryz.prog w = .ok (some (64, a, 150)) w := by kernel_rfl
theorem rv_partsFa (a : Addr) (w : World) : (ReflectliteValue.parts (.agg #[.pointer (some ⟨23, 64, none⟩), .pointer (some a), .int .u64 406])).run Tryz.prog w = .ok (some (64, a, 406)) w := by kernel_rfl
theorem as_isNil (a p : Addr) (W : World) (ha : W.cell? a = some (.pointer (some p))) :
    (callFunc 43 #[.agg #[.pointer (some ⟨23, 66, none⟩), .pointer (some a), .int .u64 150]]).run Tryz.prog W = .ok (.value (.bool false)) W := by
  rw [@run_callFunc_extern Tryz.prog 43 _ (ReflectliteValue.method (ReflectliteValue.valueError "reflectlite.Value.IsNil" 0) ReflectliteValue.isNil) Tryz.func43 (by kernel_rfl) (by kernel_rfl) (by kernel_rfl) (by kernel_rfl), rv_method]
  simp only [Sem.run_bind, rv_partsPF, Result.andThen]
  simp [ReflectliteValue.isNil, loadVar, isAgg, underlying, Tryz.underlying66, ha, Result.andThen]
theorem rv_elemT (w : World) : (Rtype.elem? 66).run Tryz.prog w = .ok (some 64) w := by kernel_rfl
theorem rv_mk (p : Addr) (w : World) : (ReflectliteValue.mk 64 p ReflectliteValue.flagAddr).run Tryz.prog w = .ok (.agg #[.pointer (some ⟨23, 64, none⟩), .pointer (some p), .int .u64 406]) w := by kernel_rfl
theorem as_elemV (a p : Addr) (W : World) (ha : W.cell? a = some (.pointer (some p))) :
    (callFunc 64 #[.agg #[.pointer (some ⟨23, 66, none⟩), .pointer (some a), .int .u64 150]]).run Tryz.prog W = .ok (.value (.agg #[.pointer (some ⟨23, 64, none⟩), .pointer (some p), .int .u64 406])) W := by
  rw [@run_callFunc_extern Tryz.prog 64 _ (ReflectliteValue.method (ReflectliteValue.valueError "reflectlite.Value.Elem" 0) ReflectliteValue.elem) Tryz.func64 (by kernel_rfl) (by kernel_rfl) (by kernel_rfl) (by kernel_rfl), rv_method]
  simp only [Sem.run_bind, rv_partsPF, Result.andThen]
  simp [ReflectliteValue.elem, loadVar, isAgg, underlying, Tryz.underlying66, ha, Result.andThen, rv_elemT, rv_mk]
theorem rv_set2 {motive : Array Value → Sort _} (v x : Value) (h1 : ∀ v x : Value, motive #[v, x]) (h2 : ∀ a, motive a) : ReflectliteValue.set.match_3 motive #[v, x] h1 h2 = h1 v x := rfl
theorem rv_direct (w : World) : (Rtype.directlyAssignable 64 64).run Tryz.prog w = .ok true w := by kernel_rfl
theorem as_set (ta b e : Addr) (old : Value) (W : World) (hb : W.cell? b = some (.pointer (some e))) (ht : W.cell? ta = some old) (hf : W.frozen? ta = false) :
    (callFunc 65 #[.agg #[.pointer (some ⟨23, 64, none⟩), .pointer (some ta), .int .u64 406], .agg #[.pointer (some ⟨23, 64, none⟩), .pointer (some b), .int .u64 150]]).run Tryz.prog W = .ok (.value (.tuple #[])) (W.setCell ta (.pointer (some e))) := by
  rw [@run_callFunc_extern Tryz.prog 65 _ ReflectliteValue.set Tryz.func65 (by kernel_rfl) (by kernel_rfl) (by kernel_rfl) (by kernel_rfl)]
  delta ReflectliteValue.set
  rw [rv_set2]
  simp only [Sem.run_bind, rv_partsFa, rv_partsF, Result.andThen]
  simp [ReflectliteValue.flagAddr, loadVar, isAgg, underlying, Tryz.underlying64, hb, Result.andThen, rv_direct, storeVar, Value.cells, storeCells, Addr.add]
  rw [run_store Tryz.prog W ta _ _ (by rfl)]
  simp [ht, hf]
end Go.Proofs.YthndngbnioacpaaGreatDoor
namespace Go.Proofs.YthndngbnioacpaaGreatDoor
open Go.RowKit Go.Extern.Stop Go.Stop Go.Extern
set_option maxHeartbeats 4000000 in
set_option maxRecDepth 100000 in
theorem eAs_hit (e t : Addr) (old : Value) (w : World) (hg : w.cell? ⟨10, 0, none⟩ = some (.iface 167 (.agg #[.pointer (some ⟨23, 36, none⟩)]))) (ht0 : w.cell? t = some old) (hf0 : w.frozen? t = false) :
    Calls Tryz.prog 20 #[.iface 64 (.pointer (some e)), .iface 66 (.pointer (some t))] w fun ev w' => ev = .returned (.bool true) ∧ w' = ((((w.alloc (.cells #[.pointer (some t)] 66)).alloc (.cells #[.pointer (some ⟨23, 66, none⟩), .pointer (some ⟨w.heap.size, 0, none⟩), .int .u64 150] 114)).alloc (.cells #[.pointer (some ⟨23, 66, none⟩), .pointer (some ⟨w.heap.size, 0, none⟩), .int .u64 150] 114)).alloc (.cells #[.pointer (some e)] 64)).setCell t (.pointer (some e)) := by
  have f6 := as_valueOf
  have f7 := as_type
  have mK := as_methodKind
  have mE := as_methodElem
  have mI := as_methodImplements
  have mA := as_methodAssignableTo
  have k1 := as_kindPF
  have k2 := as_kindF
  have e1 := as_elem
  have i1 := as_impl
  have n8 := as_isNil ⟨w.heap.size, 0, none⟩ t ((w.alloc (.cells #[.pointer (some t)] 66)).alloc (.cells #[.pointer (some ⟨23, 66, none⟩), .pointer (some ⟨w.heap.size, 0, none⟩), .int .u64 150] 114)) (by simp)
  have hlt := World.block_lt_of_cell? w ⟨10, 0, none⟩ hg
  simp only at hlt
  have hg2 : ((w.alloc (.cells #[.pointer (some t)] 66)).alloc (.cells #[.pointer (some ⟨23, 66, none⟩), .pointer (some ⟨w.heap.size, 0, none⟩), .int .u64 150] 114)).cell? ⟨10, 0, none⟩ = some (.iface 167 (.agg #[.pointer (some ⟨23, 36, none⟩)])) := by
    rw [World.cell?_alloc_lt _ _ ⟨10, 0, none⟩ (by simp; omega), World.cell?_alloc_lt _ _ ⟨10, 0, none⟩ hlt]; exact hg
  have tO := as_typeOfF
  have aF := as_assF
  have vF := as_valueOfF
  have htl := World.block_lt_of_cell? w t ht0
  have el := as_elemV ⟨w.heap.size, 0, none⟩ t (((w.alloc (.cells #[.pointer (some t)] 66)).alloc (.cells #[.pointer (some ⟨23, 66, none⟩), .pointer (some ⟨w.heap.size, 0, none⟩), .int .u64 150] 114)).alloc (.cells #[.pointer (some ⟨23, 66, none⟩), .pointer (some ⟨w.heap.size, 0, none⟩), .int .u64 150] 114)) (by rw [World.cell?_alloc_lt _ _ ⟨w.heap.size, 0, none⟩ (by simp; omega)]; simp)
  have st := as_set t ⟨w.heap.size + 1 + 1 + 1, 0, none⟩ e old ((((w.alloc (.cells #[.pointer (some t)] 66)).alloc (.cells #[.pointer (some ⟨23, 66, none⟩), .pointer (some ⟨w.heap.size, 0, none⟩), .int .u64 150] 114)).alloc (.cells #[.pointer (some ⟨23, 66, none⟩), .pointer (some ⟨w.heap.size, 0, none⟩), .int .u64 150] 114)).alloc (.cells #[.pointer (some e)] 64))
    (by rw [World.cell?_alloc_at _ _ _ _ (by simp)]; rfl)
    (by rw [World.cell?_alloc_lt _ _ t (by simp; omega), World.cell?_alloc_lt _ _ t (by simp; omega), World.cell?_alloc_lt _ _ t (by simp; omega), World.cell?_alloc_lt _ _ t htl]; exact ht0)
    (by rw [World.frozen?_alloc_old _ _ t (by simp; omega), World.frozen?_alloc_old _ _ t (by simp; omega), World.frozen?_alloc_old _ _ t (by simp; omega), World.frozen?_alloc_old _ _ t (Nat.ne_of_lt htl)]; exact hf0)
  go_enter Tryz.func20, Tryz.ntmps20
  go_wp2
  refine wp_loop_rounds 1 ?_
  rw [rounds_succ]
  go_wp2
  go_ret
  exact ⟨rfl, rfl⟩
set_option maxHeartbeats 4000000 in
set_option maxRecDepth 100000 in
theorem eAs_leaf (a t : Addr) (w : World) (hg : w.cell? ⟨10, 0, none⟩ = some (.iface 167 (.agg #[.pointer (some ⟨23, 36, none⟩)]))) :
    Calls Tryz.prog 20 #[.iface 266 (.pointer (some a)), .iface 66 (.pointer (some t))] w fun ev w' => ev = .returned (.bool false) ∧ w' = (((w.alloc (.cells #[.pointer (some t)] 66)).alloc (.cells #[.pointer (some ⟨23, 66, none⟩), .pointer (some ⟨w.heap.size, 0, none⟩), .int .u64 150] 114)).alloc (.cells #[.pointer (some ⟨23, 66, none⟩), .pointer (some ⟨w.heap.size, 0, none⟩), .int .u64 150] 114)) := by
  have f6 := as_valueOf
  have f7 := as_type
  have mK := as_methodKind
  have mE := as_methodElem
  have mI := as_methodImplements
  have mA := as_methodAssignableTo
  have k1 := as_kindPF
  have k2 := as_kindF
  have e1 := as_elem
  have i1 := as_impl
  have n8 := as_isNil ⟨w.heap.size, 0, none⟩ t ((w.alloc (.cells #[.pointer (some t)] 66)).alloc (.cells #[.pointer (some ⟨23, 66, none⟩), .pointer (some ⟨w.heap.size, 0, none⟩), .int .u64 150] 114)) (by simp)
  have hlt := World.block_lt_of_cell? w ⟨10, 0, none⟩ hg
  simp only at hlt
  have hg2 : ((w.alloc (.cells #[.pointer (some t)] 66)).alloc (.cells #[.pointer (some ⟨23, 66, none⟩), .pointer (some ⟨w.heap.size, 0, none⟩), .int .u64 150] 114)).cell? ⟨10, 0, none⟩ = some (.iface 167 (.agg #[.pointer (some ⟨23, 36, none⟩)])) := by
    rw [World.cell?_alloc_lt _ _ ⟨10, 0, none⟩ (by simp; omega), World.cell?_alloc_lt _ _ ⟨10, 0, none⟩ hlt]; exact hg
  have tO := as_typeOfE
  have aF := as_assE
  have nA := noAsE
  have nU := noUnwrapE
  have nV := noUnwrapsE
  go_enter Tryz.func20, Tryz.ntmps20
  go_wp2
  refine wp_loop_rounds 1 ?_
  rw [rounds_succ]
  go_wp2
  go_ret
  exact ⟨rfl, rfl⟩
end Go.Proofs.YthndngbnioacpaaGreatDoor
namespace Go.Proofs.YthndngbnioacpaaGreatDoor
open Go.RowKit
def ErrTy (w : World) : Prop := w.cell? ⟨10, 0, none⟩ = some (.iface 167 (.agg #[.pointer (some ⟨23, 36, none⟩)]))
theorem ErrTy.fr {w w' : World} (h : ErrTy w) (hf : Fr w w' (fun _ => False)) : ErrTy w' :=
  (World.cell?_of_block (a := ⟨10, 0, none⟩) (hf.block _ (World.block_lt_of_cell? w ⟨10, 0, none⟩ h) id)).trans h
set_option maxHeartbeats 4000000 in
set_option maxRecDepth 100000 in
theorem place_fault {w : World} {lo : Nat} {v cv : Value} {p : Int} (h : FaultAt w lo v p cv) (hg : ErrTy w) :
    Calls Tryz.prog 9 #[v] w fun e w' => e = .returned (.int .i64 p) ∧ Fr w w' (fun _ => False) := by
  obtain ⟨POST, hPOST⟩ : ∃ Q, Hid (Q = fun (e : Ending) (w' : World) => e = .returned (.int .i64 p) ∧ Fr w w' (fun _ => False)) := ⟨_, rfl⟩
  rw [← hPOST.out]
  obtain ⟨g, _, rfl, hb⟩ := h
  have hf0 : Fr w (w.alloc (.cells #[.pointer none] 64)) (fun _ => False) := (Fr.refl w _).alloc _
  have B0 := Blk.new w #[.pointer none] 64
  have c0 := B0.cell 0
  have g0 := B0.thaw 0
  simp only [List.getElem?_cons_zero] at c0
  have hC := hide (eAs_hit ⟨g, 0, none⟩ ⟨w.heap.size, 0, none⟩ (.pointer none) (w.alloc (.cells #[.pointer none] 64)) (hg.fr hf0) c0 g0)
  have hbl := hb.lt
  have hk : Hid (∀ w5, w5 = (((((w.alloc (.cells #[.pointer none] 64)).alloc (.cells #[.pointer (some ⟨w.heap.size, 0, none⟩)] 66)).alloc (.cells #[.pointer (some ⟨23, 66, none⟩), .pointer (some ⟨(w.alloc (.cells #[.pointer none] 64)).heap.size, 0, none⟩), .int .u64 150] 114)).alloc (.cells #[.pointer (some ⟨23, 66, none⟩), .pointer (some ⟨(w.alloc (.cells #[.pointer none] 64)).heap.size, 0, none⟩), .int .u64 150] 114)).alloc (.cells #[.pointer (some ⟨g, 0, none⟩)] 64)).setCell ⟨w.heap.size, 0, none⟩ (.pointer (some ⟨g, 0, none⟩)) → Fr w w5 (fun _ => False) ∧ w5.cell? ⟨w.heap.size, 0, none⟩ = some (.pointer (some ⟨g, 0, none⟩)) ∧ w5.cell? ⟨g, 0, none⟩ = some (.int .i64 p)) := by
    refine hide (fun w5 hw5 => ?_)
    have h1 : Fr w w5 (fun _ => False) := by
      rw [hw5]
      exact Fr.trans ((((hf0.alloc _).alloc _).alloc _).alloc _) ((Fr.refl _ (fun x => x = w.heap.size)).setCell ⟨w.heap.size, 0, none⟩ _ (fun _ => rfl)) (fun x hx e => by omega)
    have h2 := (h1.blk hb id).cell 0
    have h3 := (((((B0.alloc (.cells #[.pointer (some ⟨w.heap.size, 0, none⟩)] 66)).alloc (.cells #[.pointer (some ⟨23, 66, none⟩), .pointer (some ⟨(w.alloc (.cells #[.pointer none] 64)).heap.size, 0, none⟩), .int .u64 150] 114)).alloc (.cells #[.pointer (some ⟨23, 66, none⟩), .pointer (some ⟨(w.alloc (.cells #[.pointer none] 64)).heap.size, 0, none⟩), .int .u64 150] 114)).alloc (.cells #[.pointer (some ⟨g, 0, none⟩)] 64)).set 0 (.pointer (some ⟨g, 0, none⟩))).cell 0
    rw [← hw5] at h3
    exact ⟨h1, h3, h2⟩
  clear hg hf0 B0 c0 g0 hb
  go_enter Tryz.func9, Tryz.ntmps9
  go_wp2_with (go_at_call 20; refine hC.out.mono ?_; rintro e w5 ⟨rfl, hw5⟩; obtain ⟨f5, t5, p5⟩ := hk.out w5 hw5; clear hw5 hk hC; replace f5 := hide f5)
  rw [hPOST.out]
  exact ⟨rfl, f5.out⟩
set_option maxHeartbeats 4000000 in
set_option maxRecDepth 100000 in
theorem place_leaf {w : World} (a : Addr) (hg : ErrTy w) :
    Calls Tryz.prog 9 #[.iface 266 (.pointer (some a))] w fun e w' => e = .returned (.int .i64 0) ∧ Fr w w' (fun _ => False) := by
  obtain ⟨POST, hPOST⟩ : ∃ Q, Hid (Q = fun (e : Ending) (w' : World) => e = .returned (.int .i64 0) ∧ Fr w w' (fun _ => False)) := ⟨_, rfl⟩
  rw [← hPOST.out]
  have hf0 : Fr w (w.alloc (.cells #[.pointer none] 64)) (fun _ => False) := (Fr.refl w _).alloc _
  have hC := hide (eAs_leaf a ⟨w.heap.size, 0, none⟩ (w.alloc (.cells #[.pointer none] 64)) (hg.fr hf0))
  replace hf0 := hide hf0
  clear hg
  go_enter Tryz.func9, Tryz.ntmps9
  go_wp2_with (go_at_call 20; refine hC.out.mono ?_; rintro e w5 ⟨rfl, hw5⟩; have f5 : Fr w w5 (fun _ => False) := (by rw [hw5]; exact ((hf0.out.alloc _).alloc _).alloc _); clear hw5 hC; replace f5 := hide f5)
  rw [hPOST.out]
  exact ⟨rfl, f5.out⟩
end Go.Proofs.YthndngbnioacpaaGreatDoor
namespace Go.Proofs.YthndngbnioacpaaGreatDoor
open Go.RowKit
def CloneOK : Prop := ∀ (s : ByteArray) (w : World), s.size ≤ 300 → Calls Tryz.prog 21 #[.string s] w fun e w' => e = .returned (.string s) ∧ Fr w w' (fun _ => False)
set_option maxHeartbeats 1000000 in
theorem sClone_any (hC : CloneOK) {s : ByteArray} {w : World} (hs : s.size ≤ 300) :
    Calls Tryz.prog 10 #[.string s] w fun e w' => e = .returned (.string s) ∧ Fr w w' (fun _ => False) := by
  have hC0 := hide (hC s w hs)
  clear hC
  go_enter Tryz.func10, Tryz.ntmps10
  go_wp2_with (go_at_call 21; refine hC0.out.mono ?_; rintro e w1 ⟨rfl, hf⟩; replace hf := hide hf)
  go_ret
  exact ⟨rfl, hf.out⟩
def errsOf (A : Nat → Addr) : Errs :=
  ⟨266, .pointer (some (A 0)), 266, .pointer (some (A 1)), 266, .pointer (some (A 2)), 266, .pointer (some (A 3)), 266, .pointer (some (A 4))⟩
theorem Sents.errs {A : Nat → Addr} {w : World} (S : Sents A w) : (errsOf A).At w :=
  ⟨S.var _ (by decide), S.var _ (by decide), S.var _ (by decide), S.var _ (by decide), S.var _ (by decide)⟩
theorem ErrD.chain {A : Nat → Addr} {w : World} {lo : Nat} {v : Value} (h : ErrD w lo (errsOf A).nt (errsOf A).nx v) : ∃ n, Chain w (A 4) n v := by
  induction h with
  | base => exact ⟨0, .leaf⟩
  | within g hg tx hb h ih =>
    obtain ⟨n, ih⟩ := ih
    exact ⟨n + 1, .within g tx _ n hb ih⟩
theorem ErrFor.fr {E : Errs} {w w' : World} {lo : Nat} {ev : Value} {a : Int × Int} (h : ErrFor E w lo ev a) (hf : Fr w w' (fun _ => False)) : ErrFor E w' lo ev a := by
  rcases h with h | h | ⟨h1, h2⟩ | ⟨h1, h2⟩ | ⟨h1, h2⟩ | ⟨h1, cv, h2, h3⟩
  · exact .inl h
  · exact .inr (.inl h)
  · exact .inr (.inr (.inl ⟨h1, h2.fr hf (fun _ _ f => f)⟩))
  · exact .inr (.inr (.inr (.inl ⟨h1, h2.fr hf (fun _ _ f => f)⟩)))
  · exact .inr (.inr (.inr (.inr (.inl ⟨h1, h2.fr hf (fun _ _ f => f)⟩))))
  · exact .inr (.inr (.inr (.inr (.inr ⟨h1, cv, h2.fr hf (fun _ _ f => f), h3.fr hf (fun _ _ f => f)⟩))))
theorem ErrFor.zero {E : Errs} {w : World} {lo : Nat} {ev : Value} {a : Int × Int} (h : ErrFor E w lo ev a) (h0 : a.1 = 0) : a.2 = 0 ∧ ev = .nilIface := by
  rcases h with ⟨_, h2, h3⟩ | ⟨h1, _⟩ | ⟨h1, _⟩ | ⟨h1, _⟩ | ⟨h1, _⟩ | ⟨h1, _⟩
  · exact ⟨h2, h3⟩
  all_goals (rw [h1] at h0; exact absurd h0 (by decide))
theorem ErrFor.calls {A : Nat → Addr} {w : World} {lo : Nat} {ev : Value} {a : Int × Int} (S : Sents A w) (hT : ErrTy w) (h : ErrFor (errsOf A) w lo ev a) (h0 : a.1 ≠ 0) :
    ∃ T x, ev = .iface T x ∧ (Calls Tryz.prog 8 #[ev] w fun e w' => e = .returned (.int .i64 a.1) ∧ w' = w) ∧ (Calls Tryz.prog 9 #[ev] w fun e w' => e = .returned (.int .i64 a.2) ∧ Fr w w' (fun _ => False)) := by
  have key : ∀ (v : Value) (p : Int) (cv : Value), FaultAt w lo v p cv → ∃ T x, v = .iface T x := fun v p cv ⟨g, _, h, _⟩ => ⟨_, _, h⟩
  have ch : ∀ (v : Value) (p : Int) (cv : Value) (b : Addr) (n : Nat), FaultAt w lo v p cv → Chain w b n cv → Chain w b (n + 1) v := fun v p cv b n ⟨g, _, h, hb⟩ hc => h ▸ .fault g p cv n hb hc
  rcases h with ⟨h1, _⟩ | ⟨h1, h2, h3⟩ | ⟨h1, h2⟩ | ⟨h1, h2⟩ | ⟨h1, h2⟩ | ⟨h1, cv, h2, h3⟩
  · exact absurd h1 h0
  · refine ⟨_, _, h3, ?_, ?_⟩
    · rw [h1, h3]; exact number_schemasErrLong S .leaf
    · rw [h2, h3]; exact place_leaf _ hT
  · obtain ⟨T, x, hv⟩ := key _ _ _ h2
    refine ⟨T, x, hv, ?_, place_fault h2 hT⟩
    rw [h1]; exact number_schemasErrGrammar S (ch _ _ _ _ _ h2 .leaf)
  · obtain ⟨T, x, hv⟩ := key _ _ _ h2
    refine ⟨T, x, hv, ?_, place_fault h2 hT⟩
    rw [h1]; exact number_schemasErrName S (ch _ _ _ _ _ h2 .leaf)
  · obtain ⟨T, x, hv⟩ := key _ _ _ h2
    refine ⟨T, x, hv, ?_, place_fault h2 hT⟩
    rw [h1]; exact number_schemasErrUnion S (ch _ _ _ _ _ h2 .leaf)
  · obtain ⟨T, x, hv⟩ := key _ _ _ h2
    obtain ⟨n, hc⟩ := h3.chain
    refine ⟨T, x, hv, ?_, place_fault h2 hT⟩
    rw [h1]; exact number_notationErrNotOf S (ch _ _ _ _ _ h2 hc)
end Go.Proofs.YthndngbnioacpaaGreatDoor
namespace Go.Proofs.YthndngbnioacpaaGreatDoor
open Go.RowKit
set_option maxHeartbeats 8000000 in
set_option maxRecDepth 100000 in
theorem kSchema_any {A : Nat → Addr} {w : World} {s : ByteArray} (S : Sents A w) (hT : ErrTy w) (hI : ItoaOK w) (hQ : QuoteOK w) (hN : NumAll w) (hCl : CloneOK) :
    Calls Tryz.prog 4 #[.string s] w fun e w' => e = .returned (.tuple #[.string (if (parseAns s).1 = 0 then s else ⟨#[]⟩), .int .i64 (parseAns s).1, .int .i64 (parseAns s).2]) ∧ Fr w w' (fun _ => False) := by
  obtain ⟨POST, hPOST⟩ : ∃ Q, Hid (Q = fun (e : Ending) (w' : World) => e = .returned (.tuple #[.string (if (parseAns s).1 = 0 then s else ⟨#[]⟩), .int .i64 (parseAns s).1, .int .i64 (parseAns s).2]) ∧ Fr w w' (fun _ => False)) := ⟨_, rfl⟩
  rw [← hPOST.out]
  have hR := hide (pRead_any (s := s) S.errs hI hQ hN)
  clear hI hQ hN
  by_cases h0 : (parseAns s).1 = 0
  · have hs : s.size ≤ 300 := by
      by_cases hl : 300 < s.size
      · unfold parseAns at h0; rw [if_pos hl] at h0; exact absurd h0 (by decide)
      · omega
    replace h0 := hide h0
    clear S hT
    go_enter Tryz.func4, Tryz.ntmps4
    go_wp2_with (first
      | (go_at_call 7; refine hR.out.mono ?_; rintro e w1 ⟨sv, rv, ev, rfl, ⟨sa, sn, sc, rfl⟩, hIr, hf1, hEr⟩; obtain ⟨ha2, rfl⟩ := hEr.zero h0.out; replace ha2 := hide ha2; replace hf1 := hide hf1; clear hEr; rcases hIr with rfl | ⟨rT, rx, rfl⟩)
      | (go_at_call 10; refine (sClone_any hCl hs).mono ?_; rintro e w2 ⟨rfl, hf2⟩; replace hf2 := hide hf2))
    all_goals
      refine bodyPost_ret (v := .tuple #[.string s, .int .i64 0, .int .i64 0]) (by simp [results, Tryz.results4, go_sem]) rfl ?_
      rw [hPOST.out]
      exact ⟨by rw [if_pos h0.out, h0.out, ha2.out], (hf1.out.alloc _).trans hf2.out (fun _ _ f => f.elim)⟩
  · replace h0 := hide h0
    replace S := hide S
    replace hT := hide hT
    go_enter Tryz.func4, Tryz.ntmps4
    go_wp2_with (first
      | (go_at_call 7; refine hR.out.mono ?_; rintro e w1 ⟨sv, rv, ev, rfl, ⟨sa, sn, sc, rfl⟩, hIr, hf1, hEr⟩; obtain ⟨T, x, rfl, _, _⟩ := hEr.calls (S.out.fr hf1) (hT.out.fr hf1) h0.out; have hk3 : Hid (∀ W, Fr w1 W (fun _ => False) → (Calls Tryz.prog 8 #[.iface T x] W fun e w' => e = .returned (.int .i64 (parseAns s).1) ∧ w' = W) ∧ (Calls Tryz.prog 9 #[.iface T x] W fun e w' => e = .returned (.int .i64 (parseAns s).2) ∧ Fr W w' (fun _ => False))) := (hide (fun W hf => (by obtain ⟨T', x', e', h1, h2⟩ := (hEr.fr hf).calls ((S.out.fr hf1).fr hf) ((hT.out.fr hf1).fr hf) h0.out; exact ⟨h1, h2⟩))); replace hf1 := hide hf1; clear hEr; rcases hIr with rfl | ⟨rT, rx, rfl⟩)
      | (go_at_call 8; refine (hk3.out _ ((Fr.refl w1 _).alloc _)).1.mono ?_; rintro e w2 ⟨rfl, rfl⟩)
      | (go_at_call 9; refine (hk3.out _ ((Fr.refl w1 _).alloc _)).2.mono ?_; rintro e w3 ⟨rfl, hf3⟩; replace hf3 := hide hf3))
    all_goals
      refine bodyPost_ret (v := .tuple #[.string ⟨#[]⟩, .int .i64 (parseAns s).1, .int .i64 (parseAns s).2]) (by simp [results, Tryz.results4, go_sem]) rfl ?_
      rw [hPOST.out]
      exact ⟨by rw [if_neg h0.out], (hf1.out.alloc _).trans hf3.out (fun _ _ f => f.elim)⟩
set_option maxHeartbeats 8000000 in
set_option maxRecDepth 100000 in
theorem law_any {A : Nat → Addr} {w : World} {s : ByteArray} (S : Sents A w) (hT : ErrTy w) (hI : ItoaOK w) (hQ : QuoteOK w) (hN : NumAll w) (hCl : CloneOK) :
    Calls Tryz.prog 3 #[.string s] w fun e w' => e = .returned (.bool true) ∧ Fr w w' (fun _ => False) := by
  obtain ⟨POST, hPOST⟩ : ∃ Q, Hid (Q = fun (e : Ending) (w' : World) => e = .returned (.bool true) ∧ Fr w w' (fun _ => False)) := ⟨_, rfl⟩
  rw [← hPOST.out]
  have hS := kSchema_any (s := s) S hT hI hQ hN hCl
  clear S hT hI hQ hN hCl
  obtain ⟨a1, ha1⟩ : ∃ a, (parseAns s).1 = a := ⟨_, rfl⟩
  obtain ⟨a2, ha2⟩ : ∃ a, (parseAns s).2 = a := ⟨_, rfl⟩
  rw [ha1, ha2] at hS
  have hP : Hid (∀ W, Calls Tryz.prog 5 #[.string s] W fun e w' => ∃ zv, e = .returned (.tuple #[zv, .int .i64 a1, .int .i64 a2]) ∧ Fr W w' (fun _ => False)) := hide (fun W => (parse_ok (w := W) (s := s)).mono (fun e w' ⟨zv, h1, h2, _⟩ => ⟨zv, by rw [h1, ha1, ha2], h2⟩))
  clear ha1 ha2
  by_cases h0 : a1 = 0
  · subst h0
    rw [if_pos rfl] at hS
    replace hS := hide hS
    go_enter Tryz.func3, Tryz.ntmps3
    go_wp2_with (first
      | (go_at_call 4; refine hS.out.mono ?_; rintro e w1 ⟨rfl, hf1⟩; replace hf1 := hide hf1)
      | (go_at_call 5; refine (hP.out _).mono ?_; rintro e w2 ⟨zv, rfl, hf2⟩; replace hf2 := hide hf2)
      | go_in)
    rw [hPOST.out]
    exact ⟨rfl, hf1.out.trans hf2.out (fun _ _ f => f.elim)⟩
  · rw [if_neg h0] at hS
    replace hS := hide hS
    go_enter Tryz.func3, Tryz.ntmps3
    go_wp2_with (first
      | (go_at_call 4; refine hS.out.mono ?_; rintro e w1 ⟨rfl, hf1⟩; replace hf1 := hide hf1)
      | (go_at_call 5; refine (hP.out _).mono ?_; rintro e w2 ⟨zv, rfl, hf2⟩; replace hf2 := hide hf2)
      | go_in)
    rw [hPOST.out]
    exact ⟨rfl, hf1.out.trans hf2.out (fun _ _ f => f.elim)⟩
end Go.Proofs.YthndngbnioacpaaGreatDoor
