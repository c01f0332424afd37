import Derived.Test.YthndngbnioacpaaGreatDoorW39
import Derived.LaidEql
import Derived.Stop.Asserts
namespace Go.Proofs.YthndngbnioacpaaGreatDoor
open Go.RowKit Go.Extern.Stop Go.Stop Go.Extern
theorem isTypeOf (v : Value) (w : World) : (Extern.ReflectliteType.typeOf #[.iface 266 v]).run Tryz.prog w = .ok (.iface 167 (.agg #[.pointer (some ⟨23, 266, none⟩)])) w := by kernel_rfl
theorem isComparable : ∃ M : Array Value → Sem Value, (∀ (args : Array Value) (w : World), (callFunc 184 args).run Tryz.prog w = ((M args).run Tryz.prog w).andThen fun v w' => .ok (.value v) w') ∧ ∀ w, (M #[.agg #[.pointer (some ⟨23, 266, none⟩)]]).run Tryz.prog w = .ok (.bool true) w :=
  ⟨Extern.ReflectliteType.method fun t => do Go.Extern.Rtype.noPackHeld "Comparable" t; pure (.bool (← typeInfo t).comparable), @run_callFunc_extern Tryz.prog 184 _ (Extern.ReflectliteType.method fun t => do Go.Extern.Rtype.noPackHeld "Comparable" t; pure (.bool (← typeInfo t).comparable)) Tryz.func184 (by kernel_rfl) (by kernel_rfl) (by kernel_rfl) (by kernel_rfl), fun w => by kernel_rfl⟩
theorem isMethodComparable (v : Value) (w : World) : (Go.method 416 167 v "Comparable").run Tryz.prog w = .ok (184, v) w := by kernel_rfl
theorem isComp : (Tryz.prog.info? 266).map (·.comparable) = some true := by kernel_rfl
theorem isSize : (Tryz.prog.info? 268).map (·.size) = some 1 := by kernel_rfl
theorem noIsE (v : Value) (xT : TypeId) (w : World) : (Instr.typeAssert (.iface 266 v) xT 169 true).run Tryz.prog w = .ok (.tuple #[.nilIface, .bool false]) w := run_typeAssert_lacksB Tryz.underlying169 (by kernel_rfl) (by kernel_rfl) v xT w
theorem noUnwrapE (v : Value) (xT : TypeId) (w : World) : (Instr.typeAssert (.iface 266 v) xT 171 true).run Tryz.prog w = .ok (.tuple #[.nilIface, .bool false]) w := run_typeAssert_lacksB Tryz.underlying171 (by kernel_rfl) (by kernel_rfl) v xT w
theorem noUnwrapsE (v : Value) (xT : TypeId) (w : World) : (Instr.typeAssert (.iface 266 v) xT 172 true).run Tryz.prog w = .ok (.tuple #[.nilIface, .bool false]) w := run_typeAssert_lacksB Tryz.underlying172 (by kernel_rfl) (by kernel_rfl) v xT w
theorem noIsF (v : Value) (xT : TypeId) (w : World) : (Instr.typeAssert (.iface 64 v) xT 169 true).run Tryz.prog w = .ok (.tuple #[.nilIface, .bool false]) w := run_typeAssert_lacksB Tryz.underlying169 (by kernel_rfl) (by kernel_rfl) v xT w
theorem hasUnwrapF (v : Value) (xT : TypeId) (w : World) : (Instr.typeAssert (.iface 64 v) xT 171 true).run Tryz.prog w = .ok (.tuple #[.iface 64 v, .bool true]) w := run_typeAssert_hasB Tryz.underlying171 (by kernel_rfl) v xT w
theorem methodUnwrapF (v : Value) (w : World) : (Go.method 416 64 v "Unwrap").run Tryz.prog w = .ok (167, v) w := by kernel_rfl
theorem noIsW (v : Value) (xT : TypeId) (w : World) : (Instr.typeAssert (.iface 236 v) xT 169 true).run Tryz.prog w = .ok (.tuple #[.nilIface, .bool false]) w := run_typeAssert_lacksB Tryz.underlying169 (by kernel_rfl) (by kernel_rfl) v xT w
theorem hasUnwrapW (v : Value) (xT : TypeId) (w : World) : (Instr.typeAssert (.iface 236 v) xT 171 true).run Tryz.prog w = .ok (.tuple #[.iface 236 v, .bool true]) w := run_typeAssert_hasB Tryz.underlying171 (by kernel_rfl) v xT w
theorem methodUnwrapW (v : Value) (w : World) : (Go.method 416 236 v "Unwrap").run Tryz.prog w = .ok (204, v) w := by kernel_rfl
inductive Chain (W : World) (a : Addr) : Nat → Value → Prop
  | leaf : Chain W a 0 (.iface 266 (.pointer (some a)))
  | fault (g : Nat) (p : Int) (v : Value) (n : Nat) (hb : Blk W g [.int .i64 p, v] 68) (h : Chain W a n v) : Chain W a (n + 1) (.iface 64 (.pointer (some ⟨g, 0, none⟩)))
  | within (g : Nat) (tx : ByteArray) (v : Value) (n : Nat) (hb : Blk W g [.string tx, v] 239) (h : Chain W a n v) : Chain W a (n + 1) (.iface 236 (.pointer (some ⟨g, 0, none⟩)))
theorem Chain.iface {W : World} {a : Addr} {n : Nat} {v : Value} (h : Chain W a n v) : ∃ T x, v = .iface T x := by
  cases h <;> exact ⟨_, _, rfl⟩
end Go.Proofs.YthndngbnioacpaaGreatDoor
namespace Go.Proofs.YthndngbnioacpaaGreatDoor
open Go.RowKit Go.Extern.Stop Go.Stop Go.Extern
set_option maxHeartbeats 2000000 in
set_option maxRecDepth 100000 in
theorem eis_any {W : World} {a b : Addr} {ca cb : Array Value} {ta tb : TypeId} (ha : W.heap[a.block]? = some (.cells ca ta (0, 0))) (hb : W.heap[b.block]? = some (.cells cb tb (0, 0))) {n : Nat} {E : Value} (hch : Chain W a n E) :
    Calls Tryz.prog 40 #[E, .iface 266 (.pointer (some b)), .bool true] W fun e w' => e = .returned (.bool (decide (a = b))) ∧ w' = W := by
  obtain ⟨POST, hPOST⟩ : ∃ Q, Hid (Q = fun (e : Ending) (w' : World) => e = .returned (.bool (decide (a = b))) ∧ w' = W) := ⟨_, rfl⟩
  rw [← hPOST.out]
  obtain ⟨i, hi, hcmp⟩ := Option.map_eq_some_iff.1 isComp
  obtain ⟨j, hj, hjs⟩ := Option.map_eq_some_iff.1 isSize
  have nE := noIsE
  have uE := noUnwrapE
  have vE := noUnwrapsE
  have nF := noIsF
  have uF := hasUnwrapF
  have mF := methodUnwrapF
  have nW := noIsW
  have uW := hasUnwrapW
  have mW := methodUnwrapW
  have start : Hid (∃ k, k < n + 1 ∧ Chain W a k E) := hide ⟨n, by omega, hch⟩
  clear hch
  go_enter Tryz.func40, Tryz.ntmps40
  go_wp2_with fail
  go_loopg [0] (n + 1) (fun m v wl => ∃ k, k < m ∧ Chain W a k v ∧ wl = W)
  case atStart => (obtain ⟨k, h1, h2⟩ := start.out; exact ⟨k, h1, h2, rfl⟩)
  case round =>
    clear start
    obtain ⟨k, hk, hc, rfl⟩ := hrel
    cases hc with
    | leaf =>
      by_cases hab : a = b
      · subst hab
        have heq := run_eql_iface_ptr_same (P := Tryz.prog) wr a Tryz.underlying36 Tryz.underlying266 hi hcmp hj
        go_wp2
        rw [hPOST.out]
        exact ⟨by simp, rfl⟩
      · have heq := run_eql_iface_ptr_other (P := Tryz.prog) wr Tryz.underlying36 Tryz.underlying266 hi hcmp hj (by rw [hjs]; decide) hab ha hb
        go_wp2
        rw [hPOST.out]
        exact ⟨by simp [hab], rfl⟩
    | fault g p v k' hB h1 =>
      have hty := run_eql_iface_types (P := Tryz.prog) 64 266 (.pointer (some ⟨g, 0, none⟩)) (.pointer (some b)) Tryz.underlying36 (by decide) wr
      obtain ⟨T1, x1, rfl⟩ := h1.iface
      have c1 := hB.cell 1
      simp only [List.getElem?_cons_zero, List.getElem?_cons_succ] at c1
      replace h1 := hide h1
      clear hB
      go_wp2
      go_roundg (k' + 1)
      case measure => omega
      case rel => exact ⟨k', by omega, h1.out, rfl⟩
    | within g tx v k' hB h1 =>
      have hty := run_eql_iface_types (P := Tryz.prog) 236 266 (.pointer (some ⟨g, 0, none⟩)) (.pointer (some b)) Tryz.underlying36 (by decide) wr
      obtain ⟨T1, x1, rfl⟩ := h1.iface
      have c1 := hB.cell 1
      simp only [List.getElem?_cons_zero, List.getElem?_cons_succ] at c1
      replace h1 := hide h1
      clear hB
      go_wp2
      go_roundg (k' + 1)
      case measure => omega
      case rel => exact ⟨k', by omega, h1.out, rfl⟩
set_option maxHeartbeats 2000000 in
set_option maxRecDepth 100000 in
theorem eIs_any {W : World} {a b : Addr} {ca cb : Array Value} {ta tb : TypeId} (ha : W.heap[a.block]? = some (.cells ca ta (0, 0))) (hb : W.heap[b.block]? = some (.cells cb tb (0, 0))) {n : Nat} {E : Value} (hch : Chain W a n E) :
    Calls Tryz.prog 19 #[E, .iface 266 (.pointer (some b))] W fun e w' => e = .returned (.bool (decide (a = b))) ∧ w' = W := by
  have hC := hide (eis_any ha hb hch)
  obtain ⟨T1, x1, rfl⟩ := hch.iface
  clear ha hb hch
  have h8 := @run_callFunc_extern Tryz.prog 39 _ Extern.ReflectliteType.typeOf Tryz.func39 (by kernel_rfl) (by kernel_rfl) (by kernel_rfl) (by kernel_rfl)
  have tT := isTypeOf
  obtain ⟨CM, h32, cT⟩ := isComparable
  have mR := isMethodComparable
  go_enter Tryz.func19, Tryz.ntmps19
  go_wp2_with (go_at_call 40; refine hC.out.mono ?_; rintro e w' ⟨rfl, rfl⟩)
  go_ret
  exact ⟨rfl, rfl⟩
theorem eIs_nil (b : Addr) (w : World) :
    Calls Tryz.prog 19 #[.nilIface, .iface 266 (.pointer (some b))] w fun e w' => e = .returned (.bool false) ∧ w' = w := by
  have hn := run_eql_iface_nil_left (P := Tryz.prog) w 266 (.pointer (some b)) Tryz.underlying36
  go_enter Tryz.func19, Tryz.ntmps19
  go_wp2
  go_ret
  exact ⟨rfl, rfl⟩
end Go.Proofs.YthndngbnioacpaaGreatDoor
