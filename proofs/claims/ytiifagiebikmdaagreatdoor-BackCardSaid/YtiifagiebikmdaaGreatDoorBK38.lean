import Derived.Test.YtiifagiebikmdaaGreatDoorBK30
import Derived.LaidEql
import Derived.Stop.Asserts
namespace Go.Proofs.YtiifagiebikmdaaGreatDoor
open Go.RowKit Go.Extern.Stop Go.Stop Go.Extern
theorem isTypeOf (v:Value) (w:World):(Extern.ReflectliteType.typeOf #[.iface 309 v]).run Tryz.prog w=.ok (.iface 176 (.agg #[.pointer (some ⟨22,309,none⟩)])) w:=by kernel_rfl
theorem isComparable:∃ M:Array Value→Sem Value,(∀ (args:Array Value) (w:World),(callFunc 234 args).run Tryz.prog w=((M args).run Tryz.prog w).andThen fun v w'=>.ok (.value v) w')∧∀ w,(M #[.agg #[.pointer (some ⟨22,309,none⟩)]]).run Tryz.prog w=.ok (.bool true) w:=
 ⟨Extern.ReflectliteType.method fun t=>do Go.Extern.Rtype.noPackHeld "Comparable" t;pure (.bool (← typeInfo t).comparable),@run_callFunc_extern Tryz.prog 234 _ (Extern.ReflectliteType.method fun t=>do Go.Extern.Rtype.noPackHeld "Comparable" t;pure (.bool (← typeInfo t).comparable)) Tryz.func234 (by kernel_rfl) (by kernel_rfl) (by kernel_rfl) (by kernel_rfl),fun w=>by kernel_rfl⟩
theorem isMethodComparable (v:Value) (w:World):(Go.method 453 176 v "Comparable").run Tryz.prog w=.ok (234,v) w:=by kernel_rfl
theorem isComp:(Tryz.prog.info? 309).map (·.comparable)=some true:=by kernel_rfl
theorem isSize:(Tryz.prog.info? 311).map (·.size)=some 1:=by kernel_rfl
theorem noIsE (v:Value) (xT:TypeId) (w:World):(Instr.typeAssert (.iface 309 v) xT 178 true).run Tryz.prog w=.ok (.tuple #[.nilIface,.bool false]) w:=run_typeAssert_lacksB Tryz.underlying178 (by kernel_rfl) (by kernel_rfl) v xT w
theorem noUnwrapE (v:Value) (xT:TypeId) (w:World):(Instr.typeAssert (.iface 309 v) xT 180 true).run Tryz.prog w=.ok (.tuple #[.nilIface,.bool false]) w:=run_typeAssert_lacksB Tryz.underlying180 (by kernel_rfl) (by kernel_rfl) v xT w
theorem noUnwrapsE (v:Value) (xT:TypeId) (w:World):(Instr.typeAssert (.iface 309 v) xT 181 true).run Tryz.prog w=.ok (.tuple #[.nilIface,.bool false]) w:=run_typeAssert_lacksB Tryz.underlying181 (by kernel_rfl) (by kernel_rfl) v xT w
theorem noIsF (v:Value) (xT:TypeId) (w:World):(Instr.typeAssert (.iface 139 v) xT 178 true).run Tryz.prog w=.ok (.tuple #[.nilIface,.bool false]) w:=run_typeAssert_lacksB Tryz.underlying178 (by kernel_rfl) (by kernel_rfl) v xT w
theorem hasUnwrapF (v:Value) (xT:TypeId) (w:World):(Instr.typeAssert (.iface 139 v) xT 180 true).run Tryz.prog w=.ok (.tuple #[.iface 139 v,.bool true]) w:=run_typeAssert_hasB Tryz.underlying180 (by kernel_rfl) v xT w
theorem methodUnwrapF (v:Value) (w:World):(Go.method 453 139 v "Unwrap").run Tryz.prog w=.ok (221,v) w:=by kernel_rfl
theorem noIsW (v:Value) (xT:TypeId) (w:World):(Instr.typeAssert (.iface 269 v) xT 178 true).run Tryz.prog w=.ok (.tuple #[.nilIface,.bool false]) w:=run_typeAssert_lacksB Tryz.underlying178 (by kernel_rfl) (by kernel_rfl) v xT w
theorem hasUnwrapW (v:Value) (xT:TypeId) (w:World):(Instr.typeAssert (.iface 269 v) xT 180 true).run Tryz.prog w=.ok (.tuple #[.iface 269 v,.bool true]) w:=run_typeAssert_hasB Tryz.underlying180 (by kernel_rfl) v xT w
theorem methodUnwrapW (v:Value) (w:World):(Go.method 453 269 v "Unwrap").run Tryz.prog w=.ok (257,v) w:=by kernel_rfl
inductive Chain (W:World) (a:Addr):Nat→Value→Prop
 | leaf:Chain W a 0 (.iface 309 (.pointer (some a)))
 | fault (g:Nat) (p:Int) (v:Value) (n:Nat) (hb:Blk W g [.int .i64 p,v] 141) (h:Chain W a n v):Chain W a (n+1) (.iface 139 (.pointer (some ⟨g,0,none⟩)))
 | within (g:Nat) (tx:ByteArray) (v:Value) (n:Nat) (hb:Blk W g [.string tx,v] 271) (h:Chain W a n v):Chain W a (n+1) (.iface 269 (.pointer (some ⟨g,0,none⟩)))
theorem Chain.iface {W:World}{a:Addr}{n:Nat}{v:Value}(h:Chain W a n v):∃ T x,v=.iface T x:=by
 cases h <;> exact⟨_,_,rfl⟩
open Go.RowKit Go.Extern.Stop Go.Stop Go.Extern
set_option maxHeartbeats 2000000 in
set_option maxRecDepth 100000 in
theorem eis_any {W:World}{a b:Addr}{ca cb:Array Value}{ta tb:TypeId}(ha:W.heap[a.block]?=some (.cells ca ta (0,0))) (hb:W.heap[b.block]?=some (.cells cb tb (0,0))){n:Nat}{E:Value}(hch:Chain W a n E) :
 Calls Tryz.prog 58 #[E,.iface 309 (.pointer (some b)),.bool true] W fun e w'=>e=.returned (.bool (decide (a=b)))∧w'=W:=by
 obtain⟨POST,hPOST⟩:∃ Q,Hid (Q=fun (e:Ending) (w':World)=>e=.returned (.bool (decide (a=b)))∧w'=W):=⟨_,rfl⟩
 rw[← hPOST.out]
 obtain⟨i,hi,hcmp⟩:=Option.map_eq_some_iff.1 isComp
 obtain⟨j,hj,hjs⟩:=Option.map_eq_some_iff.1 isSize
 have nE:=noIsE
 have uE:=noUnwrapE
 have vE:=noUnwrapsE
 have nF:=noIsF
 have uF:=hasUnwrapF
 have mF:=methodUnwrapF
 have nW:=noIsW
 have uW:=hasUnwrapW
 have mW:=methodUnwrapW
 have start:Hid (∃ k,k<n+1∧Chain W a k E):=hide ⟨n,by omega,hch⟩
 clear hch
 go_enter Tryz.func58,Tryz.ntmps58
 go_wp2_with fail
 go_loopg [0] (n+1) (fun m v wl=>∃ k,k<m∧Chain W a k v∧wl=W)
 case atStart=>(obtain⟨k,h1,h2⟩:=start.out;exact⟨k,h1,h2,rfl⟩)
 case round=>
  clear start
  obtain⟨k,hk,hc,rfl⟩:=hrel
  cases hc with
  | leaf=>
   by_cases hab:a=b
   ·subst hab
    have heq:=run_eql_iface_ptr_same (P:=Tryz.prog) wr a Tryz.underlying53 Tryz.underlying309 hi hcmp hj
    go_wp2
    rw[hPOST.out]
    exact⟨by simp,rfl⟩
   ·have heq:=run_eql_iface_ptr_other (P:=Tryz.prog) wr Tryz.underlying53 Tryz.underlying309 hi hcmp hj (by rw[hjs];decide) hab ha hb
    go_wp2
    rw[hPOST.out]
    exact⟨by simp[hab],rfl⟩
  | fault g p v k' hB h1=>
   have hty:=run_eql_iface_types (P:=Tryz.prog) 139 309 (.pointer (some ⟨g,0,none⟩)) (.pointer (some b)) Tryz.underlying53 (by decide) wr
   obtain⟨T1,x1,rfl⟩:=h1.iface
   have c1:=hB.cell 1
   simp only[List.getElem?_cons_zero,List.getElem?_cons_succ] at c1
   replace h1:=hide h1
   clear hB
   go_wp2
   go_roundg (k'+1)
   case measure=>omega
   case rel=>exact⟨k',by omega,h1.out,rfl⟩
  | within g tx v k' hB h1=>
   have hty:=run_eql_iface_types (P:=Tryz.prog) 269 309 (.pointer (some ⟨g,0,none⟩)) (.pointer (some b)) Tryz.underlying53 (by decide) wr
   obtain⟨T1,x1,rfl⟩:=h1.iface
   have c1:=hB.cell 1
   simp only[List.getElem?_cons_zero,List.getElem?_cons_succ] at c1
   replace h1:=hide h1
   clear hB
   go_wp2
   go_roundg (k'+1)
   case measure=>omega
   case rel=>exact⟨k',by omega,h1.out,rfl⟩
set_option maxHeartbeats 2000000 in
set_option maxRecDepth 100000 in
theorem eIs_any {W:World}{a b:Addr}{ca cb:Array Value}{ta tb:TypeId}(ha:W.heap[a.block]?=some (.cells ca ta (0,0))) (hb:W.heap[b.block]?=some (.cells cb tb (0,0))){n:Nat}{E:Value}(hch:Chain W a n E) :
 Calls Tryz.prog 33 #[E,.iface 309 (.pointer (some b))] W fun e w'=>e=.returned (.bool (decide (a=b)))∧w'=W:=by
 have hC:=hide (eis_any ha hb hch)
 obtain⟨T1,x1,rfl⟩:=hch.iface
 clear ha hb hch
 have h8:=@run_callFunc_extern Tryz.prog 57 _ Extern.ReflectliteType.typeOf Tryz.func57 (by kernel_rfl) (by kernel_rfl) (by kernel_rfl) (by kernel_rfl)
 have tT:=isTypeOf
 obtain⟨CM,h32,cT⟩:=isComparable
 have mR:=isMethodComparable
 go_enter Tryz.func33,Tryz.ntmps33
 go_wp2_with (go_at_call 58;refine hC.out.mono ?_;rintro e w' ⟨rfl,rfl⟩)
 go_ret
 exact⟨rfl,rfl⟩
theorem eIs_nil (b:Addr) (w:World) :
 Calls Tryz.prog 33 #[.nilIface,.iface 309 (.pointer (some b))] w fun e w'=>e=.returned (.bool false)∧w'=w:=by
 have hn:=run_eql_iface_nil_left (P:=Tryz.prog) w 309 (.pointer (some b)) Tryz.underlying53
 go_enter Tryz.func33,Tryz.ntmps33
 go_wp2
 go_ret
 exact⟨rfl,rfl⟩
open Go.RowKit
def sentL:List Nat:=[7,0,1,2,3,4,5,6,8,9]
structure Sents (A:Nat→Addr) (w:World):Prop where
 var:∀ g∈sentL,ErrV g w 309 (.pointer (some (A g)))
 row:∀ g∈sentL,∃ c t,w.heap[(A g).block]?=some (.cells c t (0,0))
 ne:∀ g∈sentL,∀ g'∈sentL,g≠g'→A g≠A g'
theorem Sents.fr {A:Nat→Addr}{w w':World}(h:Sents A w) (hf:Fr w w' (fun _=>False)):Sents A w':=by
 refine⟨fun g hg=>(h.var g hg).fr hf id,fun g hg=>?_,h.ne⟩
 obtain⟨c,t,hr⟩:=h.row g hg
 have hl:(A g).block<w.heap.size:=by
  by_cases hh:(A g).block<w.heap.size
  ·exact hh
  ·rw[Array.getElem?_eq_none (by omega)] at hr;cases hr
 exact⟨c,t,(hf.block _ hl id).trans hr⟩
theorem eIs_sent {A:Nat→Addr}{w:World}(S:Sents A w){g g0 n:Nat}{E:Value}(hg0:g0∈sentL) (hg:g∈sentL) (h:Chain w (A g0) n E) :
 Calls Tryz.prog 33 #[E,.iface 309 (.pointer (some (A g)))] w fun e w'=>e=.returned (.bool (decide (g0=g)))∧w'=w:=by
 obtain⟨c,t,ha⟩:=S.row g0 hg0
 obtain⟨c',t',hb⟩:=S.row g hg
 refine(eIs_any ha hb h).mono ?_
 rintro e w' ⟨rfl,rfl⟩
 refine⟨?_,rfl⟩
 by_cases e:g0=g
 ·subst e;simp
 ·simp[e,S.ne g0 hg0 g hg e]
def sentN:List (Nat×Int):=[(7,1),(0,2),(1,3),(2,4),(3,5),(4,6),(5,7),(6,8),(8,1),(9,1)]
set_option maxHeartbeats 16000000 in
set_option maxRecDepth 100000 in
theorem number_all {A:Nat→Addr}{w:World}(S:Sents A w){g0 n:Nat}{k:Int}{E:Value}(hp:(g0,k)∈sentN) (hg0:g0∈sentL) (h:Chain w (A g0) n E) :
 Calls Tryz.prog 18 #[E] w fun e w'=>e=.returned (.int .i64 k)∧w'=w:=by
 have H:=hide (fun g (hg:g∈sentL)=>eIs_sent S hg0 hg h)
 have V:=hide S.var
 clear hg0
 have v0:=V.out 7 (by decide)
 have v1:=V.out 0 (by decide)
 have v2:=V.out 1 (by decide)
 have v3:=V.out 2 (by decide)
 have v4:=V.out 3 (by decide)
 have v5:=V.out 4 (by decide)
 have v6:=V.out 5 (by decide)
 have v7:=V.out 6 (by decide)
 have v8:=V.out 8 (by decide)
 have v9:=V.out 9 (by decide)
 unfold ErrV at v0 v1 v2 v3 v4 v5 v6 v7 v8 v9
 obtain⟨T1,x1,rfl⟩:=h.iface
 clear h S V
 simp only[sentN,List.mem_cons,Prod.mk.injEq,List.not_mem_nil,or_false] at hp
 rcases hp with⟨rfl,rfl⟩|⟨rfl,rfl⟩|⟨rfl,rfl⟩|⟨rfl,rfl⟩|⟨rfl,rfl⟩|⟨rfl,rfl⟩|⟨rfl,rfl⟩|⟨rfl,rfl⟩|⟨rfl,rfl⟩|⟨rfl,rfl⟩
 all_goals
  go_enter Tryz.func18,Tryz.ntmps18
  go_wp2_with (first
   |(go_at_call 33;refine(H.out _ (by decide)).mono ?_;rintro e w' ⟨rfl,rfl⟩)
   | go_in)
  go_ret
  exact⟨rfl,rfl⟩
section
variable {A:Nat→Addr} {w:World} {n:Nat} {E:Value}
theorem number_schemasErrLong (S:Sents A w) (h:Chain w (A 7) n E):Calls Tryz.prog 18 #[E] w fun e w'=>e=.returned (.int .i64 1)∧w'=w:=number_all S (by decide) (by decide) h
theorem number_schemasErrGrammar (S:Sents A w) (h:Chain w (A 0) n E):Calls Tryz.prog 18 #[E] w fun e w'=>e=.returned (.int .i64 2)∧w'=w:=number_all S (by decide) (by decide) h
theorem number_schemasErrName (S:Sents A w) (h:Chain w (A 1) n E):Calls Tryz.prog 18 #[E] w fun e w'=>e=.returned (.int .i64 3)∧w'=w:=number_all S (by decide) (by decide) h
theorem number_schemasErrUnion (S:Sents A w) (h:Chain w (A 2) n E):Calls Tryz.prog 18 #[E] w fun e w'=>e=.returned (.int .i64 4)∧w'=w:=number_all S (by decide) (by decide) h
theorem number_notationErrNotOf (S:Sents A w) (h:Chain w (A 3) n E):Calls Tryz.prog 18 #[E] w fun e w'=>e=.returned (.int .i64 5)∧w'=w:=number_all S (by decide) (by decide) h
theorem number_wireErrData (S:Sents A w) (h:Chain w (A 4) n E):Calls Tryz.prog 18 #[E] w fun e w'=>e=.returned (.int .i64 6)∧w'=w:=number_all S (by decide) (by decide) h
theorem number_dataErrBig (S:Sents A w) (h:Chain w (A 5) n E):Calls Tryz.prog 18 #[E] w fun e w'=>e=.returned (.int .i64 7)∧w'=w:=number_all S (by decide) (by decide) h
theorem number_notationErrLong (S:Sents A w) (h:Chain w (A 8) n E):Calls Tryz.prog 18 #[E] w fun e w'=>e=.returned (.int .i64 1)∧w'=w:=number_all S (by decide) (by decide) h
theorem number_wireErrLong (S:Sents A w) (h:Chain w (A 9) n E):Calls Tryz.prog 18 #[E] w fun e w'=>e=.returned (.int .i64 1)∧w'=w:=number_all S (by decide) (by decide) h
end
end Go.Proofs.YtiifagiebikmdaaGreatDoor
