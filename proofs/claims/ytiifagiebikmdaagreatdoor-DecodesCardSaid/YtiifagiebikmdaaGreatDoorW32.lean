import Derived.Test.YtiifagiebikmdaaGreatDoorW25
import Derived.Test.YtiifagiebikmdaaGreatDoorW14
import Derived.Test.YtiifagiebikmdaaGreatDoorA00
set_option maxHeartbeats 16000000
set_option maxRecDepth 100000
set_option linter.unusedSimpArgs false
open Go.Proofs.Tryz
namespace Go.Proofs.YtiifagiebikmdaaGreatDoor
open Go.RowKit
theorem zpn (v:Value) (w:World):(Instr.typeAssert (.iface 164 v) 89 164 true).run prog w=.ok (.tuple #[v,.bool true]) w:=by kernel_rfl
theorem v0_ (u:TypeId) (h:u≠164) (v:Value) (w:World):(Instr.typeAssert (.iface u v) 89 164 true).run prog w=.ok (.tuple #[.bool false,.bool false]) w:=by
 have e:(Instr.typeAssert (.iface u v) 89 164 true).run prog w=(if u=164 then (pure (Value.tuple #[v,.bool true]):Sem Value) else (do pure (Value.tuple #[<- zeroValue 164,.bool false]))).run prog w:=by kernel_rfl
 have a:(do pure (Value.tuple #[<- zeroValue 164,.bool false]):Sem Value).run prog w=.ok (.tuple #[.bool false,.bool false]) w:=by kernel_rfl
 rw[e,if_neg h];exact a
theorem zmn (v:Value) (w:World):(Instr.typeAssert (.iface 166 v) 89 166 true).run prog w=.ok (.tuple #[v,.bool true]) w:=by kernel_rfl
theorem vs_ (u:TypeId) (h:u≠166) (v:Value) (w:World):(Instr.typeAssert (.iface u v) 89 166 true).run prog w=.ok (.tuple #[.int .i64 0,.bool false]) w:=by
 have e:(Instr.typeAssert (.iface u v) 89 166 true).run prog w=(if u=166 then (pure (Value.tuple #[v,.bool true]):Sem Value) else (do pure (Value.tuple #[<- zeroValue 166,.bool false]))).run prog w:=by kernel_rfl
 have a:(do pure (Value.tuple #[<- zeroValue 166,.bool false]):Sem Value).run prog w=.ok (.tuple #[.int .i64 0,.bool false]) w:=by kernel_rfl
 rw[e,if_neg h];exact a
theorem zsi (v:Value) (w:World):(Instr.typeAssert (.iface 168 v) 89 168 true).run prog w=.ok (.tuple #[v,.bool true]) w:=by kernel_rfl
theorem zbw (u:TypeId) (h:u≠168) (v:Value) (w:World):(Instr.typeAssert (.iface u v) 89 168 true).run prog w=.ok (.tuple #[.string ⟨#[]⟩,.bool false]) w:=by
 have e:(Instr.typeAssert (.iface u v) 89 168 true).run prog w=(if u=168 then (pure (Value.tuple #[v,.bool true]):Sem Value) else (do pure (Value.tuple #[<- zeroValue 168,.bool false]))).run prog w:=by kernel_rfl
 have a:(do pure (Value.tuple #[<- zeroValue 168,.bool false]):Sem Value).run prog w=.ok (.tuple #[.string ⟨#[]⟩,.bool false]) w:=by kernel_rfl
 rw[e,if_neg h];exact a
theorem zsj (v:Value) (w:World):(Instr.typeAssert (.iface 156 v) 89 156 true).run prog w=.ok (.tuple #[v,.bool true]) w:=by kernel_rfl
theorem zc8 (u:TypeId) (h:u≠156) (v:Value) (w:World):(Instr.typeAssert (.iface u v) 89 156 true).run prog w=.ok (.tuple #[.slice none 0 0,.bool false]) w:=by
 have e:(Instr.typeAssert (.iface u v) 89 156 true).run prog w=(if u=156 then (pure (Value.tuple #[v,.bool true]):Sem Value) else (do pure (Value.tuple #[<- zeroValue 156,.bool false]))).run prog w:=by kernel_rfl
 have a:(do pure (Value.tuple #[<- zeroValue 156,.bool false]):Sem Value).run prog w=.ok (.tuple #[.slice none 0 0,.bool false]) w:=by kernel_rfl
 rw[e,if_neg h];exact a
theorem zux (v:Value) (w:World):(Instr.typeAssert (.iface 158 v) 89 158 true).run prog w=.ok (.tuple #[v,.bool true]) w:=by kernel_rfl
theorem zim (u:TypeId) (h:u≠158) (v:Value) (w:World):(Instr.typeAssert (.iface u v) 89 158 true).run prog w=.ok (.tuple #[.slice none 0 0,.bool false]) w:=by
 have e:(Instr.typeAssert (.iface u v) 89 158 true).run prog w=(if u=158 then (pure (Value.tuple #[v,.bool true]):Sem Value) else (do pure (Value.tuple #[<- zeroValue 158,.bool false]))).run prog w:=by kernel_rfl
 have a:(do pure (Value.tuple #[<- zeroValue 158,.bool false]):Sem Value).run prog w=.ok (.tuple #[.slice none 0 0,.bool false]) w:=by kernel_rfl
 rw[e,if_neg h];exact a
theorem zmo (v:Value) (w:World):(Instr.typeAssert (.iface 162 v) 89 162 true).run prog w=.ok (.tuple #[v,.bool true]) w:=by kernel_rfl
theorem zdx (u:TypeId) (h:u≠162) (v:Value) (w:World):(Instr.typeAssert (.iface u v) 89 162 true).run prog w=.ok (.tuple #[.agg #[.int .i64 0,.nilIface],.bool false]) w:=by
 have e:(Instr.typeAssert (.iface u v) 89 162 true).run prog w=(if u=162 then (pure (Value.tuple #[v,.bool true]):Sem Value) else (do pure (Value.tuple #[<- zeroValue 162,.bool false]))).run prog w:=by kernel_rfl
 have a:(do pure (Value.tuple #[<- zeroValue 162,.bool false]):Sem Value).run prog w=.ok (.tuple #[.agg #[.int .i64 0,.nilIface],.bool false]) w:=by kernel_rfl
 rw[e,if_neg h];exact a
theorem zmm (v:Value) (w:World):(Instr.typeAssert (.iface 163 v) 89 163 true).run prog w=.ok (.tuple #[v,.bool true]) w:=by kernel_rfl
theorem zha (u:TypeId) (h:u≠163) (v:Value) (w:World):(Instr.typeAssert (.iface u v) 89 163 true).run prog w=.ok (.tuple #[.slice none 0 0,.bool false]) w:=by
 have e:(Instr.typeAssert (.iface u v) 89 163 true).run prog w=(if u=163 then (pure (Value.tuple #[v,.bool true]):Sem Value) else (do pure (Value.tuple #[<- zeroValue 163,.bool false]))).run prog w:=by kernel_rfl
 have a:(do pure (Value.tuple #[<- zeroValue 163,.bool false]):Sem Value).run prog w=.ok (.tuple #[.slice none 0 0,.bool false]) w:=by kernel_rfl
 rw[e,if_neg h];exact a
theorem zml (v:Value) (w:World):(Instr.typeAssert (.iface 173 v) 89 173 true).run prog w=.ok (.tuple #[v,.bool true]) w:=by kernel_rfl
theorem zpo (u:TypeId) (h:u≠173) (v:Value) (w:World):(Instr.typeAssert (.iface u v) 89 173 true).run prog w=.ok (.tuple #[.agg #[.int .u8 0,.int .i64 0],.bool false]) w:=by
 have e:(Instr.typeAssert (.iface u v) 89 173 true).run prog w=(if u=173 then (pure (Value.tuple #[v,.bool true]):Sem Value) else (do pure (Value.tuple #[<- zeroValue 173,.bool false]))).run prog w:=by kernel_rfl
 have a:(do pure (Value.tuple #[<- zeroValue 173,.bool false]):Sem Value).run prog w=.ok (.tuple #[.agg #[.int .u8 0,.int .i64 0],.bool false]) w:=by kernel_rfl
 rw[e,if_neg h];exact a
theorem zpp (v:Value) (w:World):(Instr.typeAssert (.iface 174 v) 89 174 true).run prog w=.ok (.tuple #[v,.bool true]) w:=by kernel_rfl
open Go.RowKit
theorem ztl {w:World}{n g c:Nat}{Y:Nat->Value}(ho:w.ownsRow 0 89 1 (.slice (some ⟨g,0,none⟩) n c) n ((List.range n).flatMap λ i=>[Y i])){q:Nat}(a:q<n):w.cell? ⟨g,q,none⟩=some (Y q):=
 zp_ ho rfl (by have:=zcc n (λ i=>[Y i]) (m:=1) (λ _ _=>rfl) q 0 a (by decide);simpa using this)
theorem zud {w:World}{n g c:Nat}{K:Nat->BA}{Y:Nat->Value}(ho:w.ownsRow 0 160 2 (.slice (some ⟨g,0,none⟩) n c) n ((List.range n).flatMap λ i=>[.string (K i),Y i])){q:Nat}(a:q<n):w.cell? ⟨g,q*2,none⟩=some (.string (K q))/\w.cell? ⟨g,q*2+1,none⟩=some (Y q):=by
 have h:=zcc n (λ i=>[.string (K i),Y i]) (m:=2) (λ _ _=>rfl) q;exact⟨zp_ ho rfl (by have:=h 0 a (by decide);simpa using this),zp_ ho rfl (by have:=h 1 a (by decide);simpa using this)⟩
end Go.Proofs.YtiifagiebikmdaaGreatDoor
