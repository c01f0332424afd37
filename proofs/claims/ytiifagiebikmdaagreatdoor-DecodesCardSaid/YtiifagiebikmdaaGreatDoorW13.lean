import Derived.Test.YtiifagiebikmdaaGreatDoorW03
import Derived.Deep.LoopGhost
import Derived.Laws.BytesArg
import Derived.Test.YtiifagiebikmdaaGreatDoorA00
set_option maxHeartbeats 16000000
set_option maxRecDepth 100000
set_option linter.unusedSimpArgs false
open Go.Proofs.Tryz
namespace Go.Proofs.YtiifagiebikmdaaGreatDoor
open Go.RowKit
def lebN:Nat->Nat->List Nat
 | 0,z=>[z]
 | f+1,z=>if z<128 then [z] else (z % 128+128)::lebN f (z / 128)
def bts (l:List Nat):BA:=⟨(l.map UInt8.ofNat).toArray⟩
theorem zpr (a b:List Nat):bts (a++b)=bts a++bts b:=by
 unfold bts
 apply ByteArray.ext
 simp
theorem yh_ (l:List Nat):(bts l).size=l.length:=by unfold bts;show(l.map UInt8.ofNat).toArray.size=_;simp
theorem zsk (w:World) (c:Nat) (x:Int) (a:x=(c:Int)):(convert 99 9 (.slice (some ⟨w.heap.size,0,none⟩) 1 1)).run prog (w.alloc (.cells #[.int .u8 x] 5))=.ok (.string (bts [c])) (w.alloc (.cells #[.int .u8 x] 5)):=by
 subst a
 have h:=run_convert_bytes_arg (P:=prog) (w.alloc (.cells #[.int .u8 (c:Int)] 5)) 99 5 underlying99 underlying5 w.heap.size 0 1 1 [(c:Int)] rfl (λ i b=>by
  obtain rfl:i=0:=by omega
  simp) 9 underlying9
 exact h
end Go.Proofs.YtiifagiebikmdaaGreatDoor
