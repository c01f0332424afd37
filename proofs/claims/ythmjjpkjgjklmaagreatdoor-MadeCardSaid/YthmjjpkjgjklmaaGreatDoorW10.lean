import Derived.Test.YthmjjpkjgjklmaaGreatDoorW02
import Derived.Deep.LoopGhost
import Derived.Laws.BytesArg
import Derived.Test.YthmjjpkjgjklmaaGreatDoorA00
set_option maxHeartbeats 16000000
set_option maxRecDepth 100000
set_option linter.unusedSimpArgs false
namespace Go.Proofs.YthmjjpkjgjklmaaGreatDoor
open Go.RowKit
def lebN:Nat->Nat->List Nat
 | 0,z=>[z]
 | f+1,z=>if z<128 then [z] else (z % 128+128)::lebN f (z / 128)
def leb (z:Nat):List Nat:=lebN 10 z
def bts (l:List Nat):BA:=⟨(l.map UInt8.ofNat).toArray⟩
theorem zd0 (a b:List Nat):bts (a++b)=bts a++bts b:=by
 unfold bts
 apply br_
 simp
theorem zi_ (l:List Nat):(bts l).size=l.length:=by unfold bts;show(l.map UInt8.ofNat).toArray.size=_;simp
def zci (n:Int):Nat:=if n<0 then 2*(-(n+1)).toNat+1 else 2*n.toNat
def zt_ (n:Int):BA:=bts (leb (zci n))
theorem zoq:∀ f z,(lebN f z).length<=f+1
 | 0,_=>by simp[lebN]
 | f+1,z=>by
  unfold lebN;split
  ·simp
  ·have:=zoq f (z / 128);simp only[ar_];omega
theorem xe_ (n:Int):(zt_ n).size<=11:=by
 unfold zt_ leb;rw[zi_];exact zoq 10 _
end Go.Proofs.YthmjjpkjgjklmaaGreatDoor
