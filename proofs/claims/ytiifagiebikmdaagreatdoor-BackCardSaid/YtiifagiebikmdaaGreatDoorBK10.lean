import Derived.Test.YtiifagiebikmdaaGreatDoorBK02
import Derived.Deep.LoopGhost
import Derived.Laws.BytesArg
namespace Go.Proofs.YtiifagiebikmdaaGreatDoor
open Go.RowKit
def lebN:Nat→Nat→List Nat
 | 0,z=>[z]
 | f+1,z=>if z<128 then [z] else (z % 128+128)::lebN f (z / 128)
def leb (z:Nat):List Nat:=lebN 10 z
def bts (l:List Nat):ByteArray:=⟨(l.map UInt8.ofNat).toArray⟩
theorem bts_append (a b:List Nat):bts (a++b)=bts a++bts b:=by
 unfold bts
 apply ByteArray.ext
 simp
theorem bts_size (l:List Nat):(bts l).size=l.length:=by unfold bts;show(l.map UInt8.ofNat).toArray.size=_;simp
def foldI (n:Int):Nat:=if n<0 then 2*(-(n+1)).toNat+1 else 2*n.toNat
def wholeB (n:Int):ByteArray:=bts (leb (foldI n))
theorem lebN_len:∀ f z,(lebN f z).length≤f+1
 | 0,_=>by simp[lebN]
 | f+1,z=>by
  unfold lebN
  split
  ·simp
  ·have:=lebN_len f (z / 128)
   simp only[List.length_cons];omega
theorem wholeB_size (n:Int):(wholeB n).size≤11:=by
 unfold wholeB leb
 rw[bts_size]
 exact lebN_len 10 _
end Go.Proofs.YtiifagiebikmdaaGreatDoor
