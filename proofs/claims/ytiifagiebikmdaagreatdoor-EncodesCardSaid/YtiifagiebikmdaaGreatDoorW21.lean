import Derived.Test.YtiifagiebikmdaaGreatDoorW05
import Derived.Deep.LoopGhost
import Derived.Laws.BytesArg
namespace Go.Proofs.YtiifagiebikmdaaGreatDoor
open Go.RowKit
def lebN:Nat→Nat→List Nat
 | 0,z=>[z]
 | f+1,z=>if z<128 then [z] else (z % 128+128)::lebN f (z / 128)
def leb (z:Nat):List Nat:=lebN 10 z
def bts (l:List Nat):ByteArray:=⟨(l.map UInt8.ofNat).toArray⟩
theorem bts_append (a b:List Nat):bts (a++b)=bts a++bts b:=by
 unfold bts
 apply ByteArray.ext
 simp
theorem bts_size (l:List Nat):(bts l).size=l.length:=by unfold bts;show(l.map UInt8.ofNat).toArray.size=_;simp
def foldI (n:Int):Nat:=if n<0 then 2*(-(n+1)).toNat+1 else 2*n.toNat
def wholeB (n:Int):ByteArray:=bts (leb (foldI n))
theorem lebN_len:∀ f z,(lebN f z).length≤f+1
 | 0,_=>by simp[lebN]
 | f+1,z=>by
  unfold lebN
  split
  ·simp
  ·have:=lebN_len f (z / 128)
   simp only[List.length_cons];omega
theorem wholeB_size (n:Int):(wholeB n).size≤11:=by
 unfold wholeB leb
 rw[bts_size]
 exact lebN_len 10 _
def WhInv (T:ByteArray) (q:Nat) (v4 v5 v6:Value):Prop:=
 ∃ (m c f:Nat) (tx:ByteArray),v4=.int .i64 (m:Int)∧v5=.int .i64 (c:Int)∧v6=.string tx∧c<128∧m≤9223372036854775807∧f≤q∧tx.size+f≤10∧c+128*m<128 ^ (f+1)∧T=tx++bts (lebN (f+1) (c+128*m))
theorem conv1 (w:World) (c:Nat) (x:Int) (hx:x=(c:Int)):(convert 99 9 (.slice (some ⟨w.heap.size,0,none⟩) 1 1)).run Tryz.prog (w.alloc (.cells #[.int .u8 x] 5))=.ok (.string (bts [c])) (w.alloc (.cells #[.int .u8 x] 5)):=by
 subst hx
 have h:=run_convert_bytes_arg (P:=Tryz.prog) (w.alloc (.cells #[.int .u8 (c:Int)] 5)) 99 5 Tryz.underlying99 Tryz.underlying5 w.heap.size 0 1 1 [(c:Int)] rfl (fun i hi=>by
  obtain rfl:i=0:=by omega
  simp) 9 Tryz.underlying9
 exact h
theorem lebN_last {f c:Nat}(h:c<128):lebN (f+1) c=[c]:=by unfold lebN;rw[if_pos h]
theorem lebN_more {f c m:Nat}(h:c<128) (hm:0<m):lebN (f+1) (c+128*m)=(c+128)::lebN f m:=by
 conv=>lhs;unfold lebN
 rw[if_neg (by omega),show(c+128*m) % 128=c by omega,show(c+128*m) / 128=m by omega]
set_option maxHeartbeats 4000000 in
set_option maxRecDepth 100000 in
theorem whole_run {w:World}{n:Int}{k g:Nat}(hk:k≤9223372036854775807) (hg:(n = -(k:Int)-1∧g=1)∨(n=(k:Int)∧g=0)) :
 Calls Tryz.prog 35 #[.int .i64 n] w fun e w'=>e=.returned (.string (bts (leb (2*k+g))))∧Fr w w' (fun _=>False):=by
 obtain⟨POST,hPOST⟩:∃ Q,Hid (Q=fun (e:Ending) (w':World)=>e=.returned (.string (bts (leb (2*k+g))))∧Fr w w' (fun _=>False)):=⟨_,rfl⟩
 rw[← hPOST.out]
 obtain⟨T,hT⟩:∃ T,bts (leb (2*k+g))=T:=⟨_,rfl⟩
 have start:Hid (WhInv T 9 (.int .i64 ((k:Int) / 64)) (.int .i64 (2*((k:Int) % 64)+(g:Int))) (.string ⟨#[]⟩)):=hide ⟨k / 64,2*(k % 64)+g,9,⟨#[]⟩,by simp,by simp,rfl,by rcases hg with h|h <;> omega,by omega,Nat.le_refl _,by show 0+9≤10;omega,by omega,by
  rw[← hT]
  have e:2*(k % 64)+g+128*(k / 64)=2*k+g:=by omega
  rw[e]
  apply ByteArray.ext
  simp[leb]⟩
 have fin:Hid (∀ W,Fr w W (fun _=>False)→POST (.returned (.string T)) W):=hide (fun W hf=>by rw[hPOST.out,hT];exact⟨rfl,hf⟩)
 replace hT:=hide hT
 rcases hg with⟨hn,rfl⟩|⟨hn,rfl⟩
 ·have hn0:n<0:=by omega
  have e1 : -(n+1)=(k:Int):=by omega
  have hlo : -9223372036854775808≤n:=by omega
  replace hn:=hide hn
  go_enter Tryz.func35,Tryz.ntmps35
  go_wp2_with fail
  go_loopg [4,5,6] 9 (fun q v4 v5 v6 W=>WhInv T q v4 v5 v6∧Fr w W (fun _=>False))
  case atStart=>exact⟨start.out,Fr.refl _ _⟩
  case round=>
   clear start
   obtain⟨⟨m,c,f,tx,rfl,rfl,rfl,hc,hm,hf,hx,hz,hT2⟩,hF⟩:=hrel
   replace hF:=hide hF
   by_cases h0:m=0
   ·subst h0
    have hT3:=hide (show T=tx++bts [c] by rw[hT2,show c+128*0=c by omega,lebN_last hc])
    have hv:=conv1 wr c (c:Int) rfl
    clear hT2 hz
    have hb1:(bts [c]).size=1:=by rw[bts_size];rfl
    go_wp2_with fail
    try go_ret
    have h:=fin.out _ (hF.out.alloc (.cells #[.int .u8 (c:Int)] 5))
    rw[hT3.out] at h
    exact h
   ·have h0':(m:Int) > 0:=by omega
    have hf1:1≤f:=by
     rcases Nat.eq_zero_or_pos f with h|h
     ·subst h;simp at hz;omega
     ·exact h
    obtain⟨f',rfl⟩:∃ f',f=f'+1:=⟨f-1,by omega⟩
    have hz2:m<128 ^ (f'+1):=by
     rw[Nat.pow_succ 128 (f'+1)] at hz
     omega
    have hnext:=hide (show WhInv T f' (.int .i64 ((m:Int) / 128)) (.int .i64 ((m:Int) % 128)) (.string (tx++bts [c+128])) from⟨m / 128,m % 128,f',tx++bts [c+128],by simp,by simp,rfl,by omega,by omega,Nat.le_refl _,by rw[ByteArray.size_append,bts_size];simp only[List.length_singleton];omega,by rw[show m % 128+128*(m / 128)=m by omega];exact hz2,by
     rw[hT2,lebN_more hc (by omega),show m % 128+128*(m / 128)=m by omega,ByteArray.append_assoc,← bts_append]
     rfl⟩)
    have hv:=conv1 wr (c+128) ((c:Int)+128) (by omega)
    clear hT2 hz hz2
    have hb1:(bts [c+128]).size=1:=by rw[bts_size];rfl
    go_wp2_with fail
    go_roundg f'
    case measure=>omega
    case rel=>exact⟨hnext.out,hF.out.alloc _⟩
 ·subst hn
  have hn0:¬ (k:Int)<0:=by omega
  simp only[Int.add_zero,Int.cast_ofNat_Int] at start
  go_enter Tryz.func35,Tryz.ntmps35
  go_wp2_with fail
  go_loopg [4,5,6] 9 (fun q v4 v5 v6 W=>WhInv T q v4 v5 v6∧Fr w W (fun _=>False))
  case atStart=>exact⟨start.out,Fr.refl _ _⟩
  case round=>
   clear start
   obtain⟨⟨m,c,f,tx,rfl,rfl,rfl,hc,hm,hf,hx,hz,hT2⟩,hF⟩:=hrel
   replace hF:=hide hF
   by_cases h0:m=0
   ·subst h0
    have hT3:=hide (show T=tx++bts [c] by rw[hT2,show c+128*0=c by omega,lebN_last hc])
    have hv:=conv1 wr c (c:Int) rfl
    clear hT2 hz
    have hb1:(bts [c]).size=1:=by rw[bts_size];rfl
    go_wp2_with fail
    try go_ret
    have h:=fin.out _ (hF.out.alloc (.cells #[.int .u8 (c:Int)] 5))
    rw[hT3.out] at h
    exact h
   ·have h0':(m:Int) > 0:=by omega
    have hf1:1≤f:=by
     rcases Nat.eq_zero_or_pos f with h|h
     ·subst h;simp at hz;omega
     ·exact h
    obtain⟨f',rfl⟩:∃ f',f=f'+1:=⟨f-1,by omega⟩
    have hz2:m<128 ^ (f'+1):=by
     rw[Nat.pow_succ 128 (f'+1)] at hz
     omega
    have hnext:=hide (show WhInv T f' (.int .i64 ((m:Int) / 128)) (.int .i64 ((m:Int) % 128)) (.string (tx++bts [c+128])) from⟨m / 128,m % 128,f',tx++bts [c+128],by simp,by simp,rfl,by omega,by omega,Nat.le_refl _,by rw[ByteArray.size_append,bts_size];simp only[List.length_singleton];omega,by rw[show m % 128+128*(m / 128)=m by omega];exact hz2,by
     rw[hT2,lebN_more hc (by omega),show m % 128+128*(m / 128)=m by omega,ByteArray.append_assoc,← bts_append]
     rfl⟩)
    have hv:=conv1 wr (c+128) ((c:Int)+128) (by omega)
    clear hT2 hz hz2
    have hb1:(bts [c+128]).size=1:=by rw[bts_size];rfl
    go_wp2_with fail
    go_roundg f'
    case measure=>omega
    case rel=>exact⟨hnext.out,hF.out.alloc _⟩
theorem whole_any {w:World}{n:Int}(h0 : -9223372036854775808≤n) (h1:n≤9223372036854775807) :
 Calls Tryz.prog 35 #[.int .i64 n] w fun e w'=>e=.returned (.string (wholeB n))∧Fr w w' (fun _=>False):=by
 unfold wholeB foldI
 by_cases hn:n<0
 ·rw[if_pos hn]
  exact whole_run (k:=(-(n+1)).toNat) (g:=1) (by omega) (.inl ⟨by omega,rfl⟩)
 ·rw[if_neg hn]
  exact whole_run (k:=n.toNat) (g:=0) (by omega) (.inr ⟨by omega,rfl⟩)
end Go.Proofs.YtiifagiebikmdaaGreatDoor
