import Derived.Test.YtiifagiebikmdaaGreatDoorBK25
import Derived.Test.YtiifagiebikmdaaGreatDoorBK05
import Derived.Test.YtiifagiebikmdaaGreatDoorBK13
import Derived.Laws.BitsAllLaws
import Derived.Laws.Shifts
import Derived.Test.YtiifagiebikmdaaGreatDoorBK32
import Derived.Lib.ConvBytes
import Derived.Test.YtiifagiebikmdaaGreatDoorBK33
namespace Go.Proofs.YtiifagiebikmdaaGreatDoor
open Go.RowKit
def RwAt (w:World) (br:Nat) (sv rv:Value) (s:ByteArray) (i n:Nat):Prop:=Blk w br [sv,rv,.string s,.int .i64 (i:Int),.int .i64 (n:Int)] 126
section
variable {w w':World} {br:Nat} {sv rv:Value} {s:ByteArray} {i n:Nat}
theorem RwAt.c0 (h:RwAt w br sv rv s i n):w.cell? ⟨br,0,none⟩=some sv:=by rw[Blk.cell h];rfl
theorem RwAt.c1 (h:RwAt w br sv rv s i n):w.cell? ⟨br,1,none⟩=some rv:=by rw[Blk.cell h];rfl
theorem RwAt.c2 (h:RwAt w br sv rv s i n):w.cell? ⟨br,2,none⟩=some (.string s):=by rw[Blk.cell h];rfl
theorem RwAt.c3 (h:RwAt w br sv rv s i n):w.cell? ⟨br,3,none⟩=some (.int .i64 (i:Int)):=by rw[Blk.cell h];rfl
theorem RwAt.c4 (h:RwAt w br sv rv s i n):w.cell? ⟨br,4,none⟩=some (.int .i64 (n:Int)):=by rw[Blk.cell h];rfl
theorem RwAt.thaw (h:RwAt w br sv rv s i n) (o:Nat):w.frozen? ⟨br,o,none⟩=false:=Blk.thaw h o
theorem RwAt.still (h:RwAt w br sv rv s i n) (hw:Still w w'):RwAt w' br sv rv s i n:=by obtain⟨n,rfl⟩:=hw;exact h
theorem RwAt.inc (h:RwAt w br sv rv s i n):RwAt (w.setCell ⟨br,3,none⟩ (.int .i64 ((i:Int)+1))) br sv rv s (i+1) n:=Blk.set h 3 _
theorem RwAt.move (h:RwAt w br sv rv s i n) (j:Nat):RwAt (w.setCell ⟨br,3,none⟩ (.int .i64 ((i:Int)+(j:Int)))) br sv rv s (i+j) n:=by
 have:=Blk.set h 3 (.int .i64 ((i:Int)+(j:Int)))
 unfold RwAt
 rw[Int.natCast_add]
 exact this
theorem RwAt.node (h:RwAt w br sv rv s i n):RwAt (w.setCell ⟨br,4,none⟩ (.int .i64 ((n:Int)+1))) br sv rv s i (n+1):=Blk.set h 4 _
end
def ErrDt (w:World) (dt:TypeId) (dx:Value):Prop:=w.cell? ⟨4,0,none⟩=some (.iface dt dx)
section
variable {w:World} {br:Nat} {sv rv:Value} {s:ByteArray} {i n:Nat} {dt:TypeId} {dx:Value}
set_option maxHeartbeats 4000000 in
set_option maxRecDepth 100000 in
theorem wnext_yes (h:RwAt w br sv rv s i n) (hs:s.size≤4000) (hl:i<s.size) :
 Calls Tryz.prog 153 #[.pointer (some ⟨br,0,none⟩)] w fun e w'=>e=.returned (.tuple #[.int .u8 (bt s i:Int),.nilIface])∧RwAt w' br sv rv s (i+1) n∧Fr w w' (· = br):=by
 obtain⟨POST,hPOST⟩:∃ Q,Hid (Q=fun (e:Ending) (w':World)=>e=.returned (.tuple #[.int .u8 (bt s i:Int),.nilIface])∧RwAt w' br sv rv s (i+1) n∧Fr w w' (· = br)):=⟨_,rfl⟩
 rw[← hPOST.out]
 have c2:=h.c2
 have c3:=h.c3
 have f3:=h.thaw 3
 have hne:((i:Int)==(s.size:Int))=false:=by simp;omega
 have hl':(i:Int)<(s.size:Int):=by omega
 obtain⟨x,hx⟩:∃ x,bt s i=x:=⟨_,rfl⟩
 have hbk:((s[i]'hl).toNat:Int)=(x:Int):=by rw[← hx,bt_eq s i hl]
 rw[hx] at hPOST
 replace hx:=hide hx
 replace h:=hide h
 go_enter Tryz.func153,Tryz.ntmps153
 go_wp2_with fail
 go_quiet (fail)
 go_wp2_with fail
 go_quiet (fail)
 go_wp2_with fail
 try go_ret
 rw[hPOST.out]
 refine⟨rfl,?_,?_⟩
 ·exact((h.out.still (Still.drewN _ _)).inc).still (Still.drewN _ _)
 ·exact(((Fr.refl w (· = br)).still (Still.drewN _ _)).setCell _ _ (fun _=>rfl)).still (Still.drewN _ _)
set_option maxHeartbeats 4000000 in
set_option maxRecDepth 100000 in
theorem wnext_no (h:RwAt w br sv rv s i n) (hl:i=s.size) (hE:ErrDt w dt dx) :
 Calls Tryz.prog 153 #[.pointer (some ⟨br,0,none⟩)] w fun e w'=>e=.returned (.tuple #[.int .u8 0,.iface dt dx])∧RwAt w' br sv rv s i n∧Fr w w' (· = br):=by
 obtain⟨POST,hPOST⟩:∃ Q,Hid (Q=fun (e:Ending) (w':World)=>e=.returned (.tuple #[.int .u8 0,.iface dt dx])∧RwAt w' br sv rv s i n∧Fr w w' (· = br)):=⟨_,rfl⟩
 rw[← hPOST.out]
 have c2:=h.c2
 have c3:=h.c3
 have hne:((i:Int)==(s.size:Int))=true:=by simp;omega
 have he:=hE
 unfold ErrDt at he
 replace hl:=hide hl
 replace h:=hide h
 go_enter Tryz.func153,Tryz.ntmps153
 go_wp2_with fail
 go_quiet (fail)
 go_wp2_with fail
 go_quiet (fail)
 go_wp2_with fail
 try go_ret
 rw[hPOST.out]
 exact⟨rfl,h.out.still ((Still.drewN _ _).trans (Still.drewN _ _)),(Fr.refl w _).still ((Still.drewN _ _).trans (Still.drewN _ _))⟩
end
theorem not_pos {m:Nat}(h:m<9223372036854775808):bits .xor .i64 (-1) (m:Int) = -(m:Int)-1:=by
 have e:bits .xor .i64 (-1) (m:Int)=IntKind.i64.wrap ((BitVec.ofInt 64 (-1) ^^^ BitVec.ofInt 64 (m:Int)).toNat:Int):=rfl
 have a1:BitVec.ofInt 64 (-1)=BitVec.allOnes 64:=by decide
 rw[e,a1,BitVec.allOnes_xor,BitVec.toNat_not,BitVec.toNat_ofInt]
 have:(((m:Int) % ((2 ^ 64:Nat):Int)).toNat:Int)=(m:Int):=by omega
 simp only[IntKind.wrap,IntKind.bits,IntKind.signed]
 simp
 omega
set_option maxHeartbeats 1000000 in
theorem unfold_any {w:World}{z:Nat}(hz:z<18446744073709551616) :
 Calls Tryz.prog 167 #[.int .u64 (z:Int)] w fun e w'=>e=.returned (.int .i64 (unfI z))∧w'=w:=by
 obtain⟨POST,hPOST⟩:∃ Q,Hid (Q=fun (e:Ending) (w':World)=>e=.returned (.int .i64 (unfI z))∧w'=w):=⟨_,rfl⟩
 rw[← hPOST.out]
 have hc:IntKind.i64.wrap ((z:Int) / 2)=((z / 2:Nat):Int):=by
  simp only[IntKind.wrap,IntKind.bits,IntKind.signed]
  simp
  omega
 by_cases h1:z % 2=1
 ·have h1':(z:Int) % 2=1:=by omega
  have hx:=not_pos (m:=z / 2) (by omega)
  go_enter Tryz.func167,Tryz.ntmps167
  go_wp2_with fail
  try go_ret
  rw[hPOST.out]
  unfold unfI
  rw[if_pos h1]
  refine⟨?_,rfl⟩
  congr 2
 ·have h1':¬ (z:Int) % 2=1:=by omega
  go_enter Tryz.func167,Tryz.ntmps167
  go_wp2_with fail
  try go_ret
  rw[hPOST.out]
  unfold unfI
  rw[if_neg h1]
  refine⟨?_,rfl⟩
  congr 2
open Go.RowKit
def WNum (w:World) (br:Nat) (sv rv:Value) (s:ByteArray) (n:Nat) (dt:TypeId) (dx:Value) (r:Option (Int×Nat)) (e:Ending) (w':World):Prop:=
 Fr w w' (· = br)∧match r with
 | some (v,j)=>e=.returned (.tuple #[.int .i64 v,.nilIface])∧j≤s.size∧RwAt w' br sv rv s j n
 | none=>e=.returned (.tuple #[.int .i64 0,.iface dt dx])∧∃ j,j≤s.size∧RwAt w' br sv rv s j n
def finB (lo hi:Int):Option (Nat×Nat)→Option (Int×Nat)
 | none=>none
 | some (z,j)=>if z<18446744073709551616∧lo≤unfI z∧unfI z≤hi then some (unfI z,j) else none
theorem bNum_fin (s:ByteArray) (lo hi:Int) (i:Nat):bNum s lo hi i=finB lo hi (lebC s i 0 0):=by
 rw[lebC_zero]
 unfold bNum bL finB
 cases lebD s 10 i with
 | none=>rfl
 | some q=>
  obtain⟨z,j⟩:=q
  simp only
  by_cases h:z<18446744073709551616
  ·rw[if_pos h]
   simp only
   by_cases h2:lo≤unfI z∧unfI z≤hi
   ·rw[if_pos h2,if_pos ⟨h,h2⟩]
   ·rw[if_neg h2,if_neg (fun x=>h2 x.2)]
  ·rw[if_neg h,if_neg (fun x=>h x.1)]
theorem two7 (k:Nat):(2:Int) ^ (7*k)=((128 ^ k:Nat):Int):=by
 rw[show(128:Nat)=2 ^ 7 from rfl,← Nat.pow_mul,Int.natCast_pow]
 rfl
theorem shifts {c k acc:Nat}(hk:k≤9) (hb:¬ (k=9∧2≤c % 128)) (hacc:acc<128 ^ k) :
 ∃ X:Nat,X=c % 128*128 ^ k∧acc+X<18446744073709551616∧IntKind.u64.wrap ((c:Int) % 128*2 ^ (7*k))=(X:Int)∧(X:Int) / 2 ^ (7*k)=(c:Int) % 128∧bits .or .u64 (acc:Int) (X:Int)=((acc+X:Nat):Int):=by
 have hp:=pow128 k
 have hXl:acc+c % 128*128 ^ k<18446744073709551616:=by
  by_cases h9:k=9
  ·subst h9
   have:c % 128≤1:=by omega
   have:=Nat.mul_le_mul_right (128 ^ 9) this
   omega
  ·have h1:=pow128_le (k:=k) (by omega)
   have h2:c % 128*128 ^ k≤127*128 ^ k:=Nat.mul_le_mul_right _ (by omega)
   have h3:128 ^ (k+1)=128 ^ k*128:=Nat.pow_succ 128 k
   omega
 have e1:(c:Int) % 128*2 ^ (7*k)=((c % 128*128 ^ k:Nat):Int):=by rw[two7,Int.natCast_mul];rfl
 refine⟨_,rfl,hXl,?_,?_,?_⟩
 ·rw[e1,IntKind.wrap_u64]
  omega
 ·rw[two7,← Int.natCast_ediv,Nat.mul_div_cancel _ hp]
  rfl
 ·rw[u64_or_nat _ _ (by omega) (by omega)]
  congr 1
  rw[show(128:Nat)=2 ^ 7 from rfl,← Nat.pow_mul,Nat.mul_comm (c % 2 ^ 7)]
  rw[show(128:Nat)=2 ^ 7 from rfl,← Nat.pow_mul] at hacc
  rw[Nat.or_comm,← Nat.two_pow_add_eq_or_of_lt hacc,Nat.add_comm]
theorem shift_big {c:Nat}(hc:2≤c % 128):(IntKind.u64.wrap ((c:Int) % 128*9223372036854775808) / 9223372036854775808 != (c:Int) % 128)=true:=by
 rw[IntKind.wrap_u64]
 simp
 omega
theorem shl_far {x:Int}{k:Nat}(hk:10≤k):Op.shift .shl .u64 x .i64 (7*(k:Int))=pure (.int .u64 0):=by
 rw[shift_shl_any _ _ _ _ (by omega),show min (7*(k:Int)).toNat (IntKind.u64).bits=64 by show min _ 64=64;omega,IntKind.wrap_u64]
 congr 2
 omega
theorem shr_far {k:Nat}:Op.shift .shr .u64 0 .i64 (7*(k:Int))=pure (.int .u64 0):=by
 rw[shift_shr_any _ _ _ _ (by omega)]
 simp
def WnInv (RES:Option (Int×Nat)) (lo up:Int) (w:World) (br:Nat) (sv rv:Value) (s:ByteArray) (i n:Nat) (q:Nat) (v8 v9:Value) (W:World):Prop:=
 ∃ k acc:Nat,v8=.int .u64 (acc:Int)∧v9=.int .i64 ((7*k:Nat):Int)∧i+k≤s.size∧s.size+1-(i+k)≤q∧acc<18446744073709551616∧Hid (RwAt W br sv rv s (i+k) n∧Fr w W (· = br))∧
  ((k≤9∧acc<128 ^ k∧RES=finB lo up (lebC s i k acc))∨(10≤k∧RES=none))
set_option maxHeartbeats 8000000 in
set_option maxRecDepth 100000 in
theorem wnumber_any {w:World}{br:Nat}{sv rv:Value}{s:ByteArray}{i n:Nat}{dt:TypeId}{dx:Value}{lo up:Int}(h:RwAt w br sv rv s i n) (hs:s.size≤4000) (hi:i≤s.size) (hE:∀ W,Fr w W (· = br)→ErrDt W dt dx) :
 Calls Tryz.prog 154 #[.pointer (some ⟨br,0,none⟩),.int .i64 lo,.int .i64 up] w (WNum w br sv rv s n dt dx (bNum s lo up i)):=by
 obtain⟨POST,hPOST⟩:∃ Q,Hid (Q=WNum w br sv rv s n dt dx (bNum s lo up i)):=⟨_,rfl⟩
 rw[← hPOST.out]
 rw[bNum_fin] at hPOST
 obtain⟨RES,hRES⟩:∃ r,r=finB lo up (lebC s i 0 0):=⟨_,rfl⟩
 rw[← hRES] at hPOST
 have start:Hid (WnInv RES lo up w br sv rv s i n (s.size+1) (.int .u64 0) (.int .i64 0) w):=hide ⟨0,0,rfl,rfl,by omega,by omega,by omega,hide ⟨h,Fr.refl _ _⟩,.inl ⟨by omega,by omega,hRES⟩⟩
 replace hRES:=hide hRES
 replace hE:=hide hE
 clear h
 go_enter Tryz.func154,Tryz.ntmps154
 go_wp2_with fail
 go_loopg [8,9,10,11,12] (s.size+1) (fun q v8 v9 v10 v11 v12 W=>WnInv RES lo up w br sv rv s i n q v8 v9 W)
 case atStart=>exact start.out
 case round=>
  clear start
  obtain⟨k,acc,rfl,rfl,hik,hq,hacc,hD,hAB⟩:=hrel
  by_cases hend:i+k=s.size
  ·have hC:=hide (wnext_no hD.out.1 hend (hE.out _ hD.out.2))
   have hr:=hide (show RES=none by
    rcases hAB with⟨h9,_,h⟩|⟨_,h⟩
    ·rw[h,lebC_end h9 (by omega)];rfl
    ·exact h)
   clear hAB
   go_wp2_with (go_at_call 153;refine hC.out.mono ?_;rintro e w1 ⟨rfl,h1,hf1⟩;replace h1:=hide h1;replace hf1:=hide hf1)
   try go_ret
   rw[hPOST.out,hr.out]
   exact⟨hD.out.2.trans hf1.out (fun _ _ e=>e),rfl,_,hik,h1.out⟩
  ·have hlt:i+k<s.size:=by omega
   obtain⟨c,hc⟩:∃ c,bt s (i+k)=c:=⟨_,rfl⟩
   have hC:=wnext_yes hD.out.1 hs hlt
   rw[hc] at hC
   replace hC:=hide hC
   have hc8:c<256:=by have:=bt_lt s (i+k);omega
   rcases hAB with⟨h9,hacc2,hR⟩|⟨h10,hR⟩
   ·by_cases hbig:k=9∧2≤c % 128
    ·obtain⟨rfl,hb2⟩:=hbig
     have hY:=shift_big hb2
     have hr:=hide (show RES=none by
      rw[hR]
      by_cases h1:c<128
      ·rw[lebC_last (by omega) hlt (by omega),hc,if_neg (fun x=>by omega)]
       unfold finB
       simp only
       rw[if_neg (fun x=>by
        have h2:=Nat.mul_le_mul_left (128 ^ 9) (show 2≤c by omega)
        have h3:128 ^ 9*2=18446744073709551616:=by decide
        omega)]
      ·rw[lebC_more (by omega) hlt (by omega),if_pos rfl]
       rfl)
     clear hR hacc2 hc
     go_wp2_with (go_at_call 153;refine hC.out.mono ?_;rintro e w1 ⟨rfl,h1,hf1⟩;have he1:=hE.out w1 (hD.out.2.trans hf1 (fun _ _ e=>e));unfold ErrDt at he1;replace h1:=hide h1;replace hf1:=hide hf1)
     go_quiet (fail)
     go_wp2_with fail
     try go_ret
     rw[hPOST.out,hr.out]
     exact⟨(hD.out.2.trans hf1.out (fun _ _ e=>e)).still (Still.drewN _ _),rfl,_,hlt,h1.out.still (Still.drewN _ _)⟩
    ·obtain⟨X,hXe,hXl,hX,hY,hO⟩:=shifts h9 hbig hacc2
     have hYn:(((X:Int) / 2 ^ (7*k)) != (c:Int) % 128)=false:=by rw[hY];simp
     have hk7:7*k≤63:=by omega
     replace hXe:=hide hXe
     replace hY:=hide hY
     by_cases hc1:c<128
     ·have hc1':¬ (c:Int)≥128:=by omega
      have hm:c % 128=c:=Nat.mod_eq_of_lt hc1
      have hRc:RES=finB lo up (if c=0∧0<k then none else some (acc+X,i+k+1)):=by
       rw[hR,lebC_last h9 hlt (by omega),hc,hXe.out,hm,Nat.mul_comm c]
      obtain⟨u,hu⟩:∃ u,unfI (acc+X)=u:=⟨_,rfl⟩
      have hU:=fun (w:World)=>unfold_any (w:=w) hXl
      rw[hu] at hU
      replace hU:=hide hU
      replace hu:=hide hu
      obtain⟨Z,hZ⟩:∃ Z:Nat,Z=acc+X:=⟨_,rfl⟩
      rw[← hZ] at hO hU hXl hRc
      rw[← hZ] at hu
      replace hZ:=hide hZ
      by_cases hok:(lo≤u∧u≤up)∧¬ (c=0∧0<k)
      ·have hr:=hide (show RES=some (u,i+k+1) by rw[hRc,if_neg hok.2];unfold finB;simp only;rw[hu.out,if_pos ⟨hXl,hok.1⟩])
       obtain⟨⟨hl1,hl2⟩,hz⟩:=hok
       have hl1':u≥lo:=hl1
       clear hR hRc hacc2 hc hbig hm
       by_cases hc0:c=0
       ·have hc0':¬ (c:Int) > 0:=by omega
        have hk0:(7*(k:Int)==0)=true:=by simp;omega
        replace hz:=hide hz
        replace hc0:=hide hc0
        go_wp2_with (first
         |(go_at_call 153;refine hC.out.mono ?_;rintro e w1 ⟨rfl,h1,hf1⟩;have he1:=hE.out w1 (hD.out.2.trans hf1 (fun _ _ e=>e));unfold ErrDt at he1;replace h1:=hide h1;replace hf1:=hide hf1)
         |(go_at_call 167;refine(hU.out _).mono ?_;rintro e w2 ⟨rfl,hw2⟩;replace hw2:=hw2.symm;subst hw2))
        try go_ret
        rw[hPOST.out,hr.out]
        exact⟨hD.out.2.trans hf1.out (fun _ _ e=>e),rfl,hlt,h1.out⟩
       ·have hc0':(c:Int) > 0:=by omega
        replace hz:=hide hz
        replace hc0:=hide hc0
        go_wp2_with (first
         |(go_at_call 153;refine hC.out.mono ?_;rintro e w1 ⟨rfl,h1,hf1⟩;have he1:=hE.out w1 (hD.out.2.trans hf1 (fun _ _ e=>e));unfold ErrDt at he1;replace h1:=hide h1;replace hf1:=hide hf1)
         |(go_at_call 167;refine(hU.out _).mono ?_;rintro e w2 ⟨rfl,hw2⟩;replace hw2:=hw2.symm;subst hw2))
        try go_ret
        rw[hPOST.out,hr.out]
        exact⟨hD.out.2.trans hf1.out (fun _ _ e=>e),rfl,hlt,h1.out⟩
      ·have hr:=hide (show RES=none by
        rw[hRc]
        by_cases hz:c=0∧0<k
        ·rw[if_pos hz]
         rfl
        ·rw[if_neg hz]
         unfold finB
         simp only
         rw[hu.out,if_neg (fun x=>hok ⟨x.2,hz⟩)])
       clear hR hRc hacc2 hc hbig hm
       by_cases hl1:lo≤u
       ·have hl1':u≥lo:=hl1
        by_cases hl2:u≤up
        ·have hz:c=0∧0<k:=Classical.not_not.1 (fun x=>hok ⟨⟨hl1,hl2⟩,x⟩)
         have hc0':¬ (c:Int) > 0:=by omega
         have hk0:(7*(k:Int)==0)=false:=by simp;omega
         have hkp:0<k:=hz.2
         replace hz:=hide hz
         clear hok
         go_wp2_with (first
          |(go_at_call 153;refine hC.out.mono ?_;rintro e w1 ⟨rfl,h1,hf1⟩;have he1:=hE.out w1 (hD.out.2.trans hf1 (fun _ _ e=>e));unfold ErrDt at he1;replace h1:=hide h1;replace hf1:=hide hf1)
          |(go_at_call 167;refine(hU.out _).mono ?_;rintro e w2 ⟨rfl,hw2⟩;replace hw2:=hw2.symm;subst hw2))
         all_goals first
          |(exfalso;omega)
          |(go_quiet (fail)
            go_wp2_with fail
            try go_ret
            rw[hPOST.out,hr.out]
            exact⟨(hD.out.2.trans hf1.out (fun _ _ e=>e)).still (Still.drewN _ _),rfl,_,hlt,h1.out.still (Still.drewN _ _)⟩)
        ·clear hok
         go_wp2_with (first
          |(go_at_call 153;refine hC.out.mono ?_;rintro e w1 ⟨rfl,h1,hf1⟩;have he1:=hE.out w1 (hD.out.2.trans hf1 (fun _ _ e=>e));unfold ErrDt at he1;replace h1:=hide h1;replace hf1:=hide hf1)
          |(go_at_call 167;refine(hU.out _).mono ?_;rintro e w2 ⟨rfl,hw2⟩;replace hw2:=hw2.symm;subst hw2))
         go_quiet (fail)
         go_wp2_with fail
         try go_ret
         rw[hPOST.out,hr.out]
         exact⟨(hD.out.2.trans hf1.out (fun _ _ e=>e)).still (Still.drewN _ _),rfl,_,hlt,h1.out.still (Still.drewN _ _)⟩
       ·have hl1':¬ u≥lo:=hl1
        clear hok
        go_wp2_with (first
         |(go_at_call 153;refine hC.out.mono ?_;rintro e w1 ⟨rfl,h1,hf1⟩;have he1:=hE.out w1 (hD.out.2.trans hf1 (fun _ _ e=>e));unfold ErrDt at he1;replace h1:=hide h1;replace hf1:=hide hf1)
         |(go_at_call 167;refine(hU.out _).mono ?_;rintro e w2 ⟨rfl,hw2⟩;replace hw2:=hw2.symm;subst hw2))
        go_quiet (fail)
        go_wp2_with fail
        try go_ret
        rw[hPOST.out,hr.out]
        exact⟨(hD.out.2.trans hf1.out (fun _ _ e=>e)).still (Still.drewN _ _),rfl,_,hlt,h1.out.still (Still.drewN _ _)⟩
     ·have hc1':(c:Int)≥128:=by omega
      have hnext:=hide (show k+1≤9∧acc+X<128 ^ (k+1)∧RES=finB lo up (lebC s i (k+1) (acc+X))∨10≤k+1∧RES=none by
       rw[hR,lebC_more h9 hlt (by omega),hc]
       by_cases hk9:k=9
       ·right
        rw[if_pos hk9]
        exact⟨by omega,rfl⟩
       ·left
        have h3:128 ^ (k+1)=128 ^ k*128:=Nat.pow_succ 128 k
        have h2:c % 128*128 ^ k≤127*128 ^ k:=Nat.mul_le_mul_right _ (by omega)
        rw[if_neg hk9,hXe.out,show c-128=c % 128 by omega,Nat.mul_comm (128 ^ k)]
        exact⟨by omega,by omega,rfl⟩)
      clear hR hacc2 hc hbig
      go_wp2_with (go_at_call 153;refine hC.out.mono ?_;rintro e w1 ⟨rfl,h1,hf1⟩;have he1:=hE.out w1 (hD.out.2.trans hf1 (fun _ _ e=>e));unfold ErrDt at he1;replace h1:=hide h1;replace hf1:=hide hf1)
      go_roundg (s.size+1-(i+(k+1)))
      case measure=>omega
      case rel=>
       refine⟨k+1,acc+X,rfl,?_,by omega,Nat.le_refl _,hXl,hide ⟨h1.out,hD.out.2.trans hf1.out (fun _ _ e=>e)⟩,hnext.out⟩
       congr 1
   ·have g1:=shl_far (x:=(c:Int) % 128) h10
    have g2:=shr_far (k:=k)
    have hk4:k≤4000:=by omega
    by_cases hl0:c % 128=0
    ·have g3:((0:Int) != (c:Int) % 128)=false:=by simp;omega
     have hO:bits .or .u64 (acc:Int) 0=(acc:Int):=by have:=u64_or_nat acc 0 hacc (by decide);simpa using this
     by_cases hc1:c<128
     ·have hc1':¬ (c:Int)≥128:=by omega
      have hc0':¬ (c:Int) > 0:=by omega
      have hk0:(7*(k:Int)==0)=false:=by simp;omega
      obtain⟨u,hu⟩:∃ u,unfI acc=u:=⟨_,rfl⟩
      have hU:=fun (w:World)=>unfold_any (w:=w) hacc
      rw[hu] at hU
      replace hU:=hide hU
      have hr:=hide hR
      clear hu hR hc hl0
      by_cases hl1:u≥lo
      ·by_cases hl2:u≤up
       all_goals
        go_wp2_with (first
         |(go_at_call 153;refine hC.out.mono ?_;rintro e w1 ⟨rfl,h1,hf1⟩;have he1:=hE.out w1 (hD.out.2.trans hf1 (fun _ _ e=>e));unfold ErrDt at he1;replace h1:=hide h1;replace hf1:=hide hf1)
         |(go_at_call 167;refine(hU.out _).mono ?_;rintro e w2 ⟨rfl,hw2⟩;replace hw2:=hw2.symm;subst hw2))
        all_goals first
         |(exfalso;omega)
         |(go_quiet (fail)
           go_wp2_with fail
           try go_ret
           rw[hPOST.out,hr.out]
           exact⟨(hD.out.2.trans hf1.out (fun _ _ e=>e)).still (Still.drewN _ _),rfl,_,hlt,h1.out.still (Still.drewN _ _)⟩)
      ·go_wp2_with (first
        |(go_at_call 153;refine hC.out.mono ?_;rintro e w1 ⟨rfl,h1,hf1⟩;have he1:=hE.out w1 (hD.out.2.trans hf1 (fun _ _ e=>e));unfold ErrDt at he1;replace h1:=hide h1;replace hf1:=hide hf1)
        |(go_at_call 167;refine(hU.out _).mono ?_;rintro e w2 ⟨rfl,hw2⟩;replace hw2:=hw2.symm;subst hw2))
       all_goals first
        |(exfalso;omega)
        |(go_quiet (fail)
          go_wp2_with fail
          try go_ret
          rw[hPOST.out,hr.out]
          exact⟨(hD.out.2.trans hf1.out (fun _ _ e=>e)).still (Still.drewN _ _),rfl,_,hlt,h1.out.still (Still.drewN _ _)⟩)
     ·have hc1':(c:Int)≥128:=by omega
      have hr:=hide hR
      clear hR hc hl0
      go_wp2_with (go_at_call 153;refine hC.out.mono ?_;rintro e w1 ⟨rfl,h1,hf1⟩;have he1:=hE.out w1 (hD.out.2.trans hf1 (fun _ _ e=>e));unfold ErrDt at he1;replace h1:=hide h1;replace hf1:=hide hf1)
      go_roundg (s.size+1-(i+(k+1)))
      case measure=>omega
      case rel=>
       refine⟨k+1,acc,rfl,?_,by omega,Nat.le_refl _,hacc,hide ⟨h1.out,hD.out.2.trans hf1.out (fun _ _ e=>e)⟩,.inr ⟨by omega,hr.out⟩⟩
       congr 1
    ·have g3:((0:Int) != (c:Int) % 128)=true:=by simp;omega
     have hr:=hide hR
     clear hR hc hl0
     go_wp2_with (go_at_call 153;refine hC.out.mono ?_;rintro e w1 ⟨rfl,h1,hf1⟩;have he1:=hE.out w1 (hD.out.2.trans hf1 (fun _ _ e=>e));unfold ErrDt at he1;replace h1:=hide h1;replace hf1:=hide hf1)
     go_quiet (fail)
     go_wp2_with fail
     try go_ret
     rw[hPOST.out,hr.out]
     exact⟨(hD.out.2.trans hf1.out (fun _ _ e=>e)).still (Still.drewN _ _),rfl,_,hlt,h1.out.still (Still.drewN _ _)⟩
open Go.RowKit
section
variable {w:World} {br:Nat} {sv rv:Value} {s:ByteArray} {i n:Nat} {dt:TypeId} {dx:Value}
set_option maxHeartbeats 4000000 in
theorem wcount_any (h:RwAt w br sv rv s i n) (hs:s.size≤4000) (hi:i≤s.size) (hE:∀ W,Fr w W (· = br)→ErrDt W dt dx) :
 Calls Tryz.prog 156 #[.pointer (some ⟨br,0,none⟩)] w (WNum w br sv rv s n dt dx (bSize s i)):=by
 obtain⟨POST,hPOST⟩:∃ Q,Hid (Q=WNum w br sv rv s n dt dx (bSize s i)):=⟨_,rfl⟩
 rw[← hPOST.out]
 have hC:=wnumber_any (lo:=0) (up:=9223372036854775807) h hs hi hE
 clear h hE
 cases hb:bNum s 0 9223372036854775807 i with
 | none=>
  rw[hb] at hC
  have hr:=hide (show bSize s i=none from hb)
  replace hC:=hide hC
  go_enter Tryz.func156,Tryz.ntmps156
  go_wp2_with (go_at_call 154;refine hC.out.mono ?_;rintro e w1 ⟨hf1,rfl,hm⟩;replace hf1:=hide hf1;replace hm:=hide hm)
  try go_ret
  rw[hPOST.out,hr.out]
  exact⟨hf1.out,rfl,hm.out⟩
 | some q=>
  obtain⟨v,j⟩:=q
  rw[hb] at hC
  have hr:=hide (show bSize s i=some (v,j) from hb)
  replace hC:=hide hC
  go_enter Tryz.func156,Tryz.ntmps156
  go_wp2_with (go_at_call 154;refine hC.out.mono ?_;rintro e w1 ⟨hf1,rfl,hm⟩;replace hf1:=hide hf1;replace hm:=hide hm)
  try go_ret
  rw[hPOST.out,hr.out]
  exact⟨hf1.out,rfl,hm.out⟩
set_option maxHeartbeats 4000000 in
theorem wchoice_any {m:Nat}(hm3:m≤4000) (h:RwAt w br sv rv s i n) (hs:s.size≤4000) (hi:i≤s.size) (hE:∀ W,Fr w W (· = br)→ErrDt W dt dx) :
 Calls Tryz.prog 157 #[.pointer (some ⟨br,0,none⟩),.int .i64 (m:Int)] w (WNum w br sv rv s n dt dx (bNum s 0 ((m:Int)-1) i)):=by
 obtain⟨POST,hPOST⟩:∃ Q,Hid (Q=WNum w br sv rv s n dt dx (bNum s 0 ((m:Int)-1) i)):=⟨_,rfl⟩
 rw[← hPOST.out]
 have hC:=wnumber_any (lo:=0) (up:=(m:Int)-1) h hs hi hE
 clear h hE
 cases hb:bNum s 0 ((m:Int)-1) i with
 | none=>
  rw[hb] at hC
  have hr:=hide hb
  replace hC:=hide hC
  clear hb
  go_enter Tryz.func157,Tryz.ntmps157
  go_wp2_with (go_at_call 154;refine hC.out.mono ?_;rintro e w1 ⟨hf1,rfl,hm⟩;replace hf1:=hide hf1;replace hm:=hide hm)
  try go_ret
  rw[hPOST.out,hr.out]
  exact⟨hf1.out,rfl,hm.out⟩
 | some q=>
  obtain⟨v,j⟩:=q
  have hg:=bNum_goes hb
  rw[hb] at hC
  have hr:=hide hb
  replace hC:=hide hC
  clear hb
  go_enter Tryz.func157,Tryz.ntmps157
  go_wp2_with (go_at_call 154;refine hC.out.mono ?_;rintro e w1 ⟨hf1,rfl,hm⟩;replace hf1:=hide hf1;replace hm:=hide hm)
  try go_ret
  rw[hPOST.out,hr.out]
  exact⟨hf1.out,rfl,hm.out⟩
def WTxt (w:World) (br:Nat) (sv rv:Value) (s:ByteArray) (n:Nat) (dt:TypeId) (dx:Value) (r:Option (ByteArray×Nat)) (e:Ending) (w':World):Prop:=
 Fr w w' (· = br)∧match r with
 | some (tx,j)=>e=.returned (.tuple #[.string tx,.nilIface])∧j≤s.size∧RwAt w' br sv rv s j n
 | none=>e=.returned (.tuple #[.string noB,.iface dt dx])∧∃ j,j≤s.size∧RwAt w' br sv rv s j n
end
theorem extract_byte {s:ByteArray}{i m k:Nat}(hm:i+m≤s.size) (hk:k<m):((s.extract i (i+m)).data.toList.getD k 0).toNat=bt s (i+k):=by
 have hz:i+k<s.data.toList.length:=by rw[Array.length_toList];show i+k<s.size;omega
 rw[bt_eq s (i+k) (by omega)]
 simp[List.getD,ByteArray.data_extract]
 rw[List.getElem?_take_of_lt hk,List.getElem?_drop,List.getElem?_eq_getElem hz]
 rfl
def WlInv (w:World) (br:Nat) (sv rv:Value) (s:ByteArray) (i n m:Nat) (bb:Nat) (q:Nat) (v48:Value) (W:World):Prop:=
 ∃ k:Nat,v48=.int .i64 (k:Int)∧k≤m∧m+1-k≤q∧i+k≤letEnd s i∧Hid (RwAt W br sv rv s (i+m) n∧Fr w W (· = br))∧Hid (∀ q,q<m→W.cell? ⟨bb,q,none⟩=some (.int .u8 (bt s (i+q):Int)))
set_option maxHeartbeats 8000000 in
set_option maxRecDepth 100000 in
theorem wletters_any {w:World}{br:Nat}{sv rv:Value}{s:ByteArray}{i n:Nat}{dt:TypeId}{dx:Value}{m:Nat}(h:RwAt w br sv rv s i n) (hs:s.size≤4000) (hi:i≤s.size) (hm:m≤9223372036854775807) (hE:∀ W,Fr w W (· = br)→ErrDt W dt dx) :
 Calls Tryz.prog 159 #[.pointer (some ⟨br,0,none⟩),.int .i64 (m:Int)] w (WTxt w br sv rv s n dt dx (bText s i m)):=by
 obtain⟨POST,hPOST⟩:∃ Q,Hid (Q=WTxt w br sv rv s n dt dx (bText s i m)):=⟨_,rfl⟩
 rw[← hPOST.out]
 have c2:=h.c2
 have c3:=h.c3
 have f3:=h.thaw 3
 have he:=hE w (Fr.refl _ _)
 unfold ErrDt at he
 have hle:=letEnd_top hi
 by_cases hbig:s.size<i+m
 ·have hr:=hide (show bText s i m=none by unfold bText;rw[if_neg (by omega)])
  have hb':(m:Int) > (s.size:Int)-(i:Int):=by omega
  replace h:=hide h
  replace hE:=hide hE
  go_enter Tryz.func159,Tryz.ntmps159
  go_wp2_with fail
  go_quiet (fail)
  go_wp2_with fail
  go_quiet (fail)
  go_wp2_with fail
  try go_ret
  rw[hPOST.out,hr.out]
  exact⟨(Fr.refl w (· = br)).still ((Still.drewN _ _).trans (Still.drewN _ _)),rfl,i,hi,h.out.still ((Still.drewN _ _).trans (Still.drewN _ _))⟩
 ·have hb':¬ (m:Int) > (s.size:Int)-(i:Int):=by omega
  have hm4:m≤4000:=by omega
  have hij:(i:Int)≤(i:Int)+(m:Int):=by omega
  have hjs:(i:Int)+(m:Int)≤(s.size:Int):=by omega
  obtain⟨tx,htx⟩:∃ tx,s.extract i (i+m)=tx:=⟨_,rfl⟩
  have htz:tx.size=m:=by rw[← htx,ByteArray.size_extract];omega
  have hby:=hide (show ∀ q,q<m→(tx.data.toList.getD q 0).toNat=bt s (i+q) from fun q hq=>by rw[← htx];exact extract_byte (by omega) hq)
  have hv:=fun (W:World)=>Lib.run_convert_string_bytes (P:=Tryz.prog) W 9 99 5 tx u_string u_u8s Tryz.underlying5
  have hst:=hide (show ∀ k1 k2,RwAt (Lib.bytesWorld (((w.drewN k1).setCell ⟨br,3,none⟩ (.int .i64 ((i:Int)+(m:Int)))).drewN k2) 5 tx) br sv rv s (i+m) n∧Fr w (Lib.bytesWorld (((w.drewN k1).setCell ⟨br,3,none⟩ (.int .i64 ((i:Int)+(m:Int)))).drewN k2) 5 tx) (· = br)∧∀ q,q<m→(Lib.bytesWorld (((w.drewN k1).setCell ⟨br,3,none⟩ (.int .i64 ((i:Int)+(m:Int)))).drewN k2) 5 tx).cell? ⟨w.heap.size,q,none⟩=some (.int .u8 (bt s (i+q):Int)) from fun k1 k2=>by
   have e1:(((w.drewN k1).setCell ⟨br,3,none⟩ (.int .i64 ((i:Int)+(m:Int)))).drewN k2).heap.size=w.heap.size:=by simp[World.setCell,World.drewN]
   have h1:RwAt (((w.drewN k1).setCell ⟨br,3,none⟩ (.int .i64 ((i:Int)+(m:Int)))).drewN k2) br sv rv s (i+m) n:=by
    exact((h.still (Still.drewN w k1)).move m).still (Still.drewN _ k2)
   have h2:Fr w (((w.drewN k1).setCell ⟨br,3,none⟩ (.int .i64 ((i:Int)+(m:Int)))).drewN k2) (· = br):=(((Fr.refl w (· = br)).still (Still.drewN _ _)).setCell _ _ (fun _=>rfl)).still (Still.drewN _ _)
   generalize ((w.drewN k1).setCell ⟨br,3,none⟩ (.int .i64 ((i:Int)+(m:Int)))).drewN k2=V at *
   have h3:Fr V (Lib.bytesWorld V 5 tx) (fun _=>False):=⟨rfl,rfl,rfl,by rw[Lib.bytesWorld_size];omega,fun k hk _=>Lib.bytesWorld_at_old V _ tx k hk⟩
   refine⟨h3.blk h1 id,h2.trans h3 (fun _ _ f=>f.elim),fun q hq=>?_⟩
   rw[← e1,Lib.bytesWorld_cell V _ tx q (by omega),hby.out q hq])
  replace h:=hide h
  replace hE:=hide hE
  clear he
  go_enter Tryz.func159,Tryz.ntmps159
  go_wp2_with fail
  go_quiet (fail)
  go_wp2_with fail
  go_quiet (fail)
  go_wp2_with fail
  go_loopg [9,48] (m+1) (fun q v9 v48 W=>WlInv w br sv rv s i n m w.heap.size q v48 W)
  case atStart=>exact⟨0,rfl,by omega,by omega,letEnd_ge s i,hide ⟨(hst.out _ _).1,(hst.out _ _).2.1⟩,hide (hst.out _ _).2.2⟩
  case round=>
   clear hst hby hv
   obtain⟨k,rfl,hkm,hq,hke,hD,hcl⟩:=hrel
   have htx':=hide htx
   have htz':=hide htz
   clear htx htz c2 c3 f3
   by_cases hend:k=m
   ·subst hend
    have hlt':¬ (k:Int)<(k:Int):=by omega
    have hr:=hide (show bText s i k=some (tx,i+k) by unfold bText;rw[if_pos hke,htx'.out])
    go_wp2_with fail
    try go_ret
    rw[hPOST.out,hr.out]
    exact⟨hD.out.2,by rw[htx'.out],by omega,hD.out.1⟩
   ·have hlt:k<m:=by omega
    have hlt':(k:Int)<(m:Int):=by omega
    have hc:=hcl.out k hlt
    obtain⟨c,hcc⟩:∃ c,bt s (i+k)=c:=⟨_,rfl⟩
    rw[hcc] at hc
    by_cases hin:97≤c∧c≤122
    ·have n1:¬ (c:Int)<97:=by omega
     have n2:¬ (c:Int) > 122:=by omega
     have hke':i+(k+1)≤letEnd s i:=by
      rw[← letEnd_step hke]
      unfold letEnd
      rw[runEnd_on (by omega) (by rw[hcc];exact hin)]
      exact letEnd_ge s (i+k+1)
     replace hcc:=hide hcc
     go_wp2_with fail
     go_roundg (m+1-(k+1))
     case measure=>omega
     case rel=>exact⟨k+1,by simp,by omega,Nat.le_refl _,hke',hD,hcl⟩
    ·have hr:=hide (show bText s i m=none by
      unfold bText
      rw[if_neg (fun x=>by
       have e1:=letEnd_step hke
       unfold letEnd at e1 x
       rw[runEnd_off (by rw[hcc];exact hin)] at e1
       omega)])
     have he1:=hE.out _ hD.out.2
     unfold ErrDt at he1
     replace hcc:=hide hcc
     by_cases n1:(c:Int)<97
     all_goals (try have n2:(c:Int) > 122:=by omega)
     all_goals
      go_wp2_with fail
      go_quiet (fail)
      go_wp2_with fail
      try go_ret
      rw[hPOST.out,hr.out]
      exact⟨hD.out.2.still (Still.drewN _ _),rfl,_,by omega,hD.out.1.still (Still.drewN _ _)⟩
set_option maxHeartbeats 4000000 in
theorem wsized_any {w:World}{br:Nat}{sv rv:Value}{s:ByteArray}{i n:Nat}{dt:TypeId}{dx:Value}(h:RwAt w br sv rv s i n) (hs:s.size≤4000) (hi:i≤s.size) (hE:∀ W,Fr w W (· = br)→ErrDt W dt dx) :
 Calls Tryz.prog 155 #[.pointer (some ⟨br,0,none⟩)] w (WTxt w br sv rv s n dt dx (bSized s i)):=by
 obtain⟨POST,hPOST⟩:∃ Q,Hid (Q=WTxt w br sv rv s n dt dx (bSized s i)):=⟨_,rfl⟩
 rw[← hPOST.out]
 have hC:=wcount_any h hs hi hE
 replace hE:=hide hE
 clear h
 cases hb:bSize s i with
 | none=>
  rw[hb] at hC
  have hr:=hide (show bSized s i=none by unfold bSized;rw[hb])
  replace hC:=hide hC
  clear hb
  go_enter Tryz.func155,Tryz.ntmps155
  go_wp2_with (go_at_call 156;refine hC.out.mono ?_;rintro e w1 ⟨hf1,rfl,hm⟩;replace hf1:=hide hf1;replace hm:=hide hm)
  try go_ret
  rw[hPOST.out,hr.out]
  exact⟨hf1.out,rfl,hm.out⟩
 | some q=>
  obtain⟨v,j⟩:=q
  have hg:=bNum_goes hb
  obtain⟨m,rfl⟩:∃ m:Nat,v=(m:Int):=⟨v.toNat,by omega⟩
  rw[hb] at hC
  have hr:bSized s i=bText s j m:=by unfold bSized;rw[hb];simp only[Int.toNat_natCast]
  have hT:=fun (W:World) (h:RwAt W br sv rv s j n) (hf:Fr w W (· = br))=>wletters_any (m:=m) (dt:=dt) (dx:=dx) h hs hg.2.1 (by omega) (fun V hV=>hE.out V (hf.trans hV (fun _ _ e=>e)))
  replace hC:=hide hC
  clear hb
  cases ht:bText s j m with
  | none=>
   rw[ht] at hT hr
   replace hT:=hide hT
   replace hr:=hide hr
   clear ht
   go_enter Tryz.func155,Tryz.ntmps155
   go_wp2_with (first
    |(go_at_call 156;refine hC.out.mono ?_;rintro e w1 ⟨hf1,rfl,hj1,h1⟩;replace hf1:=hide hf1;replace h1:=hide h1)
    |(go_at_call 159;refine(hT.out _ h1.out hf1.out).mono ?_;rintro e w2 ⟨hf2,rfl,hm⟩;replace hf2:=hide hf2;replace hm:=hide hm))
   try go_ret
   rw[hPOST.out,hr.out]
   exact⟨hf1.out.trans hf2.out (fun _ _ e=>e),rfl,hm.out⟩
  | some q=>
   obtain⟨tx,j2⟩:=q
   rw[ht] at hT hr
   replace hT:=hide hT
   replace hr:=hide hr
   clear ht
   go_enter Tryz.func155,Tryz.ntmps155
   go_wp2_with (first
    |(go_at_call 156;refine hC.out.mono ?_;rintro e w1 ⟨hf1,rfl,hj1,h1⟩;replace hf1:=hide hf1;replace h1:=hide h1)
    |(go_at_call 159;refine(hT.out _ h1.out hf1.out).mono ?_;rintro e w2 ⟨hf2,rfl,hm⟩;replace hf2:=hide hf2;replace hm:=hide hm))
   try go_ret
   rw[hPOST.out,hr.out]
   exact⟨hf1.out.trans hf2.out (fun _ _ e=>e),rfl,hm.out⟩
open Go.RowKit
structure WErr where
 dt:TypeId
 dx:Value
 bt:TypeId
 bx:Value
def WErr.t (E:WErr) (e:Nat):TypeId:=if e=7 then E.bt else E.dt
def WErr.x (E:WErr) (e:Nat):Value:=if e=7 then E.bx else E.dx
structure YC (w0:World) (P:Nat→Prop) (ss:ByteArray) (ds:List PD) (sv rv:Value) (xs:List Value) (s:ByteArray) (E:WErr) (br i n:Nat) (W:World):Prop where
 R:RwAt W br sv rv s i n
 D:DRow W P ss ds sv xs
 G:SameG w0 W
 E1:ErrV 4 w0 E.dt E.dx
 E2:ErrV 5 w0 E.bt E.bx
 Pbr:∀ g,P g→g<br
 brG:w0.heap.size≤br
 hs:s.size≤4000
 il:i≤s.size
section
variable {w0 W W':World} {P:Nat→Prop} {ss:ByteArray} {ds:List PD} {sv rv:Value} {xs:List Value} {s:ByteArray} {E:WErr} {br i n i' n':Nat}
theorem YC.brP (M:YC w0 P ss ds sv rv xs s E br i n W):¬ P br:=fun h=>Nat.lt_irrefl _ (M.Pbr br h)
theorem YC.lt (M:YC w0 P ss ds sv rv xs s E br i n W):br<W.heap.size:=Blk.lt M.R
theorem YC.call (M:YC w0 P ss ds sv rv xs s E br i n W) (h:RwAt W' br sv rv s i' n') (hf:Fr W W' (· = br)) (hi:i'≤s.size):YC w0 P ss ds sv rv xs s E br i' n' W':=by
 have h1:=M.lt
 have h2:=M.brG
 exact⟨h,M.D.fr hf (fun g hg e=>M.brP (e▸hg)),M.G.fr hf (by omega) (fun g e=>e▸M.brG),M.E1,M.E2,M.Pbr,M.brG,M.hs,hi⟩
theorem YC.new (M:YC w0 P ss ds sv rv xs s E br i n W) (hf:Fr W W' (fun _=>False)):YC w0 P ss ds sv rv xs s E br i n W':=M.call (hf.blk M.R id) (hf.mono (fun _ _ f=>f.elim)) M.il
theorem YC.still (M:YC w0 P ss ds sv rv xs s E br i n W) (hf:Still W W'):YC w0 P ss ds sv rv xs s E br i n W':=M.new ((Fr.refl W _).still hf)
theorem YC.err (M:YC w0 P ss ds sv rv xs s E br i n W):∀ V,Fr W V (· = br)→ErrDt V E.dt E.dx:=fun V hV=>by
 have h1:=M.lt
 have h2:=M.brG
 exact(M.G.fr hV (by omega) (fun g e=>e▸M.brG)).err M.E1
theorem YC.big (M:YC w0 P ss ds sv rv xs s E br i n W):W.cell? ⟨5,0,none⟩=some (.iface E.bt E.bx):=M.G.err M.E2
end
def YPost (env:Nat→Option PB) (t:PT) (w:World) (sv rv:Value) (s:ByteArray) (E:WErr) (br:Nat) (res:Except Nat (DT×Nat×Nat)) (e:Ending) (w':World):Prop:=
 ∃ v ev,e=.returned (.tuple #[v,ev])∧Fr w w' (· = br)∧
 match res with
 | .ok (d,j,m)=>ev=.nilIface∧DaV env w' (fun g=>w.heap.size≤g) d t v∧RwAt w' br sv rv s j m∧j≤s.size
 | .error e0=>v=.nilIface∧ErrD w' w.heap.size (E.t e0) (E.x e0) ev∧∃ j m,RwAt w' br sv rv s j m∧j≤s.size
section
variable {env:Nat→Option PB} {t:PT} {w w1 w' W:World} {sv rv:Value} {s:ByteArray} {E:WErr} {br j m:Nat} {d:DT} {v:Value} {res:Except Nat (DT×Nat×Nat)} {e:Ending}
theorem yok (h:DaV env w' (fun g=>w.heap.size≤g) d t v) (hf:Fr w w' (· = br)) (hR:RwAt w' br sv rv s j m) (hj:j≤s.size):YPost env t w sv rv s E br (.ok (d,j,m)) (.returned (.tuple #[v,.nilIface])) w':=⟨v,_,rfl,hf,rfl,h,hR,hj⟩
theorem ybad (hf:Fr w w' (· = br)) (hR:∃ j m,RwAt w' br sv rv s j m∧j≤s.size):YPost env t w sv rv s E br (.error 6) (.returned (.tuple #[.nilIface,.iface E.dt E.dx])) w':=⟨_,_,rfl,hf,rfl,.base,hR⟩
theorem YPost.pre (hf:Fr w w1 (fun _=>False)) (h:YPost env t w1 sv rv s E br res e w'):YPost env t w sv rv s E br res e w':=by
 obtain⟨v,ev,he,hf2,hm⟩:=h
 have hz:=hf.size
 refine⟨v,ev,he,(hf.mono (fun _ _ f=>f.elim)).trans hf2 (fun _ _ e=>e),?_⟩
 cases res with
 | error e0=>exact⟨hm.1,hm.2.1.less hz,hm.2.2⟩
 | ok q=>
  obtain⟨d,j,m⟩:=q
  exact⟨hm.1,hm.2.1.mono (fun g _ hg=>by omega),hm.2.2⟩
end
def DatY (w0:World) (P:Nat→Prop) (ss:ByteArray) (ds:List PD) (sv rv:Value) (xs:List Value) (s:ByteArray) (E:WErr) (br f:Nat) (t:PT) (i n:Nat):Prop:=
 ∀ (w:World) (v:Value),YC w0 P ss ds sv rv xs s E br i n w→n≤300→TyV w P t v→
  Calls Tryz.prog 66 #[.pointer (some ⟨br,0,none⟩),v] w (YPost (envOf ds) t w sv rv s E br (rdB s (envOf ds) f t i n))
section
variable {w0 w:World} {P:Nat→Prop} {ss:ByteArray} {ds:List PD} {sv rv:Value} {xs:List Value} {s:ByteArray} {E:WErr} {br i n:Nat} {env:Nat→Option PB} {t:PT}
set_option maxHeartbeats 4000000 in
set_option maxRecDepth 100000 in
theorem ytruth_any (M:YC w0 P ss ds sv rv xs s E br i n w) :
 Calls Tryz.prog 125 #[.pointer (some ⟨br,0,none⟩)] w (YPost env t w sv rv s E br (if i<s.size∧bt s i≤1 then .ok (.mk 116 (bt s i:Int) noB [] [],i+1,n) else .error 6)):=by
 obtain⟨POST,hPOST⟩:∃ Q,Hid (Q=YPost env t w sv rv s E br (if i<s.size∧bt s i≤1 then .ok (.mk 116 (bt s i:Int) noB [] [],i+1,n) else .error 6)):=⟨_,rfl⟩
 rw[← hPOST.out]
 have hil:=M.il
 have hsl:=M.hs
 by_cases hl:i=s.size
 ·have hC:=hide (wnext_no M.R hl (M.err w (Fr.refl _ _)))
  rw[if_neg (by omega)] at hPOST
  clear M hl
  go_enter Tryz.func125,Tryz.ntmps125
  go_wp2_with (go_at_call 153;refine hC.out.mono ?_;rintro e w1 ⟨rfl,h1,hf1⟩;replace h1:=hide h1;replace hf1:=hide hf1)
  try go_ret
  rw[hPOST.out]
  exact ybad hf1.out ⟨i,n,h1.out,hil⟩
 ·have hlt:i<s.size:=by omega
  have hC:=wnext_yes M.R hsl hlt
  obtain⟨c,hc⟩:∃ c,bt s i=c:=⟨_,rfl⟩
  rw[hc] at hC hPOST
  have hE:=hide M.err
  replace hC:=hide hC
  clear M hc
  by_cases hc1:c≤1
  ·have hc1':¬ (c:Int) > 1:=by omega
   rw[if_pos ⟨hlt,hc1⟩] at hPOST
   have hc2:c=0∨c=1:=by omega
   rcases hc2 with rfl|rfl
   all_goals
    go_enter Tryz.func125,Tryz.ntmps125
    go_wp2_with (go_at_call 153;refine hC.out.mono ?_;rintro e w1 ⟨rfl,h1,hf1⟩;replace h1:=hide h1;replace hf1:=hide hf1)
    try go_ret
    rw[hPOST.out]
   ·exact yok (DaV.plain (.truth false) (by decide)) hf1.out h1.out hlt
   ·exact yok (DaV.plain (.truth true) (by decide)) hf1.out h1.out hlt
  ·have hc1':(c:Int) > 1:=by omega
   rw[if_neg (fun x=>hc1 x.2)] at hPOST
   go_enter Tryz.func125,Tryz.ntmps125
   go_wp2_with (go_at_call 153;refine hC.out.mono ?_;rintro e w1 ⟨rfl,h1,hf1⟩;have he1:=hE.out w1 hf1;unfold ErrDt at he1;replace h1:=hide h1;replace hf1:=hide hf1)
   go_quiet (fail)
   go_wp2_with fail
   try go_ret
   rw[hPOST.out]
   exact ybad (hf1.out.still (Still.drewN _ _)) ⟨_,n,h1.out.still (Still.drewN _ _),hlt⟩
set_option maxHeartbeats 4000000 in
set_option maxRecDepth 100000 in
theorem yinteger_any {c:Nat}{lo up:Int}(hc:c=105∨c=108) (M:YC w0 P ss ds sv rv xs s E br i n w) :
 Calls Tryz.prog 126 #[.pointer (some ⟨br,0,none⟩),.int .i64 lo,.int .i64 up] w (YPost env t w sv rv s E br (match bNum s lo up i with|none=>.error 6|some (q,j)=>.ok (.mk c q noB [] [],j,n))):=by
 obtain⟨POST,hPOST⟩:∃ Q,Hid (Q=YPost env t w sv rv s E br (match bNum s lo up i with|none=>.error 6|some (q,j)=>.ok (.mk c q noB [] [],j,n))):=⟨_,rfl⟩
 rw[← hPOST.out]
 have hC:=wnumber_any (lo:=lo) (up:=up) M.R M.hs M.il M.err
 clear M
 cases hb:bNum s lo up i with
 | none=>
  rw[hb] at hC hPOST
  replace hC:=hide hC
  clear hb
  go_enter Tryz.func126,Tryz.ntmps126
  go_wp2_with (go_at_call 154;refine hC.out.mono ?_;rintro e w1 ⟨hf1,rfl,j,hj,h1⟩;replace hf1:=hide hf1;replace h1:=hide h1)
  try go_ret
  rw[hPOST.out]
  exact ybad hf1.out ⟨j,n,h1.out,hj⟩
 | some q=>
  obtain⟨v,j⟩:=q
  have hg:=bNum_goes hb
  rw[hb] at hC hPOST
  replace hC:=hide hC
  clear hb
  go_enter Tryz.func126,Tryz.ntmps126
  go_wp2_with (go_at_call 154;refine hC.out.mono ?_;rintro e w1 ⟨hf1,rfl,hj,h1⟩;replace hf1:=hide hf1;replace h1:=hide h1)
  try go_ret
  rw[hPOST.out]
  exact yok (DaV.plain (.num c v hc hg.2.2.2.2.1 hg.2.2.2.2.2) (by decide)) hf1.out h1.out hj
set_option maxHeartbeats 4000000 in
set_option maxRecDepth 100000 in
theorem ytext_any (M:YC w0 P ss ds sv rv xs s E br i n w) :
 Calls Tryz.prog 127 #[.pointer (some ⟨br,0,none⟩)] w (YPost env t w sv rv s E br (match bSized s i with|none=>.error 6|some (tx,j)=>.ok (.mk 115 0 tx [] [],j,n))):=by
 obtain⟨POST,hPOST⟩:∃ Q,Hid (Q=YPost env t w sv rv s E br (match bSized s i with|none=>.error 6|some (tx,j)=>.ok (.mk 115 0 tx [] [],j,n))):=⟨_,rfl⟩
 rw[← hPOST.out]
 have hC:=wsized_any M.R M.hs M.il M.err
 have hsl:=M.hs
 clear M
 cases hb:bSized s i with
 | none=>
  rw[hb] at hC hPOST
  replace hC:=hide hC
  clear hb
  go_enter Tryz.func127,Tryz.ntmps127
  go_wp2_with (go_at_call 155;refine hC.out.mono ?_;rintro e w1 ⟨hf1,rfl,j,hj,h1⟩;replace hf1:=hide hf1;replace h1:=hide h1)
  try go_ret
  rw[hPOST.out]
  exact ybad hf1.out ⟨j,n,h1.out,hj⟩
 | some q=>
  obtain⟨tx,j⟩:=q
  have hg:=bSized_goes hb
  rw[hb] at hC hPOST
  replace hC:=hide hC
  clear hb
  go_enter Tryz.func127,Tryz.ntmps127
  go_wp2_with (go_at_call 155;refine hC.out.mono ?_;rintro e w1 ⟨hf1,rfl,hj,h1⟩;replace hf1:=hide hf1;replace h1:=hide h1)
  try go_ret
  rw[hPOST.out]
  exact yok (DaV.plain (.text tx (by omega)) (by decide)) hf1.out h1.out hj
end
end Go.Proofs.YtiifagiebikmdaaGreatDoor
