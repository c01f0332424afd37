import Derived.Test.YthmjjpkjgjklmaaGreatDoorW25
import Derived.Test.YthmjjpkjgjklmaaGreatDoorW05
import Derived.Test.YthmjjpkjgjklmaaGreatDoorW13
import Derived.Laws.BitsAllLaws
import Derived.Laws.Shifts
import Derived.Test.YthmjjpkjgjklmaaGreatDoorW23
import Derived.Lib.ConvBytes
import Derived.Test.YthmjjpkjgjklmaaGreatDoorW24
import Derived.Test.YthmjjpkjgjklmaaGreatDoorW26
import Derived.Test.YthmjjpkjgjklmaaGreatDoorA00
set_option maxHeartbeats 16000000
set_option maxRecDepth 100000
set_option linter.unusedSimpArgs false
open Go.Proofs.Tryz
namespace Go.Proofs.YthmjjpkjgjklmaaGreatDoor
open Go.RowKit
variable {k c:Nat}
def RwAt (w:World) (br:Nat) (sv rv:Value) (s:BA) (i n:Nat):Prop:=Blk w br [sv,rv,.string s,.int .i64 (i:Int),.int .i64 (n:Int)] 124
section
variable {w w':World} {br:Nat} {sv rv:Value} {s:BA} {i n:Nat}
theorem RwAt.c0 (h:RwAt w br sv rv s i n):w.cell? ⟨br,0,none⟩=some sv:=by rw[Blk.cell h];rfl
theorem RwAt.c1 (h:RwAt w br sv rv s i n):w.cell? ⟨br,1,none⟩=some rv:=by rw[Blk.cell h];rfl
theorem RwAt.c2 (h:RwAt w br sv rv s i n):w.cell? ⟨br,2,none⟩=some (.string s):=by rw[Blk.cell h];rfl
theorem RwAt.c3 (h:RwAt w br sv rv s i n):w.cell? ⟨br,3,none⟩=some (.int .i64 (i:Int)):=by rw[Blk.cell h];rfl
theorem RwAt.c4 (h:RwAt w br sv rv s i n):w.cell? ⟨br,4,none⟩=some (.int .i64 (n:Int)):=by rw[Blk.cell h];rfl
theorem RwAt.thaw (h:RwAt w br sv rv s i n) (o:Nat):w.frozen? ⟨br,o,none⟩=false:=Blk.thaw h o
theorem RwAt.still (h:RwAt w br sv rv s i n) (hw:ze_ w w'):RwAt w' br sv rv s i n:=by obtain⟨n,rfl⟩:=hw;exact h
theorem RwAt.inc (h:RwAt w br sv rv s i n):RwAt (w.setCell ⟨br,3,none⟩ (.int .i64 ((i:Int)+1))) br sv rv s (i+1) n:=Blk.set h 3 _
theorem RwAt.move (h:RwAt w br sv rv s i n) (j:Nat):RwAt (w.setCell ⟨br,3,none⟩ (.int .i64 ((i:Int)+(j:Int)))) br sv rv s (i+j) n:=by
 have:=Blk.set h 3 (.int .i64 ((i:Int)+(j:Int)));unfold RwAt;rw[Int.natCast_add];exact this
theorem RwAt.node (h:RwAt w br sv rv s i n):RwAt (w.setCell ⟨br,4,none⟩ (.int .i64 ((n:Int)+1))) br sv rv s i (n+1):=Blk.set h 4 _
end
def jz_ (w:World) (dt:TypeId) (dx:Value):Prop:=w.cell? ⟨4,0,none⟩=some (.iface dt dx)
section
variable {w:World} {br:Nat} {sv rv:Value} {s:BA} {i n:Nat} {dt:TypeId} {dx:Value}
theorem zjm (h:RwAt w br sv rv s i n) (hs:s.size<=4000) (hl:i<s.size) :
 Calls prog 182 #[.pointer (some ⟨br,0,none⟩)] w λ e w'=>e=.returned (.tuple #[.int .u8 (bt s i:Int),.nilIface])/\RwAt w' br sv rv s (i+1) n/\Fr w w' (· = br):=by
 refine hq_ λ POST Q_=>?_;have c2:=h.c2;have c3:=h.c3;have f3:=h.thaw 3
 have hne:((i:Int)==(s.size:Int))=false:=by simp;omega
 have hl':(i:Int)<(s.size:Int):=by omega
 obtain⟨x,hx⟩:∃ x,bt s i=x:=⟨_,rfl⟩
 have hbk:((s[i]'hl).toNat:Int)=(x:Int):=by rw[<- hx,zbh s i hl]
 rw[hx] at Q_;replace hx:=q_ hx;replace h:=q_ h
 go_in
 go_wp2_with fail
 go_quiet (fail)
 go_wp2_with fail
 go_quiet (fail)
 go_wp2_with fail
 try go_ret
 rw[Q_.o];refine⟨rfl,?_,?_⟩
 ·exact((h.o.still (ze_.drewN _ _)).inc).still (ze_.drewN _ _)
 ·exact(((Fr.refl w (· = br)).still (ze_.drewN _ _)).setCell _ _ (λ _=>rfl)).still (ze_.drewN _ _)
theorem zn5 (h:RwAt w br sv rv s i n) (hl:i=s.size) (hE:jz_ w dt dx) :
 Calls prog 182 #[.pointer (some ⟨br,0,none⟩)] w λ e w'=>e=.returned (.tuple #[.int .u8 0,.iface dt dx])/\RwAt w' br sv rv s i n/\Fr w w' (· = br):=by
 refine hq_ λ POST Q_=>?_;have c2:=h.c2;have c3:=h.c3
 have hne:((i:Int)==(s.size:Int))=true:=by simp;omega
 have he:=hE;unfold jz_ at he;replace hl:=q_ hl;replace h:=q_ h
 go_in
 go_wp2_with fail
 go_quiet (fail)
 go_wp2_with fail
 go_quiet (fail)
 go_wp2_with fail
 try go_ret
 rw[Q_.o];exact⟨rfl,h.o.still ((ze_.drewN _ _).trans (ze_.drewN _ _)),(Fr.refl w _).still ((ze_.drewN _ _).trans (ze_.drewN _ _))⟩
end
theorem zx6 {m:Nat}(h:m<9223372036854775808):bits .xor .i64 (-1) (m:Int) = -(m:Int)-1:=by
 have e:bits .xor .i64 (-1) (m:Int)=IntKind.i64.wrap ((BitVec.ofInt 64 (-1) ^^^ BitVec.ofInt 64 (m:Int)).toNat:Int):=rfl
 have a1:BitVec.ofInt 64 (-1)=BitVec.allOnes 64:=by decide
 rw[e,a1,BitVec.allOnes_xor,BitVec.toNat_not,BitVec.toNat_ofInt]
 have:(((m:Int) % ((2 ^ 64:Nat):Int)).toNat:Int)=(m:Int):=by omega
 simp only[IntKind.wrap,IntKind.bits,IntKind.signed]
 simp
 omega
theorem zhc {w:World}{z:Nat}(hz:z<18446744073709551616) :
 Calls prog 237 #[.int .u64 (z:Int)] w λ e w'=>e=.returned (.int .i64 (unfI z))/\w'=w:=by
 refine hq_ λ POST Q_=>?_
 have hc:IntKind.i64.wrap ((z:Int) / 2)=((z / 2:Nat):Int):=by
  simp only[IntKind.wrap,IntKind.bits,IntKind.signed]
  simp
  omega
 by_cases h1:z % 2=1
 ·have h1':(z:Int) % 2=1:=by omega
  have hx:=zx6 (m:=z / 2) (by omega)
  go_in
  go_wp2_with fail
  try go_ret
  rw[Q_.o];unfold unfI;rw[if_pos h1];refine⟨?_,rfl⟩
  congr 2
 ·have h1':¬ (z:Int) % 2=1:=by omega
  go_in
  go_wp2_with fail
  try go_ret
  rw[Q_.o];unfold unfI;rw[if_neg h1];refine⟨?_,rfl⟩
  congr 2
open Go.RowKit
def WNum (w:World) (br:Nat) (sv rv:Value) (s:BA) (n:Nat) (dt:TypeId) (dx:Value) (r:Option (Int×Nat)) (e:Ending) (w':World):Prop:=
 Fr w w' (· = br)/\match r with
 | some (v,j)=>e=.returned (.tuple #[.int .i64 v,.nilIface])/\j<=s.size/\RwAt w' br sv rv s j n
 | none=>e=.returned (.tuple #[.int .i64 0,.iface dt dx])/\∃ j,j<=s.size/\RwAt w' br sv rv s j n
def finB (lo hi:Int):Option (Nat×Nat)->Option (Int×Nat)
 | none=>none
 | some (z,j)=>if z<18446744073709551616/\lo<=unfI z/\unfI z<=hi then some (unfI z,j) else none
theorem zwx (s:BA) (lo hi:Int) (i:Nat):bNum s lo hi i=finB lo hi (lebC s i 0 0):=by
 rw[zth];unfold bNum bL finB
 cases lebD s 10 i with
 | none=>rfl
 | some q=>
  obtain⟨z,j⟩:=q;simp only
  by_cases h:z<18446744073709551616
  ·rw[if_pos h];simp only
   by_cases h2:lo<=unfI z/\unfI z<=hi
   ·rw[if_pos h2,if_pos ⟨h,h2⟩]
   ·rw[if_neg h2,if_neg (λ x=>h2 x.2)]
  ·rw[if_neg h,if_neg (λ x=>h x.1)]
theorem two7 (k:Nat):(2:Int) ^ (7*k)=((128 ^ k:Nat):Int):=by
 rw[show(128:Nat)=2 ^ 7 from rfl,<- Nat.pow_mul,Int.natCast_pow]
 rfl
theorem zzi {acc:Nat}(hk:k<=9) (hb:¬ (k=9/\2<=c % 128)) (hacc:acc<128 ^ k) :
 ∃ X:Nat,X=c % 128*128 ^ k/\acc+X<18446744073709551616/\IntKind.u64.wrap ((c:Int) % 128*2 ^ (7*k))=(X:Int)/\(X:Int) / 2 ^ (7*k)=(c:Int) % 128/\bits .or .u64 (acc:Int) (X:Int)=((acc+X:Nat):Int):=by
 have hp:=zzo k
 have hXl:acc+c % 128*128 ^ k<18446744073709551616:=by
  by_cases h9:k=9
  ·subst h9
   have:c % 128<=1:=by omega
   have:=b1_ (128 ^ 9) this;omega
  ·have h1:=zr6 (k:=k) (by omega);have h2:c % 128*128 ^ k<=127*128 ^ k:=b1_ _ (by omega);have h3:128 ^ (k+1)=128 ^ k*128:=Nat.pow_succ 128 k;omega
 have e1:(c:Int) % 128*2 ^ (7*k)=((c % 128*128 ^ k:Nat):Int):=by rw[two7,Int.natCast_mul];rfl
 refine⟨_,rfl,hXl,?_,?_,?_⟩
 ·rw[e1,IntKind.wrap_u64];omega
 ·rw[two7,<- Int.natCast_ediv,Nat.mul_div_cancel _ hp]
  rfl
 ·rw[u64_or_nat _ _ (by omega) (by omega)]
  congr 1
  rw[show(128:Nat)=2 ^ 7 from rfl,<- Nat.pow_mul,bo_ (c % 2 ^ 7)];rw[show(128:Nat)=2 ^ 7 from rfl,<- Nat.pow_mul] at hacc;rw[Nat.or_comm,<- Nat.two_pow_add_eq_or_of_lt hacc,Nat.add_comm]
theorem zr0 (hc:2<=c % 128):(IntKind.u64.wrap ((c:Int) % 128*9223372036854775808) / 9223372036854775808 != (c:Int) % 128)=true:=by
 rw[IntKind.wrap_u64]
 simp
 omega
theorem zxt {x:Int}(hk:10<=k):Op.shift .shl .u64 x .i64 (7*(k:Int))=pure (.int .u64 0):=by
 rw[shift_shl_any _ _ _ _ (by omega),show min (7*(k:Int)).toNat (IntKind.u64).bits=64 by show min _ 64=64;omega,IntKind.wrap_u64]
 congr 2
 omega
theorem zxs :Op.shift .shr .u64 0 .i64 (7*(k:Int))=pure (.int .u64 0):=by
 rw[shift_shr_any _ _ _ _ (by omega)]
 simp
def z0k (R_:Option (Int×Nat)) (lo up:Int) (w:World) (br:Nat) (sv rv:Value) (s:BA) (i n:Nat) (q:Nat) (v8 v9:Value) (W:World):Prop:=
 ∃ k acc:Nat,v8=.int .u64 (acc:Int)/\v9=.int .i64 ((7*k:Nat):Int)/\i+k<=s.size/\s.size+1-(i+k)<=q/\acc<18446744073709551616/\H_ (RwAt W br sv rv s (i+k) n/\Fr w W (· = br))/\
  ((k<=9/\acc<128 ^ k/\R_=finB lo up (lebC s i k acc))\/(10<=k/\R_=none))
theorem zb8 {w:World}{br:Nat}{sv rv:Value}{s:BA}{i n:Nat}{dt:TypeId}{dx:Value}{lo up:Int}(h:RwAt w br sv rv s i n) (hs:s.size<=4000) (hi:i<=s.size) (hE:∀ W,Fr w W (· = br)->jz_ W dt dx) :
 Calls prog 183 #[.pointer (some ⟨br,0,none⟩),.int .i64 lo,.int .i64 up] w (WNum w br sv rv s n dt dx (bNum s lo up i)):=by
 refine hq_ λ POST Q_=>?_;rw[zwx] at Q_;obtain⟨R_,hRES⟩:∃ r,r=finB lo up (lebC s i 0 0):=⟨_,rfl⟩;rw[<- hRES] at Q_;have start:H_ (z0k R_ lo up w br sv rv s i n (s.size+1) (.int .u64 0) (.int .i64 0) w):=q_ ⟨0,0,rfl,rfl,by omega,by omega,by omega,q_ ⟨h,Fr.refl _ _⟩,.inl ⟨by omega,by omega,hRES⟩⟩;replace hRES:=q_ hRES;replace hE:=q_ hE;clear h
 go_in
 go_wp2_with fail
 go_loopg [8,9,10,11,12] (s.size+1) (λ q v8 v9 v10 v11 v12 W=>z0k R_ lo up w br sv rv s i n q v8 v9 W)
 case atStart=>exact start.o
 case round=>
  clear start;obtain⟨k,acc,rfl,rfl,hik,hq,hacc,hD,hAB⟩:=hrel
  by_cases hend:i+k=s.size
  ·have hC:=q_ (zn5 hD.o.1 hend (hE.o _ hD.o.2))
   have hr:=q_ (show R_=none by
    rcases hAB with⟨h9,_,h⟩|⟨_,h⟩
    ·rw[h,zwe h9 (by omega)];rfl
    ·exact h)
   clear hAB
   go_wp2_with (go_at_call 182;refine hC.o.mono ?_;rintro e w1 ⟨rfl,h1,hf1⟩;replace h1:=q_ h1;replace hf1:=q_ hf1)
   try go_ret
   rw[Q_.o,hr.o];exact⟨hD.o.2.trans hf1.o u_,rfl,_,hik,h1.o⟩
  ·have hlt:i+k<s.size:=by omega
   obtain⟨c,hc⟩:∃ c,bt s (i+k)=c:=⟨_,rfl⟩;have hC:=zjm hD.o.1 hs hlt;rw[hc] at hC;replace hC:=q_ hC
   have hc8:c<256:=by have:=zqx s (i+k);omega
   rcases hAB with⟨h9,hacc2,hR⟩|⟨h10,hR⟩
   ·by_cases hbig:k=9/\2<=c % 128
    ·obtain⟨rfl,hb2⟩:=hbig;have hY:=zr0 hb2
     have hr:=q_ (show R_=none by
      rw[hR]
      by_cases h1:c<128
      ·rw[zk1 (by omega) hlt (by omega),hc,if_neg (λ x=>by omega)]
       unfold finB
       simp only
       rw[if_neg (λ x=>by
        have h2:=Nat.mul_le_mul_left (128 ^ 9) (show 2<=c by omega)
        have h3:128 ^ 9*2=18446744073709551616:=by decide
        omega)]
      ·rw[zk0 (by omega) hlt (by omega),if_pos rfl]
       rfl)
     clear hR hacc2 hc
     go_wp2_with (go_at_call 182;refine hC.o.mono ?_;rintro e w1 ⟨rfl,h1,hf1⟩;have he1:=hE.o w1 (hD.o.2.trans hf1 u_);unfold jz_ at he1;replace h1:=q_ h1;replace hf1:=q_ hf1)
     go_quiet (fail)
     go_wp2_with fail
     try go_ret
     rw[Q_.o,hr.o];exact⟨(hD.o.2.trans hf1.o u_).still (ze_.drewN _ _),rfl,_,hlt,h1.o.still (ze_.drewN _ _)⟩
    ·obtain⟨X,hXe,hXl,hX,hY,hO⟩:=zzi h9 hbig hacc2
     have hYn:(((X:Int) / 2 ^ (7*k)) != (c:Int) % 128)=false:=by rw[hY];simp
     have hk7:7*k<=63:=by omega
     replace hXe:=q_ hXe;replace hY:=q_ hY
     by_cases hc1:c<128
     ·have hc1':¬ (c:Int)≥128:=by omega
      have hm:c % 128=c:=Nat.mod_eq_of_lt hc1
      have hRc:R_=finB lo up (if c=0/\0<k then none else some (acc+X,i+k+1)):=by
       rw[hR,zk1 h9 hlt (by omega),hc,hXe.o,hm,bo_ c]
      obtain⟨u,hu⟩:∃ u,unfI (acc+X)=u:=⟨_,rfl⟩;have hU:=λ (w:World)=>zhc (w:=w) hXl;rw[hu] at hU;replace hU:=q_ hU;replace hu:=q_ hu;obtain⟨Z,hZ⟩:∃ Z:Nat,Z=acc+X:=⟨_,rfl⟩;rw[<- hZ] at hO hU hXl hRc;rw[<- hZ] at hu;replace hZ:=q_ hZ
      by_cases hok:(lo<=u/\u<=up)/\¬ (c=0/\0<k)
      ·have hr:=q_ (show R_=some (u,i+k+1) by rw[hRc,if_neg hok.2];unfold finB;simp only;rw[hu.o,if_pos ⟨hXl,hok.1⟩]);obtain⟨⟨hl1,hl2⟩,hz⟩:=hok;have hl1':u≥lo:=hl1;clear hR hRc hacc2 hc hbig hm
       by_cases hc0:c=0
       ·have hc0':¬ (c:Int) > 0:=by omega
        have hk0:(7*(k:Int)==0)=true:=by simp;omega
        replace hz:=q_ hz;replace hc0:=q_ hc0
        go_wp2_with (first
         |(go_at_call 182;refine hC.o.mono ?_;rintro e w1 ⟨rfl,h1,hf1⟩;have he1:=hE.o w1 (hD.o.2.trans hf1 u_);unfold jz_ at he1;replace h1:=q_ h1;replace hf1:=q_ hf1)
         |(go_at_call 237;refine(hU.o _).mono ?_;rintro e w2 ⟨rfl,hw2⟩;replace hw2:=hw2.symm;subst hw2))
        try go_ret
        rw[Q_.o,hr.o];exact⟨hD.o.2.trans hf1.o u_,rfl,hlt,h1.o⟩
       ·have hc0':(c:Int) > 0:=by omega
        replace hz:=q_ hz;replace hc0:=q_ hc0
        go_wp2_with (first
         |(go_at_call 182;refine hC.o.mono ?_;rintro e w1 ⟨rfl,h1,hf1⟩;have he1:=hE.o w1 (hD.o.2.trans hf1 u_);unfold jz_ at he1;replace h1:=q_ h1;replace hf1:=q_ hf1)
         |(go_at_call 237;refine(hU.o _).mono ?_;rintro e w2 ⟨rfl,hw2⟩;replace hw2:=hw2.symm;subst hw2))
        try go_ret
        rw[Q_.o,hr.o];exact⟨hD.o.2.trans hf1.o u_,rfl,hlt,h1.o⟩
      ·have hr:=q_ (show R_=none by
        rw[hRc]
        by_cases hz:c=0/\0<k
        ·rw[if_pos hz]
         rfl
        ·rw[if_neg hz]
         unfold finB
         simp only
         rw[hu.o,if_neg (λ x=>hok ⟨x.2,hz⟩)])
       clear hR hRc hacc2 hc hbig hm
       by_cases hl1:lo<=u
       ·have hl1':u≥lo:=hl1
        by_cases hl2:u<=up
        ·have hz:c=0/\0<k:=Classical.not_not.1 (λ x=>hok ⟨⟨hl1,hl2⟩,x⟩)
         have hc0':¬ (c:Int) > 0:=by omega
         have hk0:(7*(k:Int)==0)=false:=by simp;omega
         have hkp:0<k:=hz.2;replace hz:=q_ hz;clear hok
         go_wp2_with (first
          |(go_at_call 182;refine hC.o.mono ?_;rintro e w1 ⟨rfl,h1,hf1⟩;have he1:=hE.o w1 (hD.o.2.trans hf1 u_);unfold jz_ at he1;replace h1:=q_ h1;replace hf1:=q_ hf1)
          |(go_at_call 237;refine(hU.o _).mono ?_;rintro e w2 ⟨rfl,hw2⟩;replace hw2:=hw2.symm;subst hw2))
         all_goals first
          |(exfalso;omega)
          |(go_quiet (fail)
            go_wp2_with fail
            try go_ret
            rw[Q_.o,hr.o]
            exact⟨(hD.o.2.trans hf1.o u_).still (ze_.drewN _ _),rfl,_,hlt,h1.o.still (ze_.drewN _ _)⟩)
        ·clear hok
         go_wp2_with (first
          |(go_at_call 182;refine hC.o.mono ?_;rintro e w1 ⟨rfl,h1,hf1⟩;have he1:=hE.o w1 (hD.o.2.trans hf1 u_);unfold jz_ at he1;replace h1:=q_ h1;replace hf1:=q_ hf1)
          |(go_at_call 237;refine(hU.o _).mono ?_;rintro e w2 ⟨rfl,hw2⟩;replace hw2:=hw2.symm;subst hw2))
         go_quiet (fail)
         go_wp2_with fail
         try go_ret
         rw[Q_.o,hr.o];exact⟨(hD.o.2.trans hf1.o u_).still (ze_.drewN _ _),rfl,_,hlt,h1.o.still (ze_.drewN _ _)⟩
       ·have hl1':¬ u≥lo:=hl1;clear hok
        go_wp2_with (first
         |(go_at_call 182;refine hC.o.mono ?_;rintro e w1 ⟨rfl,h1,hf1⟩;have he1:=hE.o w1 (hD.o.2.trans hf1 u_);unfold jz_ at he1;replace h1:=q_ h1;replace hf1:=q_ hf1)
         |(go_at_call 237;refine(hU.o _).mono ?_;rintro e w2 ⟨rfl,hw2⟩;replace hw2:=hw2.symm;subst hw2))
        go_quiet (fail)
        go_wp2_with fail
        try go_ret
        rw[Q_.o,hr.o];exact⟨(hD.o.2.trans hf1.o u_).still (ze_.drewN _ _),rfl,_,hlt,h1.o.still (ze_.drewN _ _)⟩
     ·have hc1':(c:Int)≥128:=by omega
      have hnext:=q_ (show k+1<=9/\acc+X<128 ^ (k+1)/\R_=finB lo up (lebC s i (k+1) (acc+X))\/10<=k+1/\R_=none by
       rw[hR,zk0 h9 hlt (by omega),hc]
       by_cases hk9:k=9
       ·right
        rw[if_pos hk9]
        exact⟨by omega,rfl⟩
       ·left
        have h3:128 ^ (k+1)=128 ^ k*128:=Nat.pow_succ 128 k
        have h2:c % 128*128 ^ k<=127*128 ^ k:=b1_ _ (by omega)
        rw[if_neg hk9,hXe.o,show c-128=c % 128 by omega,bo_ (128 ^ k)]
        exact⟨by omega,by omega,rfl⟩)
      clear hR hacc2 hc hbig
      go_wp2_with (go_at_call 182;refine hC.o.mono ?_;rintro e w1 ⟨rfl,h1,hf1⟩;have he1:=hE.o w1 (hD.o.2.trans hf1 u_);unfold jz_ at he1;replace h1:=q_ h1;replace hf1:=q_ hf1)
      go_roundg (s.size+1-(i+(k+1)))
      case measure=>omega
      case rel=>
       refine⟨k+1,acc+X,rfl,?_,by omega,l_,hXl,q_ ⟨h1.o,hD.o.2.trans hf1.o u_⟩,hnext.o⟩
       congr 1
   ·have g1:=zxt (x:=(c:Int) % 128) h10;have g2:=zxs (k:=k)
    have hk4:k<=4000:=by omega
    by_cases hl0:c % 128=0
    ·have g3:((0:Int) != (c:Int) % 128)=false:=by simp;omega
     have hO:bits .or .u64 (acc:Int) 0=(acc:Int):=by have:=u64_or_nat acc 0 hacc (by decide);simpa using this
     by_cases hc1:c<128
     ·have hc1':¬ (c:Int)≥128:=by omega
      have hc0':¬ (c:Int) > 0:=by omega
      have hk0:(7*(k:Int)==0)=false:=by simp;omega
      obtain⟨u,hu⟩:∃ u,unfI acc=u:=⟨_,rfl⟩;have hU:=λ (w:World)=>zhc (w:=w) hacc;rw[hu] at hU;replace hU:=q_ hU;have hr:=q_ hR;clear hu hR hc hl0
      by_cases hl1:u≥lo
      ·by_cases hl2:u<=up
       all_goals
        go_wp2_with (first
         |(go_at_call 182;refine hC.o.mono ?_;rintro e w1 ⟨rfl,h1,hf1⟩;have he1:=hE.o w1 (hD.o.2.trans hf1 u_);unfold jz_ at he1;replace h1:=q_ h1;replace hf1:=q_ hf1)
         |(go_at_call 237;refine(hU.o _).mono ?_;rintro e w2 ⟨rfl,hw2⟩;replace hw2:=hw2.symm;subst hw2))
        all_goals first
         |(exfalso;omega)
         |(go_quiet (fail)
           go_wp2_with fail
           try go_ret
           rw[Q_.o,hr.o]
           exact⟨(hD.o.2.trans hf1.o u_).still (ze_.drewN _ _),rfl,_,hlt,h1.o.still (ze_.drewN _ _)⟩)
      ·go_wp2_with (first
        |(go_at_call 182;refine hC.o.mono ?_;rintro e w1 ⟨rfl,h1,hf1⟩;have he1:=hE.o w1 (hD.o.2.trans hf1 u_);unfold jz_ at he1;replace h1:=q_ h1;replace hf1:=q_ hf1)
        |(go_at_call 237;refine(hU.o _).mono ?_;rintro e w2 ⟨rfl,hw2⟩;replace hw2:=hw2.symm;subst hw2))
       all_goals first
        |(exfalso;omega)
        |(go_quiet (fail)
          go_wp2_with fail
          try go_ret
          rw[Q_.o,hr.o]
          exact⟨(hD.o.2.trans hf1.o u_).still (ze_.drewN _ _),rfl,_,hlt,h1.o.still (ze_.drewN _ _)⟩)
     ·have hc1':(c:Int)≥128:=by omega
      have hr:=q_ hR;clear hR hc hl0
      go_wp2_with (go_at_call 182;refine hC.o.mono ?_;rintro e w1 ⟨rfl,h1,hf1⟩;have he1:=hE.o w1 (hD.o.2.trans hf1 u_);unfold jz_ at he1;replace h1:=q_ h1;replace hf1:=q_ hf1)
      go_roundg (s.size+1-(i+(k+1)))
      case measure=>omega
      case rel=>
       refine⟨k+1,acc,rfl,?_,by omega,l_,hacc,q_ ⟨h1.o,hD.o.2.trans hf1.o u_⟩,.inr ⟨by omega,hr.o⟩⟩
       congr 1
    ·have g3:((0:Int) != (c:Int) % 128)=true:=by simp;omega
     have hr:=q_ hR;clear hR hc hl0
     go_wp2_with (go_at_call 182;refine hC.o.mono ?_;rintro e w1 ⟨rfl,h1,hf1⟩;have he1:=hE.o w1 (hD.o.2.trans hf1 u_);unfold jz_ at he1;replace h1:=q_ h1;replace hf1:=q_ hf1)
     go_quiet (fail)
     go_wp2_with fail
     try go_ret
     rw[Q_.o,hr.o];exact⟨(hD.o.2.trans hf1.o u_).still (ze_.drewN _ _),rfl,_,hlt,h1.o.still (ze_.drewN _ _)⟩
open Go.RowKit
section
variable {w:World} {br:Nat} {sv rv:Value} {s:BA} {i n:Nat} {dt:TypeId} {dx:Value}
theorem zdj (h:RwAt w br sv rv s i n) (hs:s.size<=4000) (hi:i<=s.size) (hE:∀ W,Fr w W (· = br)->jz_ W dt dx) :
 Calls prog 185 #[.pointer (some ⟨br,0,none⟩)] w (WNum w br sv rv s n dt dx (zdg s i)):=by
 refine hq_ λ POST Q_=>?_;have hC:=zb8 (lo:=0) (up:=9223372036854775807) h hs hi hE;clear h hE
 cases hb:bNum s 0 9223372036854775807 i with
 | none=>
  rw[hb] at hC;have hr:=q_ (show zdg s i=none from hb);replace hC:=q_ hC
  go_in
  go_wp2_with (go_at_call 183;refine hC.o.mono ?_;rintro e w1 ⟨hf1,rfl,hm⟩;replace hf1:=q_ hf1;replace hm:=q_ hm)
  try go_ret
  rw[Q_.o,hr.o];exact⟨hf1.o,rfl,hm.o⟩
 | some q=>
  obtain⟨v,j⟩:=q;rw[hb] at hC;have hr:=q_ (show zdg s i=some (v,j) from hb);replace hC:=q_ hC
  go_in
  go_wp2_with (go_at_call 183;refine hC.o.mono ?_;rintro e w1 ⟨hf1,rfl,hm⟩;replace hf1:=q_ hf1;replace hm:=q_ hm)
  try go_ret
  rw[Q_.o,hr.o];exact⟨hf1.o,rfl,hm.o⟩
theorem zfk {m:Nat}(hm3:m<=4000) (h:RwAt w br sv rv s i n) (hs:s.size<=4000) (hi:i<=s.size) (hE:∀ W,Fr w W (· = br)->jz_ W dt dx) :
 Calls prog 188 #[.pointer (some ⟨br,0,none⟩),.int .i64 (m:Int)] w (WNum w br sv rv s n dt dx (bNum s 0 ((m:Int)-1) i)):=by
 refine hq_ λ POST Q_=>?_;have hC:=zb8 (lo:=0) (up:=(m:Int)-1) h hs hi hE;clear h hE
 cases hb:bNum s 0 ((m:Int)-1) i with
 | none=>
  rw[hb] at hC;have hr:=q_ hb;replace hC:=q_ hC;clear hb
  go_in
  go_wp2_with (go_at_call 183;refine hC.o.mono ?_;rintro e w1 ⟨hf1,rfl,hm⟩;replace hf1:=q_ hf1;replace hm:=q_ hm)
  try go_ret
  rw[Q_.o,hr.o];exact⟨hf1.o,rfl,hm.o⟩
 | some q=>
  obtain⟨v,j⟩:=q;have hg:=y7_ hb;rw[hb] at hC;have hr:=q_ hb;replace hC:=q_ hC;clear hb
  go_in
  go_wp2_with (go_at_call 183;refine hC.o.mono ?_;rintro e w1 ⟨hf1,rfl,hm⟩;replace hf1:=q_ hf1;replace hm:=q_ hm)
  try go_ret
  rw[Q_.o,hr.o];exact⟨hf1.o,rfl,hm.o⟩
def WTxt (w:World) (br:Nat) (sv rv:Value) (s:BA) (n:Nat) (dt:TypeId) (dx:Value) (r:Option (BA×Nat)) (e:Ending) (w':World):Prop:=
 Fr w w' (· = br)/\match r with
 | some (tx,j)=>e=.returned (.tuple #[.string tx,.nilIface])/\j<=s.size/\RwAt w' br sv rv s j n
 | none=>e=.returned (.tuple #[.string noB,.iface dt dx])/\∃ j,j<=s.size/\RwAt w' br sv rv s j n
end
theorem zle {s:BA}{i m:Nat}(hm:i+m<=s.size) (hk:k<m):((s.extract i (i+m)).data.toList.getD k 0).toNat=bt s (i+k):=by
 have hz:i+k<s.data.toList.length:=by rw[Array.length_toList];show i+k<s.size;omega
 rw[zbh s (i+k) (by omega)]
 simp[List.getD,ByteArray.data_extract]
 rw[List.getElem?_take_of_lt hk,List.getElem?_drop,am_ hz]
 rfl
def z1c (w:World) (br:Nat) (sv rv:Value) (s:BA) (i n m:Nat) (bb:Nat) (q:Nat) (v48:Value) (W:World):Prop:=
 ∃ k:Nat,v48=.int .i64 (k:Int)/\k<=m/\m+1-k<=q/\i+k<=zp_ s i/\H_ (RwAt W br sv rv s (i+m) n/\Fr w W (· = br))/\H_ (∀ q,q<m->W.cell? ⟨bb,q,none⟩=some (.int .u8 (bt s (i+q):Int)))
theorem zd6 {w:World}{br:Nat}{sv rv:Value}{s:BA}{i n:Nat}{dt:TypeId}{dx:Value}{m:Nat}(h:RwAt w br sv rv s i n) (hs:s.size<=4000) (hi:i<=s.size) (hm:m<=9223372036854775807) (hE:∀ W,Fr w W (· = br)->jz_ W dt dx) :
 Calls prog 191 #[.pointer (some ⟨br,0,none⟩),.int .i64 (m:Int)] w (WTxt w br sv rv s n dt dx (j7_ s i m)):=by
 refine hq_ λ POST Q_=>?_;have c2:=h.c2;have c3:=h.c3;have f3:=h.thaw 3;have he:=hE w (Fr.refl _ _);unfold jz_ at he;have hle:=zhk hi
 by_cases hbig:s.size<i+m
 ·have hr:=q_ (show j7_ s i m=none by unfold j7_;rw[if_neg (by omega)])
  have hb':(m:Int) > (s.size:Int)-(i:Int):=by omega
  replace h:=q_ h;replace hE:=q_ hE
  go_in
  go_wp2_with fail
  go_quiet (fail)
  go_wp2_with fail
  go_quiet (fail)
  go_wp2_with fail
  try go_ret
  rw[Q_.o,hr.o];exact⟨(Fr.refl w (· = br)).still ((ze_.drewN _ _).trans (ze_.drewN _ _)),rfl,i,hi,h.o.still ((ze_.drewN _ _).trans (ze_.drewN _ _))⟩
 ·have hb':¬ (m:Int) > (s.size:Int)-(i:Int):=by omega
  have hm4:m<=4000:=by omega
  have hij:(i:Int)<=(i:Int)+(m:Int):=by omega
  have hjs:(i:Int)+(m:Int)<=(s.size:Int):=by omega
  obtain⟨tx,htx⟩:∃ tx,s.extract i (i+m)=tx:=⟨_,rfl⟩
  have htz:tx.size=m:=by rw[<- htx,as_];omega
  have hby:=q_ (show ∀ q,q<m->(tx.data.toList.getD q 0).toNat=bt s (i+q) from λ q hq=>by rw[<- htx];exact zle (by omega) hq);have hv:=λ (W:World)=>Lib.run_convert_string_bytes (P:=prog) W 9 111 5 tx ze3 zfl underlying5
  have hst:=q_ (show ∀ k1 k2,RwAt (Lib.bytesWorld (((w.drewN k1).setCell ⟨br,3,none⟩ (.int .i64 ((i:Int)+(m:Int)))).drewN k2) 5 tx) br sv rv s (i+m) n/\Fr w (Lib.bytesWorld (((w.drewN k1).setCell ⟨br,3,none⟩ (.int .i64 ((i:Int)+(m:Int)))).drewN k2) 5 tx) (· = br)/\∀ q,q<m->(Lib.bytesWorld (((w.drewN k1).setCell ⟨br,3,none⟩ (.int .i64 ((i:Int)+(m:Int)))).drewN k2) 5 tx).cell? ⟨w.heap.size,q,none⟩=some (.int .u8 (bt s (i+q):Int)) from λ k1 k2=>by
   have e1:(((w.drewN k1).setCell ⟨br,3,none⟩ (.int .i64 ((i:Int)+(m:Int)))).drewN k2).heap.size=w.heap.size:=by simp[World.setCell,World.drewN]
   have h1:RwAt (((w.drewN k1).setCell ⟨br,3,none⟩ (.int .i64 ((i:Int)+(m:Int)))).drewN k2) br sv rv s (i+m) n:=by
    exact((h.still (ze_.drewN w k1)).move m).still (ze_.drewN _ k2)
   have h2:Fr w (((w.drewN k1).setCell ⟨br,3,none⟩ (.int .i64 ((i:Int)+(m:Int)))).drewN k2) (· = br):=(((Fr.refl w (· = br)).still (ze_.drewN _ _)).setCell _ _ (λ _=>rfl)).still (ze_.drewN _ _)
   generalize ((w.drewN k1).setCell ⟨br,3,none⟩ (.int .i64 ((i:Int)+(m:Int)))).drewN k2=V at *
   have h3:Fr V (Lib.bytesWorld V 5 tx) (λ _=>False):=⟨rfl,rfl,rfl,by rw[Lib.bytesWorld_size];omega,λ k hk _=>Lib.bytesWorld_at_old V _ tx k hk⟩
   refine⟨h3.blk h1 id,h2.trans h3 v_,λ q hq=>?_⟩
   rw[<- e1,Lib.bytesWorld_cell V _ tx q (by omega),hby.o q hq])
  replace h:=q_ h;replace hE:=q_ hE;clear he
  go_in
  go_wp2_with fail
  go_quiet (fail)
  go_wp2_with fail
  go_quiet (fail)
  go_wp2_with fail
  go_loopg [9,48] (m+1) (λ q v9 v48 W=>z1c w br sv rv s i n m w.heap.size q v48 W)
  case atStart=>exact⟨0,rfl,by omega,by omega,vo_ s i,q_ ⟨(hst.o _ _).1,(hst.o _ _).2.1⟩,q_ (hst.o _ _).2.2⟩
  case round=>
   clear hst hby hv;obtain⟨k,rfl,hkm,hq,hke,hD,hcl⟩:=hrel;have htx':=q_ htx;have htz':=q_ htz;clear htx htz c2 c3 f3
   by_cases hend:k=m
   ·subst hend
    have hlt':¬ (k:Int)<(k:Int):=by omega
    have hr:=q_ (show j7_ s i k=some (tx,i+k) by unfold j7_;rw[if_pos hke,htx'.o])
    go_wp2_with fail
    try go_ret
    rw[Q_.o,hr.o];exact⟨hD.o.2,by rw[htx'.o],by omega,hD.o.1⟩
   ·have hlt:k<m:=by omega
    have hlt':(k:Int)<(m:Int):=by omega
    have hc:=hcl.o k hlt;obtain⟨c,hcc⟩:∃ c,bt s (i+k)=c:=⟨_,rfl⟩;rw[hcc] at hc
    by_cases hin:97<=c/\c<=122
    ·have n1:¬ (c:Int)<97:=by omega
     have n2:¬ (c:Int) > 122:=by omega
     have hke':i+(k+1)<=zp_ s i:=by
      rw[<- zf8 hke];unfold zp_;rw[zfq (by omega) (by rw[hcc];exact hin)];exact vo_ s (i+k+1)
     replace hcc:=q_ hcc
     go_wp2_with fail
     go_roundg (m+1-(k+1))
     case measure=>omega
     case rel=>exact⟨k+1,by simp,by omega,l_,hke',hD,hcl⟩
    ·have hr:=q_ (show j7_ s i m=none by
      unfold j7_
      rw[if_neg (λ x=>by
       have e1:=zf8 hke
       unfold zp_ at e1 x
       rw[vf_ (by rw[hcc];exact hin)] at e1
       omega)])
     have he1:=hE.o _ hD.o.2;unfold jz_ at he1;replace hcc:=q_ hcc
     by_cases n1:(c:Int)<97
     all_goals (try have n2:(c:Int) > 122:=by omega)
     all_goals
      go_wp2_with fail
      go_quiet (fail)
      go_wp2_with fail
      try go_ret
      rw[Q_.o,hr.o];exact⟨hD.o.2.still (ze_.drewN _ _),rfl,_,by omega,hD.o.1.still (ze_.drewN _ _)⟩
theorem zg9 {w:World}{br:Nat}{sv rv:Value}{s:BA}{i n:Nat}{dt:TypeId}{dx:Value}(h:RwAt w br sv rv s i n) (hs:s.size<=4000) (hi:i<=s.size) (hE:∀ W,Fr w W (· = br)->jz_ W dt dx) :
 Calls prog 184 #[.pointer (some ⟨br,0,none⟩)] w (WTxt w br sv rv s n dt dx (vu_ s i)):=by
 refine hq_ λ POST Q_=>?_;have hC:=zdj h hs hi hE;replace hE:=q_ hE;clear h
 cases hb:zdg s i with
 | none=>
  rw[hb] at hC;have hr:=q_ (show vu_ s i=none by unfold vu_;rw[hb]);replace hC:=q_ hC;clear hb
  go_in
  go_wp2_with (go_at_call 185;refine hC.o.mono ?_;rintro e w1 ⟨hf1,rfl,hm⟩;replace hf1:=q_ hf1;replace hm:=q_ hm)
  try go_ret
  rw[Q_.o,hr.o];exact⟨hf1.o,rfl,hm.o⟩
 | some q=>
  obtain⟨v,j⟩:=q;have hg:=y7_ hb;obtain⟨m,rfl⟩:∃ m:Nat,v=(m:Int):=⟨v.toNat,by omega⟩;rw[hb] at hC
  have hr:vu_ s i=j7_ s j m:=by unfold vu_;rw[hb];simp only[bc_]
  have hT:=λ (W:World) (h:RwAt W br sv rv s j n) (hf:Fr w W (· = br))=>zd6 (m:=m) (dt:=dt) (dx:=dx) h hs hg.2.1 (by omega) (λ V hV=>hE.o V (hf.trans hV u_));replace hC:=q_ hC;clear hb
  cases ht:j7_ s j m with
  | none=>
   rw[ht] at hT hr;replace hT:=q_ hT;replace hr:=q_ hr;clear ht
   go_in
   go_wp2_with (first
    |(go_at_call 185;refine hC.o.mono ?_;rintro e w1 ⟨hf1,rfl,hj1,h1⟩;replace hf1:=q_ hf1;replace h1:=q_ h1)
    |(go_at_call 191;refine(hT.o _ h1.o hf1.o).mono ?_;rintro e w2 ⟨hf2,rfl,hm⟩;replace hf2:=q_ hf2;replace hm:=q_ hm))
   try go_ret
   rw[Q_.o,hr.o];exact⟨hf1.o.trans hf2.o u_,rfl,hm.o⟩
  | some q=>
   obtain⟨tx,j2⟩:=q;rw[ht] at hT hr;replace hT:=q_ hT;replace hr:=q_ hr;clear ht
   go_in
   go_wp2_with (first
    |(go_at_call 185;refine hC.o.mono ?_;rintro e w1 ⟨hf1,rfl,hj1,h1⟩;replace hf1:=q_ hf1;replace h1:=q_ h1)
    |(go_at_call 191;refine(hT.o _ h1.o hf1.o).mono ?_;rintro e w2 ⟨hf2,rfl,hm⟩;replace hf2:=q_ hf2;replace hm:=q_ hm))
   try go_ret
   rw[Q_.o,hr.o];exact⟨hf1.o.trans hf2.o u_,rfl,hm.o⟩
open Go.RowKit
structure WErr where
 dt:TypeId
 dx:Value
 bt:TypeId
 bx:Value
def WErr.t (E:WErr) (e:Nat):TypeId:=if e=7 then E.bt else E.dt
def WErr.x (E:WErr) (e:Nat):Value:=if e=7 then E.bx else E.dx
structure YC (w0:World) (P:Nat->Prop) (ss:BA) (ds:List PD) (sv rv:Value) (xs:List Value) (s:BA) (E:WErr) (br i n:Nat) (W:World):Prop where
 R:RwAt W br sv rv s i n
 D:DRow W P ss ds sv xs
 G:y1_ w0 W
 E1:ErrV 4 w0 E.dt E.dx
 E2:ErrV 5 w0 E.bt E.bx
 Pbr:∀ g,P g->g<br
 brG:w0.heap.size<=br
 hs:s.size<=4000
 il:i<=s.size
section
variable {w0 W W':World} {P:Nat->Prop} {ss:BA} {ds:List PD} {sv rv:Value} {xs:List Value} {s:BA} {E:WErr} {br i n i' n':Nat}
theorem YC.brP (M:YC w0 P ss ds sv rv xs s E br i n W):¬ P br:=λ h=>by_ _ (M.Pbr br h)
theorem YC.lt (M:YC w0 P ss ds sv rv xs s E br i n W):br<W.heap.size:=Blk.lt M.R
theorem YC.call (M:YC w0 P ss ds sv rv xs s E br i n W) (h:RwAt W' br sv rv s i' n') (hf:Fr W W' (· = br)) (hi:i'<=s.size):YC w0 P ss ds sv rv xs s E br i' n' W':=by
 have h1:=M.lt;have h2:=M.brG;exact⟨h,M.D.fr hf (λ g hg e=>M.brP (e▸hg)),M.G.fr hf (by omega) (λ g e=>e▸M.brG),M.E1,M.E2,M.Pbr,M.brG,M.hs,hi⟩
theorem YC.new (M:YC w0 P ss ds sv rv xs s E br i n W) (hf:Fr W W' (λ _=>False)):YC w0 P ss ds sv rv xs s E br i n W':=M.call (hf.blk M.R id) (hf.mono v_) M.il
theorem YC.still (M:YC w0 P ss ds sv rv xs s E br i n W) (hf:ze_ W W'):YC w0 P ss ds sv rv xs s E br i n W':=M.new ((Fr.refl W _).still hf)
theorem YC.err (M:YC w0 P ss ds sv rv xs s E br i n W):∀ V,Fr W V (· = br)->jz_ V E.dt E.dx:=λ V hV=>by
 have h1:=M.lt;have h2:=M.brG;exact(M.G.fr hV (by omega) (λ g e=>e▸M.brG)).err M.E1
theorem YC.big (M:YC w0 P ss ds sv rv xs s E br i n W):W.cell? ⟨5,0,none⟩=some (.iface E.bt E.bx):=M.G.err M.E2
end
def yx_ (env:Nat->Option PB) (t:PT) (w:World) (sv rv:Value) (s:BA) (E:WErr) (br:Nat) (res:Except Nat (DT×Nat×Nat)) (e:Ending) (w':World):Prop:=
 ∃ v ev,e=.returned (.tuple #[v,ev])/\Fr w w' (· = br)/\
 match res with
 | .ok (d,j,m)=>ev=.nilIface/\DaV env w' (λ g=>w.heap.size<=g) d t v/\RwAt w' br sv rv s j m/\j<=s.size
 | .error e0=>v=.nilIface/\ErrD w' w.heap.size (E.t e0) (E.x e0) ev/\∃ j m,RwAt w' br sv rv s j m/\j<=s.size
section
variable {env:Nat->Option PB} {t:PT} {w w1 w' W:World} {sv rv:Value} {s:BA} {E:WErr} {br j m:Nat} {d:DT} {v:Value} {res:Except Nat (DT×Nat×Nat)} {e:Ending}
theorem yok (h:DaV env w' (λ g=>w.heap.size<=g) d t v) (hf:Fr w w' (· = br)) (hR:RwAt w' br sv rv s j m) (hj:j<=s.size):yx_ env t w sv rv s E br (.ok (d,j,m)) (.returned (.tuple #[v,.nilIface])) w':=⟨v,_,rfl,hf,rfl,h,hR,hj⟩
theorem ybad (hf:Fr w w' (· = br)) (hR:∃ j m,RwAt w' br sv rv s j m/\j<=s.size):yx_ env t w sv rv s E br (.error 6) (.returned (.tuple #[.nilIface,.iface E.dt E.dx])) w':=⟨_,_,rfl,hf,rfl,.base,hR⟩
theorem yx_.pre (hf:Fr w w1 (λ _=>False)) (h:yx_ env t w1 sv rv s E br res e w'):yx_ env t w sv rv s E br res e w':=by
 obtain⟨v,ev,he,hf2,hm⟩:=h;have hz:=hf.size;refine⟨v,ev,he,(hf.mono v_).trans hf2 u_,?_⟩
 cases res with
 | error e0=>exact⟨hm.1,hm.2.1.less hz,hm.2.2⟩
 | ok q=>
  obtain⟨d,j,m⟩:=q;exact⟨hm.1,hm.2.1.mono (λ g _ hg=>by omega),hm.2.2⟩
end
def DatY (w0:World) (P:Nat->Prop) (ss:BA) (ds:List PD) (sv rv:Value) (xs:List Value) (s:BA) (E:WErr) (br f:Nat) (t:PT) (i n:Nat):Prop:=
 ∀ (w:World) (v:Value),YC w0 P ss ds sv rv xs s E br i n w->n<=300->TyV w P t v->
  Calls prog 62 #[.pointer (some ⟨br,0,none⟩),v] w (yx_ (za_ ds) t w sv rv s E br (rdB s (za_ ds) f t i n))
section
variable {w0 w:World} {P:Nat->Prop} {ss:BA} {ds:List PD} {sv rv:Value} {xs:List Value} {s:BA} {E:WErr} {br i n:Nat} {env:Nat->Option PB} {t:PT}
theorem zpb (M:YC w0 P ss ds sv rv xs s E br i n w) :
 Calls prog 133 #[.pointer (some ⟨br,0,none⟩)] w (yx_ env t w sv rv s E br (if i<s.size/\bt s i<=1 then .ok (.mk 116 (bt s i:Int) noB [] [],i+1,n) else .error 6)):=by
 refine hq_ λ POST Q_=>?_;have hil:=M.il;have hsl:=M.hs
 by_cases hl:i=s.size
 ·have hC:=q_ (zn5 M.R hl (M.err w (Fr.refl _ _)));rw[if_neg (by omega)] at Q_;clear M hl
  go_in
  go_wp2_with (go_at_call 182;refine hC.o.mono ?_;rintro e w1 ⟨rfl,h1,hf1⟩;replace h1:=q_ h1;replace hf1:=q_ hf1)
  try go_ret
  rw[Q_.o];exact ybad hf1.o ⟨i,n,h1.o,hil⟩
 ·have hlt:i<s.size:=by omega
  have hC:=zjm M.R hsl hlt;obtain⟨c,hc⟩:∃ c,bt s i=c:=⟨_,rfl⟩;rw[hc] at hC Q_;have hE:=q_ M.err;replace hC:=q_ hC;clear M hc
  by_cases hc1:c<=1
  ·have hc1':¬ (c:Int) > 1:=by omega
   rw[if_pos ⟨hlt,hc1⟩] at Q_
   have hc2:c=0\/c=1:=by omega
   rcases hc2 with rfl|rfl
   all_goals
    go_in
    go_wp2_with (go_at_call 182;refine hC.o.mono ?_;rintro e w1 ⟨rfl,h1,hf1⟩;replace h1:=q_ h1;replace hf1:=q_ hf1)
    try go_ret
    rw[Q_.o]
   ·exact yok (DaV.plain (.truth false) (by decide)) hf1.o h1.o hlt
   ·exact yok (DaV.plain (.truth true) (by decide)) hf1.o h1.o hlt
  ·have hc1':(c:Int) > 1:=by omega
   rw[if_neg (λ x=>hc1 x.2)] at Q_
   go_in
   go_wp2_with (go_at_call 182;refine hC.o.mono ?_;rintro e w1 ⟨rfl,h1,hf1⟩;have he1:=hE.o w1 hf1;unfold jz_ at he1;replace h1:=q_ h1;replace hf1:=q_ hf1)
   go_quiet (fail)
   go_wp2_with fail
   try go_ret
   rw[Q_.o];exact ybad (hf1.o.still (ze_.drewN _ _)) ⟨_,n,h1.o.still (ze_.drewN _ _),hlt⟩
theorem zd5 {lo up:Int}(hc:c=105\/c=108) (M:YC w0 P ss ds sv rv xs s E br i n w) :
 Calls prog 134 #[.pointer (some ⟨br,0,none⟩),.int .i64 lo,.int .i64 up] w (yx_ env t w sv rv s E br (match bNum s lo up i with|none=>.error 6|some (q,j)=>.ok (.mk c q noB [] [],j,n))):=by
 refine hq_ λ POST Q_=>?_;have hC:=zb8 (lo:=lo) (up:=up) M.R M.hs M.il M.err;clear M
 cases hb:bNum s lo up i with
 | none=>
  rw[hb] at hC Q_;replace hC:=q_ hC;clear hb
  go_in
  go_wp2_with (go_at_call 183;refine hC.o.mono ?_;rintro e w1 ⟨hf1,rfl,j,hj,h1⟩;replace hf1:=q_ hf1;replace h1:=q_ h1)
  try go_ret
  rw[Q_.o];exact ybad hf1.o ⟨j,n,h1.o,hj⟩
 | some q=>
  obtain⟨v,j⟩:=q;have hg:=y7_ hb;rw[hb] at hC Q_;replace hC:=q_ hC;clear hb
  go_in
  go_wp2_with (go_at_call 183;refine hC.o.mono ?_;rintro e w1 ⟨hf1,rfl,hj,h1⟩;replace hf1:=q_ hf1;replace h1:=q_ h1)
  try go_ret
  rw[Q_.o];exact yok (DaV.plain (.num c v hc hg.2.2.2.2.1 hg.2.2.2.2.2) (by decide)) hf1.o h1.o hj
theorem zrd (M:YC w0 P ss ds sv rv xs s E br i n w) :
 Calls prog 135 #[.pointer (some ⟨br,0,none⟩)] w (yx_ env t w sv rv s E br (match vu_ s i with|none=>.error 6|some (tx,j)=>.ok (.mk 115 0 tx [] [],j,n))):=by
 refine hq_ λ POST Q_=>?_;have hC:=zg9 M.R M.hs M.il M.err;have hsl:=M.hs;clear M
 cases hb:vu_ s i with
 | none=>
  rw[hb] at hC Q_;replace hC:=q_ hC;clear hb
  go_in
  go_wp2_with (go_at_call 184;refine hC.o.mono ?_;rintro e w1 ⟨hf1,rfl,j,hj,h1⟩;replace hf1:=q_ hf1;replace h1:=q_ h1)
  try go_ret
  rw[Q_.o];exact ybad hf1.o ⟨j,n,h1.o,hj⟩
 | some q=>
  obtain⟨tx,j⟩:=q;have hg:=zat hb;rw[hb] at hC Q_;replace hC:=q_ hC;clear hb
  go_in
  go_wp2_with (go_at_call 184;refine hC.o.mono ?_;rintro e w1 ⟨hf1,rfl,hj,h1⟩;replace hf1:=q_ hf1;replace h1:=q_ h1)
  try go_ret
  rw[Q_.o];exact yok (DaV.plain (.text tx (by omega)) (by decide)) hf1.o h1.o hj
end
open Go.RowKit
structure YL (w0:World) (P:Nat->Prop) (ss:BA) (ds:List PD) (sv rv:Value) (xs:List Value) (s:BA) (E:WErr) (br j nn:Nat) (cx:List Value) (ct:TypeId) (t:PT) (w:World) (lv:Value) (l:List DT) (W:World):Prop where
 M:YC w0 P ss ds sv rv xs s E br j nn W
 fr:Fr w W (· = br)
 bx:Blk W w.heap.size cx ct
 bB:w.heap.size+1<=W.heap.size
 lt:br<w.heap.size
 row:RowT (za_ ds) W (w.heap.size+1) (λ g=>w.heap.size+1<=g/\lv.ownBlock≠some g) t lv l
section
variable {w0 w W W':World} {P:Nat->Prop} {ss:BA} {ds:List PD} {sv rv:Value} {xs:List Value} {s:BA} {E:WErr} {br i n j nn j' nn':Nat} {cx:List Value} {ct:TypeId} {t:PT} {lv:Value} {l:List DT}
theorem YL.call (Q:YL w0 P ss ds sv rv xs s E br j nn cx ct t w lv l W) (h:RwAt W' br sv rv s j' nn') (hf:Fr W W' (· = br)) (hj:j'<=s.size):YL w0 P ss ds sv rv xs s E br j' nn' cx ct t w lv l W':=by
 have h1:=Q.lt;have h2:=Q.bB;refine⟨Q.M.call h hf hj,Q.fr.trans hf u_,hf.blk Q.bx (by omega),ah_ h2 hf.size,h1,Q.row.fr hf (λ g hg=>by omega) (λ g hg=>?_)⟩;obtain⟨Y,a,_⟩:=Q.row;have:=a.lt g hg;omega
theorem YL.item (Q:YL w0 P ss ds sv rv xs s E br j nn cx ct t w lv l W){o:Obj}{w5:World}{v5 v:Value}{d:DT}{Y:Nat->Value}(hY:∀ i d,l[i]?=some d->DaV (za_ ds) W (λ g=>w.heap.size+1<=g/\lv.ownBlock≠some g) d (yb_ (za_ ds) t 0 i) (Y i)) (hd:DaV (za_ ds) W (λ g=>w.heap.size+1<=g/\lv.ownBlock≠some g) d (yb_ (za_ ds) t 0 l.length) v)
 (hg:(W.alloc o).grownBy w5 lv.ownBlock) (ho:w5.ownsRow (w.heap.size+1) 94 1 v5 (l.length+1) (((List.range l.length).flatMap λ i=>[Y i])++[v])) (hl:v5.ownBlock=lv.ownBlock\/v5.ownBlock=some (W.alloc o).heap.size):YL w0 P ss ds sv rv xs s E br j nn cx ct t w v5 (l++[d]) w5:=by
 have h1:=Q.lt;have h2:=Q.bB
 have h3:(W.alloc o).heap.size=W.heap.size+1:=by simp
 obtain⟨Y0,a,_⟩:=Q.row;have hF:Fr W w5 (λ g=>lv.ownBlock=some g):=((Fr.refl W _).alloc o).grown hg (λ k e _=>e);have hrow:∀ g,lv.ownBlock=some g->w.heap.size+1<=g:=λ g e=>(a.lt g e).1
 have hM:YC w0 P ss ds sv rv xs s E br j nn w5:=by
  have hb:=Q.M.brG;exact⟨hF.blk Q.M.R (λ e=>by have:=hrow _ e;omega),Q.M.D.fr hF (λ g hg e=>by have:=hrow _ e;have:=Q.M.Pbr g hg;omega),Q.M.G.fr hF (by omega) (λ g e=>by have:=hrow _ e;omega),Q.M.E1,Q.M.E2,Q.M.Pbr,Q.M.brG,Q.M.hs,Q.M.il⟩
 refine⟨hM,Q.fr.trans hF (λ x hx e=>absurd (hrow x e) (by omega)),hF.blk Q.bx (λ e=>by have:=hrow _ e;omega),ah_ h2 hF.size,h1,RowT.grow hY hd (hF.mono (λ g _ e=>.inl e)) (c:=br) (by omega) ?_ ho⟩
 rcases hl with e|e
 ·exact .inl e
 ·exact .inr ⟨_,e,by omega⟩
end
def z0q (R_:Except Nat (List (BA×DT)×Nat×Nat)) (R:Nat->Nat->Except Nat (DT×Nat×Nat)) (cnt n:Nat) (w0:World) (P:Nat->Prop) (ss:BA) (ds:List PD) (sv rv:Value) (xs:List Value) (s:BA) (E:WErr) (br:Nat) (cx:List Value) (ct:TypeId) (t:PT) (w:World) (q:Nat) (v8 v20:Value) (W:World):Prop:=
 ∃ (acc:List (BA×DT)) (j nn:Nat),v20=.int .i64 (acc.length:Int)/\acc.length<=cnt/\n+acc.length<=nn/\nn<=300/\302<=q+nn/\H_ (YL w0 P ss ds sv rv xs s E br j nn cx ct t w v8 (acc.map Prod.snd) W)/\R_=zei acc (xd_ R s false (cnt-acc.length) (zwf acc) j nn)
section
variable {w0 w:World} {P:Nat->Prop} {ss:BA} {ds:List PD} {sv rv:Value} {xs:List Value} {s:BA} {E:WErr} {br i n:Nat}
theorem zre {u:PT}{p f:Nat}{pt:Int}{vT:TypeId}{vx:Value}(hI:yi_ w0) (M:YC w0 P ss ds sv rv xs s E br i n w) (hn:n<=300) (hT:TyV w P u (.iface vT vx)) (hR:∀ j nn,n<=nn->nn<=300->j<=s.size->DatY w0 P ss ds sv rv xs s E br f u j nn) :
 Calls prog 136 #[.pointer (some ⟨br,0,none⟩),.agg #[.int .i64 pt,.iface vT vx]] w (yx_ (za_ ds) (.wrap 91 p u) w sv rv s E br (zdf (rdB s (za_ ds) f u) s 91 i n)):=by
 refine hq_ λ POST Q_=>?_;rw[zoz] at Q_;have hsl:=M.hs;have hbl:=M.lt;have A:Fr w (w.alloc (.cells #[.int .i64 pt,.iface vT vx] 252)) (λ _=>False):=(Fr.refl w _).alloc _;have M0:=M.new A;have B0:=Blk.new w #[.int .i64 pt,.iface vT vx] 252;have hC:=zdj M0.R M0.hs M0.il M0.err;have hnb:=M.brP;replace hT:=q_ hT;replace hR:=q_ hR
 cases hb:zdg s i with
 | none=>
  rw[hb] at hC Q_;replace hC:=q_ hC;replace A:=q_ A;clear M M0 B0 hb
  go_in
  go_wp2_with (go_at_call 185;refine hC.o.mono ?_;rintro e w1 ⟨hf1,rfl,j,hj,h1⟩;replace hf1:=q_ hf1;replace h1:=q_ h1)
  try go_ret
  rw[Q_.o];exact ybad ((A.o.mono v_).trans hf1.o u_) ⟨j,n,h1.o,hj⟩
 | some q=>
  obtain⟨v,j0⟩:=q;have hg:=y7_ hb;obtain⟨cnt,rfl⟩:∃ m:Nat,v=(m:Int):=⟨v.toNat,by omega⟩;rw[hb] at hC Q_;simp only[bc_] at Q_;obtain⟨R_,hRES⟩:∃ r,r=xd_ (rdB s (za_ ds) f u) s false cnt none j0 n:=⟨_,rfl⟩;rw[show((91:Nat)==123)=false from rfl,<- hRES] at Q_;have start:H_ (∀ w1,RwAt w1 br sv rv s j0 n->Fr (w.alloc (.cells #[.int .i64 pt,.iface vT vx] 252)) w1 (· = br)->z0q R_ (rdB s (za_ ds) f u) cnt n w0 P ss ds sv rv xs s E br [.int .i64 pt,.iface vT vx] 252 (.wrap 91 p u) w 302 (.slice none 0 0) (.int .i64 0) w1):=q_ (λ w1 h1 F1=>⟨[],j0,n,rfl,by simp,by simp,hn,by omega,q_ ⟨M0.call h1 F1 hg.2.1,(A.mono v_).trans F1 u_,F1.blk B0 (by omega),by have:=F1.size;simp at this;omega,hbl,RowT.nil _ _ _ _ _⟩,by rw[zh0,hRES];rfl⟩);replace hC:=q_ hC;replace hRES:=q_ hRES;have hcnt:(cnt:Int)<=9223372036854775807:=hg.2.2.2.1;clear M M0 B0 A hb
  go_in
  go_wp2_with (go_at_call 185;refine hC.o.mono ?_;rintro e w1 ⟨hf1,rfl,hj,h1⟩;have st1:=q_ (start.o w1 h1 hf1);clear hf1 h1)
  go_loopg [8,9,10,20] 302 (λ q v8 v9 v10 v20 W=>z0q R_ (rdB s (za_ ds) f u) cnt n w0 P ss ds sv rv xs s E br [.int .i64 pt,.iface vT vx] 252 (.wrap 91 p u) w q v8 v20 W)
  case atStart=>exact st1.o
  case round=>
   clear start st1 hC;obtain⟨acc,j,nn,rfl,hkc,hnn,hnn3,hq,hQ,hres⟩:=hrel;obtain⟨Y,hrow,hY⟩:=hQ.o.row;obtain⟨la,lc,rfl⟩:=zf_ hrow
   have hll:(acc.map Prod.snd).length=acc.length:=by simp
   rw[hll] at hrow hQ hY
   by_cases hend:acc.length=cnt
   ·have hlt:¬ (acc.length:Int)<(cnt:Int):=by omega
    have hr:=q_ (show R_=.ok (acc,j,nn) by rw[hres,show cnt-acc.length=0 by omega];simp[xd_,zei]);have hQr:=q_ hQ.o.row;clear hres hrow hY hll hend
    go_wp2_with fail
    try go_ret
    rw[Q_.o,hr.o];refine yok ?_ hQ.o.fr hQ.o.M.R hQ.o.M.il;exact hQr.o.dat (λ g _ hg=>by omega) (λ g e=>by have:=hQr.o;obtain⟨_,a,_⟩:=this;have:=(a.lt g e).1;show w.heap.size<=g;omega) (.inl ⟨rfl,rfl⟩)
   ·have hlt:(acc.length:Int)<(cnt:Int):=by omega
    obtain⟨cn,hcn⟩:∃ cn,cnt-acc.length=cn+1:=⟨cnt-acc.length-1,by omega⟩;rw[hcn,zgr] at hres
    have hk1:bKey s false (zwf acc) j=some (noB,j):=by simp[bKey]
    rw[hk1] at hres;simp only[ztm] at hres;have hc1:=hQ.o.bx.c1;have hC:=hR.o j nn (by omega) hnn3 hQ.o.M.il wr _ hQ.o.M hnn3 (hT.o.fr hQ.o.fr (λ g hg e=>hnb (e▸hg)));have hbB:=hQ.o.bB
    cases hrd:rdB s (za_ ds) f u j nn with
    | error e0=>
     rw[hrd] at hres hC;have hr:=q_ hres;replace hC:=q_ hC
     have hL3:acc.length<=300:=by omega
     clear hrow hY hres
     go_wp2_with (first
      |(go_at_call 62;refine hC.o.mono ?_;rintro e w1 ⟨v1,ev1,rfl,hf1,hv1,hE1,hR1⟩;subst hv1;obtain⟨eT,ex,rfl⟩:=hE1.iface;have hG1:=((hQ.o.M.call hR1.choose_spec.choose_spec.1 hf1 hR1.choose_spec.choose_spec.2)).G;replace hE1:=q_ hE1;replace hf1:=q_ hf1;replace hR1:=q_ hR1)
      |(go_at_call 186;refine(zdu hI hG1 (by omega)).mono ?_;rintro e w2 hW2;have hE2:=q_ (λ v (he:e=.returned v)=>hE1.o.wrap hW2 (by have:=hf1.o.size;omega) he);obtain⟨g2,tx2,rfl,hg2,hb2,hf2⟩:=hW2;replace hf2:=q_ hf2;replace hb2:=q_ hb2))
     try go_ret
     rw[Q_.o,hr.o];refine⟨_,_,rfl,(hQ.o.fr.trans hf1.o u_).trans (hf2.o.mono v_) u_,rfl,(hE2.o _ rfl).less (by omega),?_⟩;obtain⟨j1,m1,h1,h2⟩:=hR1.o;exact⟨j1,m1,hf2.o.blk h1 id,h2⟩
    | ok q=>
     obtain⟨d,j1,m1⟩:=q;rw[hrd] at hres hC;have hgo:=zbm s (za_ ds) f u j nn d j1 m1 hQ.o.M.il hnn3 hrd;have hres':=q_ hres;replace hC:=q_ hC;replace hY:=q_ hY;replace hrow:=q_ hrow
     have hL3:acc.length<=300:=by omega
     obtain⟨ti,hi1,hi2,hi3,hi4⟩:=info_parts zbu;clear hres
     go_wp2_with (first
      |(go_at_call 62;refine hC.o.mono ?_;rintro e w1 ⟨v1,ev1,rfl,hf1,hv1,hD1,hR1,hj1⟩;subst hv1;obtain⟨dT,dx,rfl⟩:=hD1.iface;have Q1:=hQ.o.call hR1 hf1 hj1;have hb1:=Q1.bB;have hrow1:=q_ (zb_ hrow.o hf1 (λ g hg e=>by have:=hrow.o.lt g hg;omega));have hD1':=q_ (hD1.mono (Q:=λ g=>w.heap.size+1<=g/\(Value.slice la acc.length lc).ownBlock≠some g) (λ g _ hg=>⟨by omega,λ e=>by have:=hrow.o.lt g e;omega⟩));have hY1:=q_ (λ i d (e:(acc.map Prod.snd)[i]?=some d)=>(hY.o i d e).fr hf1 (λ g hg e=>by have:=hg.1;omega));replace Q1:=q_ Q1;clear hD1 hR1)
      |(at_builtin;go_must (refine wpList_append_own_at _ rfl _ _ 169 rfl (w.heap.size+1) 94 ti _ 1 16 zmc hi1 hi2 hi3 hi4 rfl (by decide) (.slice la acc.length lc) acc.length ((List.range acc.length).flatMap λ i=>[Y i]) rfl ?hown _ 1 1 [.iface dT dx] rfl rfl (yh_ _ #[.iface dT dx] _ _ ?nn) ?one ?b1 ?b2 ?b3 ?_)
        case hown=>exact World.ownsRow.alloc hrow1.o _
        case nn=>simp
        case one=>simp[Value.oneCell']
        case b1=>unfold maxLen;omega
        case b2=>omega
        case b3=>simp;omega
        intro v5 w5 ho5 hg5 hn5 hl5
        have Q5:=Q1.o.item hY1.o hD1'.o hg5 (by rw[hll];exact ho5) hl5
        obtain⟨g5,cap5,rfl⟩:=zk_ ho5 (by omega)
        clear hg5 hl5 hn5 ho5
        replace Q5:=q_ Q5))
     go_roundg (302-m1)
     case measure=>omega
     case rel=>
      refine⟨acc++[(noB,d)],j1,m1,by simp,by simp;omega,by simp;omega,hgo.2.2.2,by omega,q_ (by rw[bq_];exact Q5.o),?_⟩;rw[hres'.o,al_,ai_,show cnt-(acc.length+1)=cn by omega]
      have:zwf (acc++[(noB,d)])=some noB:=by simp[zwf]
      rw[this]
end
open Go.RowKit
structure YM (w0:World) (P:Nat->Prop) (ss:BA) (ds:List PD) (sv rv:Value) (xs:List Value) (s:BA) (E:WErr) (br j nn:Nat) (cx:List Value) (ct:TypeId) (t:PT) (w:World) (lv:Value) (l:List (BA×DT)) (W:World):Prop where
 M:YC w0 P ss ds sv rv xs s E br j nn W
 fr:Fr w W (· = br)
 bx:Blk W w.heap.size cx ct
 bB:w.heap.size+1<=W.heap.size
 lt:br<w.heap.size
 row:∃ ys,W.ownsRow (w.heap.size+1) 173 2 lv l.length ys/\zxj (zey l) l.length ys/\RowE (za_ ds) W (λ g=>w.heap.size+1<=g/\lv.ownBlock≠some g) t l ys
section
variable {w0 w W W':World} {P:Nat->Prop} {ss:BA} {ds:List PD} {sv rv:Value} {xs:List Value} {s:BA} {E:WErr} {br i n j nn j' nn':Nat} {cx:List Value} {ct:TypeId} {t:PT} {lv:Value} {l:List (BA×DT)}
theorem YM.call (Q:YM w0 P ss ds sv rv xs s E br j nn cx ct t w lv l W) (h:RwAt W' br sv rv s j' nn') (hf:Fr W W' (· = br)) (hj:j'<=s.size):YM w0 P ss ds sv rv xs s E br j' nn' cx ct t w lv l W':=by
 have h1:=Q.lt;have h2:=Q.bB;obtain⟨ys,a,b,c⟩:=Q.row;exact⟨Q.M.call h hf hj,Q.fr.trans hf u_,hf.blk Q.bx (by omega),ah_ h2 hf.size,h1,ys,zb_ a hf (λ g hg e=>by have:=a.lt g hg;omega),b,c.fr hf (λ g hg e=>by omega)⟩
theorem YM.item (Q:YM w0 P ss ds sv rv xs s E br j nn cx ct t w lv l W){o:Obj}{w5:World}{v5 v:Value}{d:DT}{key:BA}{ys:List Value}(ha:W.ownsRow (w.heap.size+1) 173 2 lv l.length ys) (hY:RowE (za_ ds) W (λ g=>w.heap.size+1<=g/\lv.ownBlock≠some g) t l ys) (hk:key.size<=4000) (hd:DaV (za_ ds) W (λ g=>w.heap.size+1<=g/\lv.ownBlock≠some g) d (yb_ (za_ ds) t 0 l.length) v)
 (hg:(W.alloc o).grownBy w5 lv.ownBlock) (ho:w5.ownsRow (w.heap.size+1) 173 2 v5 (l.length+1) (ys++[.string key,v])) (hl:v5.ownBlock=lv.ownBlock\/v5.ownBlock=some (W.alloc o).heap.size):YM w0 P ss ds sv rv xs s E br j nn cx ct t w v5 (l++[(key,d)]) w5:=by
 have h1:=Q.lt;have h2:=Q.bB
 have h3:(W.alloc o).heap.size=W.heap.size+1:=by simp
 have hF:Fr W w5 (λ g=>lv.ownBlock=some g):=((Fr.refl W _).alloc o).grown hg (λ k e _=>e);have hrow:∀ g,lv.ownBlock=some g->w.heap.size+1<=g:=λ g e=>(ha.lt g e).1
 have hM:YC w0 P ss ds sv rv xs s E br j nn w5:=by
  have hb:=Q.M.brG;exact⟨hF.blk Q.M.R (λ e=>by have:=hrow _ e;omega),Q.M.D.fr hF (λ g hg e=>by have:=hrow _ e;have:=Q.M.Pbr g hg;omega),Q.M.G.fr hF (by omega) (λ g e=>by have:=hrow _ e;omega),Q.M.E1,Q.M.E2,Q.M.Pbr,Q.M.brG,Q.M.hs,Q.M.il⟩
 have hyl:=ha.1;refine⟨hM,Q.fr.trans hF (λ x hx e=>absurd (hrow x e) (by omega)),hF.blk Q.bx (λ e=>by have:=hrow _ e;omega),ah_ h2 hF.size,h1,_,by rw[al_,ai_];exact ho,?_,RowE.grow hY hd hk (hF.mono (λ g _ e=>.inl e)) (c:=br) (by omega) ?_⟩
 ·rw[jp_,al_,ai_];exact⟨l.length,rfl,by rw[aw_ (by omega),show l.length*2-ys.length=0 by omega];rfl⟩
 ·rcases hl with e|e
  ·exact .inl e
  ·exact .inr ⟨_,e,by omega⟩
end
def z0o (R_:Except Nat (List (BA×DT)×Nat×Nat)) (R:Nat->Nat->Except Nat (DT×Nat×Nat)) (cnt n:Nat) (w0:World) (P:Nat->Prop) (ss:BA) (ds:List PD) (sv rv:Value) (xs:List Value) (s:BA) (E:WErr) (br:Nat) (cx:List Value) (ct:TypeId) (t:PT) (w:World) (q:Nat) (v8 v21:Value) (W:World):Prop:=
 ∃ (acc:List (BA×DT)) (j nn:Nat),v21=.int .i64 (acc.length:Int)/\acc.length<=cnt/\n+acc.length<=nn/\nn<=300/\302<=q+nn/\H_ (YM w0 P ss ds sv rv xs s E br j nn cx ct t w v8 acc W)/\R_=zei acc (xd_ R s true (cnt-acc.length) (zey acc) j nn)
section
variable {w0 w:World} {P:Nat->Prop} {ss:BA} {ds:List PD} {sv rv:Value} {xs:List Value} {s:BA} {E:WErr} {br i n:Nat}
theorem zu1 {u:PT}{p f:Nat}{pt:Int}{vT:TypeId}{vx:Value}(hI:yd_ w0) (M:YC w0 P ss ds sv rv xs s E br i n w) (hn:n<=300) (hT:TyV w P u (.iface vT vx)) (hR:∀ j nn,n<=nn->nn<=300->j<=s.size->DatY w0 P ss ds sv rv xs s E br f u j nn) :
 Calls prog 137 #[.pointer (some ⟨br,0,none⟩),.agg #[.int .i64 pt,.iface vT vx]] w (yx_ (za_ ds) (.wrap 123 p u) w sv rv s E br (zdf (rdB s (za_ ds) f u) s 123 i n)):=by
 refine hq_ λ POST Q_=>?_;rw[zoz] at Q_;have hsl:=M.hs;have hbl:=M.lt;have A:Fr w (w.alloc (.cells #[.int .i64 pt,.iface vT vx] 254)) (λ _=>False):=(Fr.refl w _).alloc _;have M0:=M.new A;have B0:=Blk.new w #[.int .i64 pt,.iface vT vx] 254;have hC:=zdj M0.R M0.hs M0.il M0.err;have hnb:=M.brP;replace hT:=q_ hT;replace hR:=q_ hR
 cases hb:zdg s i with
 | none=>
  rw[hb] at hC Q_;replace hC:=q_ hC;replace A:=q_ A;clear M M0 B0 hb
  go_in
  go_wp2_with (go_at_call 185;refine hC.o.mono ?_;rintro e w1 ⟨hf1,rfl,j,hj,h1⟩;replace hf1:=q_ hf1;replace h1:=q_ h1)
  try go_ret
  rw[Q_.o];exact ybad ((A.o.mono v_).trans hf1.o u_) ⟨j,n,h1.o,hj⟩
 | some q=>
  obtain⟨v,j0⟩:=q;have hg:=y7_ hb;obtain⟨cnt,rfl⟩:∃ m:Nat,v=(m:Int):=⟨v.toNat,by omega⟩;rw[hb] at hC Q_;simp only[bc_] at Q_;obtain⟨R_,hRES⟩:∃ r,r=xd_ (rdB s (za_ ds) f u) s true cnt none j0 n:=⟨_,rfl⟩;rw[show((123:Nat)==123)=true from rfl,<- hRES] at Q_;have start:H_ (∀ w1,RwAt w1 br sv rv s j0 n->Fr (w.alloc (.cells #[.int .i64 pt,.iface vT vx] 254)) w1 (· = br)->z0o R_ (rdB s (za_ ds) f u) cnt n w0 P ss ds sv rv xs s E br [.int .i64 pt,.iface vT vx] 254 (.wrap 123 p u) w 302 (.slice none 0 0) (.int .i64 0) w1):=q_ (λ w1 h1 F1=>⟨[],j0,n,rfl,by simp,by simp,hn,by omega,q_ ⟨M0.call h1 F1 hg.2.1,(A.mono v_).trans F1 u_,F1.blk B0 (by omega),by have:=F1.size;simp at this;omega,hbl,[],World.ownsRow_nil _ _ _ _,rfl,RowE.nil _ _ _ _⟩,by rw[zh0,hRES];rfl⟩);replace hC:=q_ hC;replace hRES:=q_ hRES;have hcnt:(cnt:Int)<=9223372036854775807:=hg.2.2.2.1;clear M M0 B0 A hb
  go_in
  go_wp2_with (go_at_call 185;refine hC.o.mono ?_;rintro e w1 ⟨hf1,rfl,hj,h1⟩;have st1:=q_ (start.o w1 h1 hf1);clear hf1 h1)
  go_loopg [8,9,10,11,21] 302 (λ q v8 v9 v10 v11 v21 W=>z0o R_ (rdB s (za_ ds) f u) cnt n w0 P ss ds sv rv xs s E br [.int .i64 pt,.iface vT vx] 254 (.wrap 123 p u) w q v8 v21 W)
  case atStart=>exact st1.o
  case round=>
   clear start st1 hC;obtain⟨acc,j,nn,rfl,hkc,hnn,hnn3,hq,hQ,hres⟩:=hrel;obtain⟨ys,hrow,hlast,hY⟩:=hQ.o.row;obtain⟨la,lc,rfl⟩:=zf_ hrow
   by_cases hend:acc.length=cnt
   ·have hlt:¬ (acc.length:Int)<(cnt:Int):=by omega
    have hr:=q_ (show R_=.ok (acc,j,nn) by rw[hres,show cnt-acc.length=0 by omega];simp[xd_,zei]);have hYr:=q_ hY;have hrw:=q_ hrow;clear hres hrow hY hend hlast
    go_wp2_with fail
    try go_ret
    rw[Q_.o,hr.o];refine yok ?_ hQ.o.fr hQ.o.M.R hQ.o.M.il;exact hYr.o.dat hrw.o (λ g _ hg=>by omega) (λ g e=>by have:=(hrw.o.lt g e).1;show w.heap.size<=g;omega)
   ·have hlt:(acc.length:Int)<(cnt:Int):=by omega
    obtain⟨cn,hcn⟩:∃ cn,cnt-acc.length=cn+1:=⟨cnt-acc.length-1,by omega⟩;rw[hcn,zgr] at hres;have hK:=zg9 hQ.o.M.R hQ.o.M.hs hQ.o.M.il hQ.o.M.err;have hbB:=hQ.o.bB
    have hL3:acc.length<=300:=by omega
    cases hsz:vu_ s j with
    | none=>
     have hr:=q_ (show R_=.error 6 by rw[hres];simp[bKey,hsz]);rw[hsz] at hK;replace hK:=q_ hK;clear hres hrow hY hend hlast
     go_wp2_with (go_at_call 184;refine hK.o.mono ?_;rintro e w1 ⟨hf1,rfl,j1,hj1,h1⟩;replace hf1:=q_ hf1;replace h1:=q_ h1)
     try go_ret
     rw[Q_.o,hr.o];exact ybad (hQ.o.fr.trans hf1.o u_) ⟨j1,nn,h1.o,hj1⟩
    | some q=>
     obtain⟨key,j1⟩:=q;have hgk:=zat hsz
     have hks:key.size<=4000:=by omega
     rw[hsz] at hK;replace hK:=q_ hK;have hYh:=q_ hY;have hrw:=q_ hrow
     cases hle:zey acc with
     | none=>
      have hl0:acc.length=0:=by rw[hle] at hlast;exact hlast
      have hmp:¬ (0:Int)<(acc.length:Int):=by omega
      replace hl0:=q_ hl0;rw[hle,show bKey s true none j=some (key,j1) by simp[bKey,hsz,zen]] at hres;clear hrow hY hlast;simp only[ztm] at hres;have hRd:=q_ (λ w1 (h1:RwAt w1 br sv rv s j1 nn) (hf:Fr wr w1 (· = br))=>hR.o j1 nn (by omega) hnn3 (by omega) w1 _ (hQ.o.M.call h1 hf (by omega)) hnn3 ((hT.o.fr hQ.o.fr (λ g hg e=>hnb (e▸hg))).fr hf (λ g hg e=>hnb (e▸hg))));clear hend
      cases hrd:rdB s (za_ ds) f u j1 nn with
      | error e0=>
       rw[hrd] at hres hRd;have hr:=q_ hres;clear hres
       go_wp2_with (first
        |(go_at_call 184;refine hK.o.mono ?_;rintro e w1 ⟨hf1,rfl,hj1,h1⟩;have hC:=q_ (hRd.o w1 h1 hf1);have Q1:=hQ.o.call h1 hf1 hj1;have c1:=Q1.bx.c1;replace Q1:=q_ Q1;clear h1 hf1)
        |(go_at_call 62;refine hC.o.mono ?_;rintro e w2 ⟨v2,ev2,rfl,hf2,hv2,hE2,hR2⟩;subst hv2;obtain⟨eT,ex,rfl⟩:=hE2.iface;have hG2:=(Q1.o.M.call hR2.choose_spec.choose_spec.1 hf2 hR2.choose_spec.choose_spec.2).G;have hz:=q_ hf2.size;replace hE2:=q_ hE2;replace hf2:=q_ hf2;replace hR2:=q_ hR2)
        |(go_at_call 187;refine(zbf hI hG2 hks).mono ?_;rintro e w3 hW3;have hE3:=q_ (λ v (he:e=.returned v)=>hE2.o.wrap hW3 (by have:=hz.o;omega) he);obtain⟨g3,tx3,rfl,hg3,hb3,hf3⟩:=hW3;replace hf3:=q_ hf3;replace hb3:=q_ hb3))
       all_goals try(exfalso;omega)
       try go_ret
       rw[Q_.o,hr.o];refine⟨_,_,rfl,(Q1.o.fr.trans hf2.o u_).trans (hf3.o.mono v_) u_,rfl,(hE3.o _ rfl).less (by have:=Q1.o.fr.size;omega),?_⟩;obtain⟨j2,m2,h1,h2⟩:=hR2.o;exact⟨j2,m2,hf3.o.blk h1 id,h2⟩
      | ok q=>
       obtain⟨d,j2,m1⟩:=q;rw[hrd] at hres hRd;have hgo:=zbm s (za_ ds) f u j1 nn d j2 m1 (by omega) hnn3 hrd;have hres':=q_ hres;obtain⟨ti,hi1,hi2,hi3,hi4⟩:=info_parts zgc;clear hres
       go_wp2_with (first
        |(go_at_call 184;refine hK.o.mono ?_;rintro e w1 ⟨hf1,rfl,hj1,h1⟩;have hC:=q_ (hRd.o w1 h1 hf1);have Q1:=hQ.o.call h1 hf1 hj1;have c1:=Q1.bx.cell 1;have hb1:=Q1.bB;have hrow1:=q_ (zb_ hrw.o hf1 (λ g hg e=>by have:=hrw.o.lt g hg;omega));have hY1:=q_ (hYh.o.fr hf1 (λ g hg e=>by have:=hg.1;omega));simp only[aa_,ac_] at c1;replace Q1:=q_ Q1;clear h1 hf1)
        |(go_at_call 62;refine hC.o.mono ?_;rintro e w2 ⟨v2,ev2,rfl,hf2,hv2,hD2,hR2,hj2⟩;subst hv2;obtain⟨dT,dx,rfl⟩:=hD2.iface;have Q2:=Q1.o.call hR2 hf2 hj2;have hb2:=Q2.bB;have hrow2:=q_ (zb_ hrow1.o hf2 (λ g hg e=>by have:=hrow1.o.lt g hg;omega));have hD2':=q_ (hD2.mono (Q:=λ g=>w.heap.size+1<=g/\(Value.slice la acc.length lc).ownBlock≠some g) (λ g _ hg=>⟨by omega,λ e=>by have:=hrow1.o.lt g e;omega⟩));have hY2:=q_ (hY1.o.fr hf2 (λ g hg e=>by have:=hg.1;omega));replace Q2:=q_ Q2;clear hD2 hR2 hf2)
        |(at_builtin;go_must (refine wpList_append_own_at _ rfl _ _ 171 rfl (w.heap.size+1) 173 ti _ 2 32 zjq hi1 hi2 hi3 hi4 rfl (by decide) (Value.slice la acc.length lc) acc.length ys rfl ?hown _ 1 1 [.string key,.iface dT dx] rfl rfl (yh_ _ #[.string key,.iface dT dx] _ _ ?nn) ?one ?b1 ?b2 ?b3 ?_)
          case hown=>exact World.ownsRow.alloc hrow2.o _
          case nn=>simp
          case one=>simp[Value.oneCell']
          case b1=>unfold maxLen;omega
          case b2=>omega
          case b3=>simp;omega
          intro v5 w5 ho5 hg5 hn5 hl5
          have Q5:=Q2.o.item (d:=d) hrow2.o hY2.o hks hD2'.o hg5 ho5 hl5
          obtain⟨g5,cap5,rfl⟩:=zk_ ho5 (by omega)
          clear hg5 hl5 hn5 ho5
          replace Q5:=q_ Q5))
       go_roundg (302-m1)
       case measure=>omega
       case rel=>
        refine⟨acc++[(key,d)],j2,m1,by simp,by simp;omega,by simp;omega,hgo.2.2.2,by omega,q_ Q5.o,?_⟩;rw[hres'.o,al_,ai_,show cnt-(acc.length+1)=cn by omega,jp_]
     | some key0=>
      have hm:=hlast;rw[hle] at hm;obtain⟨m,hm1,hym⟩:=hm;obtain⟨gz,cap,hgc⟩:=zk_ hrow (by omega);cases hgc
      have hwp:IntKind.i64.wrap ((acc.length:Int)-1)=(m:Int):=by rw[IntKind.wrap_i64];omega
      have hmp:(0:Int)<(acc.length:Int):=by omega
      have hmpn:0<acc.length:=by omega
      have hml:(m:Int)<(acc.length:Int):=by omega
      have hfac:H_ (∀ w1,Fr wr w1 (· = br)->w1.cell? ⟨gz,m*2,none⟩=some (.string key0)):=q_ (λ w1 hf=>zs_ (zb_ hrow hf (λ g' hg e=>by have:=hrow.lt g' hg;have:=hQ.o.lt;omega)) rfl hym);replace hm1:=q_ hm1;clear hym hrow hY hlast
      by_cases hri:Op.bytesLess key0.toList key.toList=true
      case neg=>
       have hless:(Op.bytesLess key.toList key0.toList||key.toList==key0.toList)=true:=by
        rw[zbr];rw[Bool.eq_false_iff.2 hri]
        rfl
       have hr:=q_ (show R_=.error 6 by rw[hres,hle];simp[bKey,hsz,zen,hri]);replace hri:=q_ hri;clear hres hend
       go_wp2_with (go_at_call 184;refine hK.o.mono ?_;rintro e w1 ⟨hf1,rfl,hj1,h1⟩;have hk1:=hfac.o w1 hf1;have he1:=hQ.o.M.err w1 hf1;unfold jz_ at he1;replace hf1:=q_ hf1;replace h1:=q_ h1)
       go_quiet (fail)
       go_wp2_with fail
       try go_ret
       rw[Q_.o,hr.o];exact ybad ((hQ.o.fr.trans hf1.o u_).still (ze_.drewN _ _)) ⟨_,nn,h1.o.still (ze_.drewN _ _),hj1⟩
      have hless:(Op.bytesLess key.toList key0.toList||key.toList==key0.toList)=false:=by
       rw[zbr];rw[show Op.bytesLess key0.toList key.toList=true from hri]
       rfl
      rw[hle,show bKey s true (some key0) j=some (key,j1) by simp[bKey,hsz,zen,hri]] at hres;replace hri:=q_ hri;simp only[ztm] at hres;have hRd:=q_ (λ w1 (h1:RwAt w1 br sv rv s j1 nn) (hf:Fr wr w1 (· = br))=>hR.o j1 nn (by omega) hnn3 (by omega) w1 _ (hQ.o.M.call h1 hf (by omega)) hnn3 ((hT.o.fr hQ.o.fr (λ g hg e=>hnb (e▸hg))).fr hf (λ g hg e=>hnb (e▸hg))));clear hend
      cases hrd:rdB s (za_ ds) f u j1 nn with
      | error e0=>
       rw[hrd] at hres hRd;have hr:=q_ hres;clear hres
       go_wp2_with (first
        |(go_at_call 184;refine hK.o.mono ?_;rintro e w1 ⟨hf1,rfl,hj1,h1⟩;have hk1:=hfac.o w1 hf1;have hC:=q_ (hRd.o w1 h1 hf1);have Q1:=hQ.o.call h1 hf1 hj1;have c1:=Q1.bx.c1;replace Q1:=q_ Q1;clear h1 hf1)
        |(go_at_call 62;refine hC.o.mono ?_;rintro e w2 ⟨v2,ev2,rfl,hf2,hv2,hE2,hR2⟩;subst hv2;obtain⟨eT,ex,rfl⟩:=hE2.iface;have hG2:=(Q1.o.M.call hR2.choose_spec.choose_spec.1 hf2 hR2.choose_spec.choose_spec.2).G;have hz:=q_ hf2.size;replace hE2:=q_ hE2;replace hf2:=q_ hf2;replace hR2:=q_ hR2)
        |(go_at_call 187;refine(zbf hI hG2 hks).mono ?_;rintro e w3 hW3;have hE3:=q_ (λ v (he:e=.returned v)=>hE2.o.wrap hW3 (by have:=hz.o;omega) he);obtain⟨g3,tx3,rfl,hg3,hb3,hf3⟩:=hW3;replace hf3:=q_ hf3;replace hb3:=q_ hb3))
       try go_ret
       rw[Q_.o,hr.o];refine⟨_,_,rfl,(Q1.o.fr.trans hf2.o u_).trans (hf3.o.mono v_) u_,rfl,(hE3.o _ rfl).less (by have:=Q1.o.fr.size;omega),?_⟩;obtain⟨j2,m2,h1,h2⟩:=hR2.o;exact⟨j2,m2,hf3.o.blk h1 id,h2⟩
      | ok q=>
       obtain⟨d,j2,m1⟩:=q;rw[hrd] at hres hRd;have hgo:=zbm s (za_ ds) f u j1 nn d j2 m1 (by omega) hnn3 hrd;have hres':=q_ hres;obtain⟨ti,hi1,hi2,hi3,hi4⟩:=info_parts zgc;clear hres
       go_wp2_with (first
        |(go_at_call 184;refine hK.o.mono ?_;rintro e w1 ⟨hf1,rfl,hj1,h1⟩;have hk1:=hfac.o w1 hf1;have hC:=q_ (hRd.o w1 h1 hf1);have Q1:=hQ.o.call h1 hf1 hj1;have c1:=Q1.bx.cell 1;have hb1:=Q1.bB;have hrow1:=q_ (zb_ hrw.o hf1 (λ g hg e=>by have:=hrw.o.lt g hg;omega));have hY1:=q_ (hYh.o.fr hf1 (λ g hg e=>by have:=hg.1;omega));simp only[aa_,ac_] at c1;replace Q1:=q_ Q1;clear h1 hf1)
        |(go_at_call 62;refine hC.o.mono ?_;rintro e w2 ⟨v2,ev2,rfl,hf2,hv2,hD2,hR2,hj2⟩;subst hv2;obtain⟨dT,dx,rfl⟩:=hD2.iface;have Q2:=Q1.o.call hR2 hf2 hj2;have hb2:=Q2.bB;have hrow2:=q_ (zb_ hrow1.o hf2 (λ g hg e=>by have:=hrow1.o.lt g hg;omega));have hD2':=q_ (hD2.mono (Q:=λ g=>w.heap.size+1<=g/\(Value.slice (some ⟨gz,0,none⟩) acc.length lc).ownBlock≠some g) (λ g _ hg=>⟨by omega,λ e=>by have:=hrow1.o.lt g e;omega⟩));have hY2:=q_ (hY1.o.fr hf2 (λ g hg e=>by have:=hg.1;omega));replace Q2:=q_ Q2;clear hD2 hR2 hf2)
        |(at_builtin;go_must (refine wpList_append_own_at _ rfl _ _ 171 rfl (w.heap.size+1) 173 ti _ 2 32 zjq hi1 hi2 hi3 hi4 rfl (by decide) (Value.slice (some ⟨gz,0,none⟩) acc.length lc) acc.length ys rfl ?hown _ 1 1 [.string key,.iface dT dx] rfl rfl (yh_ _ #[.string key,.iface dT dx] _ _ ?nn) ?one ?b1 ?b2 ?b3 ?_)
          case hown=>exact World.ownsRow.alloc hrow2.o _
          case nn=>simp
          case one=>simp[Value.oneCell']
          case b1=>unfold maxLen;omega
          case b2=>omega
          case b3=>simp;omega
          intro v5 w5 ho5 hg5 hn5 hl5
          have Q5:=Q2.o.item (d:=d) hrow2.o hY2.o hks hD2'.o hg5 ho5 hl5
          obtain⟨g5,cap5,rfl⟩:=zk_ ho5 (by omega)
          clear hg5 hl5 hn5 ho5
          replace Q5:=q_ Q5))
       go_roundg (302-m1)
       case measure=>omega
       case rel=>
        refine⟨acc++[(key,d)],j2,m1,by simp,by simp;omega,by simp;omega,hgo.2.2.2,by omega,q_ Q5.o,?_⟩;rw[hres'.o,al_,ai_,show cnt-(acc.length+1)=cn by omega,jp_]
end
end Go.Proofs.YthmjjpkjgjklmaaGreatDoor
