import Derived.Test.YtiifagiebikmdaaGreatDoorW27
import Derived.Test.YtiifagiebikmdaaGreatDoorW07
import Derived.Test.YtiifagiebikmdaaGreatDoorW16
import Derived.Laws.BitsAllLaws
import Derived.Laws.Shifts
import Derived.Test.YtiifagiebikmdaaGreatDoorW33
import Derived.Lib.ConvBytes
import Derived.Test.YtiifagiebikmdaaGreatDoorW34
import Derived.Test.YtiifagiebikmdaaGreatDoorW17
import Derived.Test.YtiifagiebikmdaaGreatDoorW28
import Derived.Test.YtiifagiebikmdaaGreatDoorA00
set_option maxHeartbeats 16000000
set_option maxRecDepth 100000
set_option linter.unusedSimpArgs false
open Go.Proofs.Tryz
namespace Go.Proofs.YtiifagiebikmdaaGreatDoor
open Go.RowKit
variable {k c:Nat}
def RwAt (w:World) (br:Nat) (sv rv:Value) (s:BA) (i n:Nat):Prop:=Blk w br [sv,rv,.string s,.int .i64 (i:Int),.int .i64 (n:Int)] 126
section
variable {w w':World} {br:Nat} {sv rv:Value} {s:BA} {i n:Nat}
theorem RwAt.c0 (h:RwAt w br sv rv s i n):w.cell? ⟨br,0,none⟩=some sv:=by rw[Blk.cell h];rfl
theorem RwAt.c1 (h:RwAt w br sv rv s i n):w.cell? ⟨br,1,none⟩=some rv:=by rw[Blk.cell h];rfl
theorem RwAt.c2 (h:RwAt w br sv rv s i n):w.cell? ⟨br,2,none⟩=some (.string s):=by rw[Blk.cell h];rfl
theorem RwAt.c3 (h:RwAt w br sv rv s i n):w.cell? ⟨br,3,none⟩=some (.int .i64 (i:Int)):=by rw[Blk.cell h];rfl
theorem RwAt.c4 (h:RwAt w br sv rv s i n):w.cell? ⟨br,4,none⟩=some (.int .i64 (n:Int)):=by rw[Blk.cell h];rfl
theorem RwAt.thaw (h:RwAt w br sv rv s i n) (o:Nat):w.frozen? ⟨br,o,none⟩=false:=Blk.thaw h o
theorem RwAt.still (h:RwAt w br sv rv s i n) (a:zd_ w w'):RwAt w' br sv rv s i n:=by obtain⟨n,rfl⟩:=a;exact h
theorem RwAt.inc (h:RwAt w br sv rv s i n):RwAt (w.setCell ⟨br,3,none⟩ (.int .i64 ((i:Int)+1))) br sv rv s (i+1) n:=Blk.set h 3 _
theorem RwAt.move (h:RwAt w br sv rv s i n) (j:Nat):RwAt (w.setCell ⟨br,3,none⟩ (.int .i64 ((i:Int)+(j:Int)))) br sv rv s (i+j) n:=by
 have:=Blk.set h 3 (.int .i64 ((i:Int)+(j:Int)));unfold RwAt;rw[Int.natCast_add];exact this
theorem RwAt.node (h:RwAt w br sv rv s i n):RwAt (w.setCell ⟨br,4,none⟩ (.int .i64 ((n:Int)+1))) br sv rv s i (n+1):=Blk.set h 4 _
end
def jt_ (w:World) (dt:TypeId) (dx:Value):Prop:=w.cell? ⟨4,0,none⟩=some (.iface dt dx)
section
variable {w:World} {br:Nat} {sv rv:Value} {s:BA} {i n:Nat} {dt:TypeId} {dx:Value}
theorem zi6 (h:RwAt w br sv rv s i n) (hs:s.size<=4000) (hl:i<s.size) :
 Calls prog 153 #[.pointer (some ⟨br,0,none⟩)] w λ e w'=>e=.returned (.tuple #[.int .u8 (bt s i:Int),.nilIface])/\RwAt w' br sv rv s (i+1) n/\Fr w w' (· = br):=by
 refine hq_ λ f b=>?_;have c2:=h.c2;have c3:=h.c3;have g:=h.thaw 3
 have r:((i:Int)==(s.size:Int))=false:=by simp;omega
 have q:(i:Int)<(s.size:Int):=by omega
 obtain⟨x,a⟩:∃ x,bt s i=x:=⟨_,rfl⟩
 have p:((s[i]'hl).toNat:Int)=(x:Int):=by rw[<- a,j5_ s i hl]
 rw[a] at b;replace a:=q_ a;replace h:=q_ h
 go_in
 go_wp2_with fail
 go_quiet (fail)
 go_wp2_with fail
 go_quiet (fail)
 go_wp2_with fail
 try go_ret
 rw[b.o];refine⟨rfl,?_,?_⟩
 ·exact((h.o.still (zd_.drewN _ _)).inc).still (zd_.drewN _ _)
 ·exact(((Fr.refl w (· = br)).still (zd_.drewN _ _)).setCell _ _ (λ _=>rfl)).still (zd_.drewN _ _)
theorem zm0 (h:RwAt w br sv rv s i n) (hl:i=s.size) (b:jt_ w dt dx) :
 Calls prog 153 #[.pointer (some ⟨br,0,none⟩)] w λ e w'=>e=.returned (.tuple #[.int .u8 0,.iface dt dx])/\RwAt w' br sv rv s i n/\Fr w w' (· = br):=by
 refine hq_ λ f a=>?_;have c2:=h.c2;have c3:=h.c3
 have g:((i:Int)==(s.size:Int))=true:=by simp;omega
 have he:=b;unfold jt_ at he;replace hl:=q_ hl;replace h:=q_ h
 go_in
 go_wp2_with fail
 go_quiet (fail)
 go_wp2_with fail
 go_quiet (fail)
 go_wp2_with fail
 try go_ret
 rw[a.o];exact⟨rfl,h.o.still ((zd_.drewN _ _).trans (zd_.drewN _ _)),(Fr.refl w _).still ((zd_.drewN _ _).trans (zd_.drewN _ _))⟩
end
theorem zwn {m:Nat}(h:m<9223372036854775808):bits .xor .i64 (-1) (m:Int) = -(m:Int)-1:=by
 have e:bits .xor .i64 (-1) (m:Int)=IntKind.i64.wrap ((BitVec.ofInt 64 (-1) ^^^ BitVec.ofInt 64 (m:Int)).toNat:Int):=rfl
 have a:BitVec.ofInt 64 (-1)=BitVec.allOnes 64:=by decide
 rw[e,a,BitVec.allOnes_xor,BitVec.toNat_not,BitVec.toNat_ofInt]
 have:(((m:Int) % ((2 ^ 64:Nat):Int)).toNat:Int)=(m:Int):=by omega
 simp only[IntKind.wrap,IntKind.bits,IntKind.signed]
 simp
 omega
theorem zg0 {w:World}{z:Nat}(h:z<18446744073709551616) :
 Calls prog 167 #[.int .u64 (z:Int)] w λ e w'=>e=.returned (.int .i64 (unfI z))/\w'=w:=by
 refine hq_ λ f a=>?_
 have hc:IntKind.i64.wrap ((z:Int) / 2)=((z / 2:Nat):Int):=by
  simp only[IntKind.wrap,IntKind.bits,IntKind.signed]
  simp
  omega
 by_cases h1:z % 2=1
 ·have b:(z:Int) % 2=1:=by omega
  have g:=zwn (m:=z / 2) (by omega)
  go_in
  go_wp2_with fail
  try go_ret
  rw[a.o];unfold unfI;rw[if_pos h1];refine⟨?_,rfl⟩
  congr 2
 ·have b:¬ (z:Int) % 2=1:=by omega
  go_in
  go_wp2_with fail
  try go_ret
  rw[a.o];unfold unfI;rw[if_neg h1];refine⟨?_,rfl⟩
  congr 2
open Go.RowKit
def WNum (w:World) (br:Nat) (sv rv:Value) (s:BA) (n:Nat) (dt:TypeId) (dx:Value) (r:Option (Int×Nat)) (e:Ending) (w':World):Prop:=
 Fr w w' (· = br)/\match r with
 | some (v,j)=>e=.returned (.tuple #[.int .i64 v,.nilIface])/\j<=s.size/\RwAt w' br sv rv s j n
 | none=>e=.returned (.tuple #[.int .i64 0,.iface dt dx])/\∃ j,j<=s.size/\RwAt w' br sv rv s j n
def finB (lo hi:Int):Option (Nat×Nat)->Option (Int×Nat)
 | none=>none
 | some (z,j)=>if z<18446744073709551616/\lo<=unfI z/\unfI z<=hi then some (unfI z,j) else none
theorem zu2 (s:BA) (lo b:Int) (i:Nat):bNum s lo b i=finB lo b (lebC s i 0 0):=by
 rw[zkc];unfold bNum bL finB
 cases lebD s 10 i with
 | none=>rfl
 | some q=>
  obtain⟨z,j⟩:=q;simp only
  by_cases h:z<18446744073709551616
  ·rw[if_pos h];simp only
   by_cases a:lo<=unfI z/\unfI z<=b
   ·rw[if_pos a,if_pos ⟨h,a⟩]
   ·rw[if_neg a,if_neg (λ x=>a x.2)]
  ·rw[if_neg h,if_neg (λ x=>h x.1)]
theorem two7 (k:Nat):(2:Int) ^ (7*k)=((128 ^ k:Nat):Int):=by
 rw[show(128:Nat)=2 ^ 7 from rfl,<- Nat.pow_mul,Int.natCast_pow]
 rfl
theorem zyf {a:Nat}(hk:k<=9) (hb:¬ (k=9/\2<=c % 128)) (b:a<128 ^ k) :
 ∃ X:Nat,X=c % 128*128 ^ k/\a+X<18446744073709551616/\IntKind.u64.wrap ((c:Int) % 128*2 ^ (7*k))=(X:Int)/\(X:Int) / 2 ^ (7*k)=(c:Int) % 128/\bits .or .u64 (a:Int) (X:Int)=((a+X:Nat):Int):=by
 have o:=zvc k
 have h:a+c % 128*128 ^ k<18446744073709551616:=by
  by_cases g:k=9
  ·subst g
   have:c % 128<=1:=by omega
   have:=bt_ (128 ^ 9) this;omega
  ·have h1:=zcq (k:=k) (by omega);have p:c % 128*128 ^ k<=127*128 ^ k:=bt_ _ (by omega);have q:128 ^ (k+1)=128 ^ k*128:=Nat.pow_succ 128 k;omega
 have f:(c:Int) % 128*2 ^ (7*k)=((c % 128*128 ^ k:Nat):Int):=by rw[two7,Int.natCast_mul];rfl
 refine⟨_,rfl,h,?_,?_,?_⟩
 ·rw[f,IntKind.wrap_u64];omega
 ·rw[two7,<- Int.natCast_ediv,Nat.mul_div_cancel _ o]
  rfl
 ·rw[u64_or_nat _ _ (by omega) (by omega)]
  congr 1
  rw[show(128:Nat)=2 ^ 7 from rfl,<- Nat.pow_mul,a2_ (c % 2 ^ 7)];rw[show(128:Nat)=2 ^ 7 from rfl,<- Nat.pow_mul] at b;rw[Nat.or_comm,<- Nat.two_pow_add_eq_or_of_lt b,Nat.add_comm]
theorem zqm (hc:2<=c % 128):(IntKind.u64.wrap ((c:Int) % 128*9223372036854775808) / 9223372036854775808 != (c:Int) % 128)=true:=by
 rw[IntKind.wrap_u64]
 simp
 omega
theorem zv3 {x:Int}(hk:10<=k):Op.shift .shl .u64 x .i64 (7*(k:Int))=pure (.int .u64 0):=by
 rw[shift_shl_any _ _ _ _ (by omega),show min (7*(k:Int)).toNat (IntKind.u64).bits=64 by show min _ 64=64;omega,IntKind.wrap_u64]
 congr 2
 omega
theorem zv2 :Op.shift .shr .u64 0 .i64 (7*(k:Int))=pure (.int .u64 0):=by
 rw[shift_shr_any _ _ _ _ (by omega)]
 simp
def zy9 (R_:Option (Int×Nat)) (lo up:Int) (w:World) (br:Nat) (sv rv:Value) (s:BA) (i n:Nat) (q:Nat) (v8 v9:Value) (W:World):Prop:=
 ∃ k acc:Nat,v8=.int .u64 (acc:Int)/\v9=.int .i64 ((7*k:Nat):Int)/\i+k<=s.size/\s.size+1-(i+k)<=q/\acc<18446744073709551616/\H_ (RwAt W br sv rv s (i+k) n/\Fr w W (· = br))/\
  ((k<=9/\acc<128 ^ k/\R_=finB lo up (lebC s i k acc))\/(10<=k/\R_=none))
theorem zb4 {w:World}{br:Nat}{sv rv:Value}{s:BA}{i n:Nat}{dt:TypeId}{dx:Value}{lo up:Int}(h:RwAt w br sv rv s i n) (hs:s.size<=4000) (hi:i<=s.size) (z:∀ W,Fr w W (· = br)->jt_ W dt dx) :
 Calls prog 154 #[.pointer (some ⟨br,0,none⟩),.int .i64 lo,.int .i64 up] w (WNum w br sv rv s n dt dx (bNum s lo up i)):=by
 refine hq_ λ b9 C=>?_;rw[zu2] at C;obtain⟨G,O⟩:∃ b8,b8=finB lo up (lebC s i 0 0):=⟨_,rfl⟩;rw[<- O] at C;have a8:H_ (zy9 G lo up w br sv rv s i n (s.size+1) (.int .u64 0) (.int .i64 0) w):=q_ ⟨0,0,rfl,rfl,by omega,by omega,by omega,q_ ⟨h,Fr.refl _ _⟩,.inl ⟨by omega,by omega,O⟩⟩;replace O:=q_ O;replace z:=q_ z;clear h
 go_in
 go_wp2_with fail
 go_loopg [8,9,10,11,12] (s.size+1) (λ q v8 v9 d8 d9 e0 W=>zy9 G lo up w br sv rv s i n q v8 v9 W)
 case atStart=>exact a8.o
 case round=>
  clear a8;obtain⟨k,F,rfl,rfl,b6,hq,Y,f,V⟩:=hrel
  by_cases b5:i+k=s.size
  ·have r:=q_ (zm0 f.o.1 b5 (z.o _ f.o.2))
   have p:=q_ (show G=none by
    rcases V with⟨K,_,h⟩|⟨_,h⟩
    ·rw[h,zh9 K (by omega)];rfl
    ·exact h)
   clear V
   go_wp2_with (go_at_call 153;refine r.o.mono ?_;rintro e w1 ⟨rfl,h1,a⟩;replace h1:=q_ h1;replace a:=q_ a)
   try go_ret
   rw[C.o,p.o];exact⟨f.o.2.trans a.o u_,rfl,_,b6,h1.o⟩
  ·have B:i+k<s.size:=by omega
   obtain⟨c,hc⟩:∃ c,bt s (i+k)=c:=⟨_,rfl⟩;have r:=zi6 f.o.1 hs B;rw[hc] at r;replace r:=q_ r
   have d1:c<256:=by have:=zf4 s (i+k);omega
   rcases V with⟨K,M,A⟩|⟨a9,A⟩
   ·by_cases N:k=9/\2<=c % 128
    ·obtain⟨rfl,b4⟩:=N;have S:=zqm b4
     have p:=q_ (show G=none by
      rw[A]
      by_cases h1:c<128
      ·rw[zad (by omega) B (by omega),hc,if_neg (λ x=>by omega)]
       unfold finB
       simp only
       rw[if_neg (λ x=>by
        have h2:=b3_ (128 ^ 9) (show 2<=c by omega)
        have h3:128 ^ 9*2=18446744073709551616:=by decide
        omega)]
      ·rw[zbh (by omega) B (by omega),if_pos rfl]
       rfl)
     clear A M hc
     go_wp2_with (go_at_call 153;refine r.o.mono ?_;rintro e w1 ⟨rfl,h1,a⟩;have g:=z.o w1 (f.o.2.trans a u_);unfold jt_ at g;replace h1:=q_ h1;replace a:=q_ a)
     go_quiet (fail)
     go_wp2_with fail
     try go_ret
     rw[C.o,p.o];exact⟨(f.o.2.trans a.o u_).still (zd_.drewN _ _),rfl,_,B,h1.o.still (zd_.drewN _ _)⟩
    ·obtain⟨X,Q,R,hX,S,hO⟩:=zyf K N M
     have d0:(((X:Int) / 2 ^ (7*k)) != (c:Int) % 128)=false:=by rw[S];simp
     have d6:7*k<=63:=by omega
     replace Q:=q_ Q;replace S:=q_ S
     by_cases a4:c<128
     ·have a1:¬ (c:Int)≥128:=by omega
      have hm:c % 128=c:=Nat.mod_eq_of_lt a4
      have L:G=finB lo up (if c=0/\0<k then none else some (F+X,i+k+1)):=by
       rw[A,zad K B (by omega),hc,Q.o,hm,a2_ c]
      obtain⟨u,hu⟩:∃ u,unfI (F+X)=u:=⟨_,rfl⟩;have y:=λ (w:World)=>zg0 (w:=w) R;rw[hu] at y;replace y:=q_ y;replace hu:=q_ hu;obtain⟨Z,T⟩:∃ Z:Nat,Z=F+X:=⟨_,rfl⟩;rw[<- T] at hO y R L;rw[<- T] at hu;replace T:=q_ T
      by_cases H:(lo<=u/\u<=up)/\¬ (c=0/\0<k)
      ·have p:=q_ (show G=some (u,i+k+1) by rw[L,if_neg H.2];unfold finB;simp only;rw[hu.o,if_pos ⟨R,H.1⟩]);obtain⟨⟨I,a3⟩,D⟩:=H;have a7:u≥lo:=I;clear A L M hc N hm
       by_cases U:c=0
       ·have a0:¬ (c:Int) > 0:=by omega
        have a5:(7*(k:Int)==0)=true:=by simp;omega
        replace D:=q_ D;replace U:=q_ U
        go_wp2_with (first
         |(go_at_call 153;refine r.o.mono ?_;rintro e w1 ⟨rfl,h1,a⟩;have g:=z.o w1 (f.o.2.trans a u_);unfold jt_ at g;replace h1:=q_ h1;replace a:=q_ a)
         |(go_at_call 167;refine(y.o _).mono ?_;rintro e J ⟨rfl,b⟩;replace b:=b.symm;subst b))
        try go_ret
        rw[C.o,p.o];exact⟨f.o.2.trans a.o u_,rfl,B,h1.o⟩
       ·have a0:(c:Int) > 0:=by omega
        replace D:=q_ D;replace U:=q_ U
        go_wp2_with (first
         |(go_at_call 153;refine r.o.mono ?_;rintro e w1 ⟨rfl,h1,a⟩;have g:=z.o w1 (f.o.2.trans a u_);unfold jt_ at g;replace h1:=q_ h1;replace a:=q_ a)
         |(go_at_call 167;refine(y.o _).mono ?_;rintro e J ⟨rfl,b⟩;replace b:=b.symm;subst b))
        try go_ret
        rw[C.o,p.o];exact⟨f.o.2.trans a.o u_,rfl,B,h1.o⟩
      ·have p:=q_ (show G=none by
        rw[L]
        by_cases D:c=0/\0<k
        ·rw[if_pos D]
         rfl
        ·rw[if_neg D]
         unfold finB
         simp only
         rw[hu.o,if_neg (λ x=>H ⟨x.2,D⟩)])
       clear A L M hc N hm
       by_cases I:lo<=u
       ·have a7:u≥lo:=I
        by_cases a3:u<=up
        ·have D:c=0/\0<k:=Classical.not_not.1 (λ x=>H ⟨⟨I,a3⟩,x⟩)
         have a0:¬ (c:Int) > 0:=by omega
         have a5:(7*(k:Int)==0)=false:=by simp;omega
         have d7:0<k:=D.2;replace D:=q_ D;clear H
         go_wp2_with (first
          |(go_at_call 153;refine r.o.mono ?_;rintro e w1 ⟨rfl,h1,a⟩;have g:=z.o w1 (f.o.2.trans a u_);unfold jt_ at g;replace h1:=q_ h1;replace a:=q_ a)
          |(go_at_call 167;refine(y.o _).mono ?_;rintro e J ⟨rfl,b⟩;replace b:=b.symm;subst b))
         all_goals first
          |(exfalso;omega)
          |(go_quiet (fail)
            go_wp2_with fail
            try go_ret
            rw[C.o,p.o]
            exact⟨(f.o.2.trans a.o u_).still (zd_.drewN _ _),rfl,_,B,h1.o.still (zd_.drewN _ _)⟩)
        ·clear H
         go_wp2_with (first
          |(go_at_call 153;refine r.o.mono ?_;rintro e w1 ⟨rfl,h1,a⟩;have g:=z.o w1 (f.o.2.trans a u_);unfold jt_ at g;replace h1:=q_ h1;replace a:=q_ a)
          |(go_at_call 167;refine(y.o _).mono ?_;rintro e J ⟨rfl,b⟩;replace b:=b.symm;subst b))
         go_quiet (fail)
         go_wp2_with fail
         try go_ret
         rw[C.o,p.o];exact⟨(f.o.2.trans a.o u_).still (zd_.drewN _ _),rfl,_,B,h1.o.still (zd_.drewN _ _)⟩
       ·have a7:¬ u≥lo:=I;clear H
        go_wp2_with (first
         |(go_at_call 153;refine r.o.mono ?_;rintro e w1 ⟨rfl,h1,a⟩;have g:=z.o w1 (f.o.2.trans a u_);unfold jt_ at g;replace h1:=q_ h1;replace a:=q_ a)
         |(go_at_call 167;refine(y.o _).mono ?_;rintro e J ⟨rfl,b⟩;replace b:=b.symm;subst b))
        go_quiet (fail)
        go_wp2_with fail
        try go_ret
        rw[C.o,p.o];exact⟨(f.o.2.trans a.o u_).still (zd_.drewN _ _),rfl,_,B,h1.o.still (zd_.drewN _ _)⟩
     ·have a1:(c:Int)≥128:=by omega
      have b7:=q_ (show k+1<=9/\F+X<128 ^ (k+1)/\G=finB lo up (lebC s i (k+1) (F+X))\/10<=k+1/\G=none by
       rw[A,zbh K B (by omega),hc]
       by_cases a6:k=9
       ·right
        rw[if_pos a6]
        exact⟨by omega,rfl⟩
       ·left
        have h3:128 ^ (k+1)=128 ^ k*128:=Nat.pow_succ 128 k
        have h2:c % 128*128 ^ k<=127*128 ^ k:=bt_ _ (by omega)
        rw[if_neg a6,Q.o,show c-128=c % 128 by omega,a2_ (128 ^ k)]
        exact⟨by omega,by omega,rfl⟩)
      clear A M hc N
      go_wp2_with (go_at_call 153;refine r.o.mono ?_;rintro e w1 ⟨rfl,h1,a⟩;have g:=z.o w1 (f.o.2.trans a u_);unfold jt_ at g;replace h1:=q_ h1;replace a:=q_ a)
      go_roundg (s.size+1-(i+(k+1)))
      case measure=>omega
      case rel=>
       refine⟨k+1,F+X,rfl,?_,by omega,l_,R,q_ ⟨h1.o,f.o.2.trans a.o u_⟩,b7.o⟩
       congr 1
   ·have g1:=zv3 (x:=(c:Int) % 128) a9;have g2:=zv2 (k:=k)
    have d2:k<=4000:=by omega
    by_cases a2:c % 128=0
    ·have g3:((0:Int) != (c:Int) % 128)=false:=by simp;omega
     have hO:bits .or .u64 (F:Int) 0=(F:Int):=by have:=u64_or_nat F 0 Y (by decide);simpa using this
     by_cases a4:c<128
     ·have a1:¬ (c:Int)≥128:=by omega
      have a0:¬ (c:Int) > 0:=by omega
      have a5:(7*(k:Int)==0)=false:=by simp;omega
      obtain⟨u,hu⟩:∃ u,unfI F=u:=⟨_,rfl⟩;have y:=λ (w:World)=>zg0 (w:=w) Y;rw[hu] at y;replace y:=q_ y;have p:=q_ A;clear hu A hc a2
      by_cases I:u≥lo
      ·by_cases a3:u<=up
       all_goals
        go_wp2_with (first
         |(go_at_call 153;refine r.o.mono ?_;rintro e w1 ⟨rfl,h1,a⟩;have g:=z.o w1 (f.o.2.trans a u_);unfold jt_ at g;replace h1:=q_ h1;replace a:=q_ a)
         |(go_at_call 167;refine(y.o _).mono ?_;rintro e J ⟨rfl,b⟩;replace b:=b.symm;subst b))
        all_goals first
         |(exfalso;omega)
         |(go_quiet (fail)
           go_wp2_with fail
           try go_ret
           rw[C.o,p.o]
           exact⟨(f.o.2.trans a.o u_).still (zd_.drewN _ _),rfl,_,B,h1.o.still (zd_.drewN _ _)⟩)
      ·go_wp2_with (first
        |(go_at_call 153;refine r.o.mono ?_;rintro e w1 ⟨rfl,h1,a⟩;have g:=z.o w1 (f.o.2.trans a u_);unfold jt_ at g;replace h1:=q_ h1;replace a:=q_ a)
        |(go_at_call 167;refine(y.o _).mono ?_;rintro e J ⟨rfl,b⟩;replace b:=b.symm;subst b))
       all_goals first
        |(exfalso;omega)
        |(go_quiet (fail)
          go_wp2_with fail
          try go_ret
          rw[C.o,p.o]
          exact⟨(f.o.2.trans a.o u_).still (zd_.drewN _ _),rfl,_,B,h1.o.still (zd_.drewN _ _)⟩)
     ·have a1:(c:Int)≥128:=by omega
      have p:=q_ A;clear A hc a2
      go_wp2_with (go_at_call 153;refine r.o.mono ?_;rintro e w1 ⟨rfl,h1,a⟩;have g:=z.o w1 (f.o.2.trans a u_);unfold jt_ at g;replace h1:=q_ h1;replace a:=q_ a)
      go_roundg (s.size+1-(i+(k+1)))
      case measure=>omega
      case rel=>
       refine⟨k+1,F,rfl,?_,by omega,l_,Y,q_ ⟨h1.o,f.o.2.trans a.o u_⟩,.inr ⟨by omega,p.o⟩⟩
       congr 1
    ·have g3:((0:Int) != (c:Int) % 128)=true:=by simp;omega
     have p:=q_ A;clear A hc a2
     go_wp2_with (go_at_call 153;refine r.o.mono ?_;rintro e w1 ⟨rfl,h1,a⟩;have g:=z.o w1 (f.o.2.trans a u_);unfold jt_ at g;replace h1:=q_ h1;replace a:=q_ a)
     go_quiet (fail)
     go_wp2_with fail
     try go_ret
     rw[C.o,p.o];exact⟨(f.o.2.trans a.o u_).still (zd_.drewN _ _),rfl,_,B,h1.o.still (zd_.drewN _ _)⟩
open Go.RowKit
section
variable {w:World} {br:Nat} {sv rv:Value} {s:BA} {i n:Nat} {dt:TypeId} {dx:Value}
theorem zdf (h:RwAt w br sv rv s i n) (hs:s.size<=4000) (u:i<=s.size) (r:∀ W,Fr w W (· = br)->jt_ W dt dx) :
 Calls prog 156 #[.pointer (some ⟨br,0,none⟩)] w (WNum w br sv rv s n dt dx (jw_ s i)):=by
 refine hq_ λ x p=>?_;have a:=zb4 (lo:=0) (up:=9223372036854775807) h hs u r;clear h r
 cases hb:bNum s 0 9223372036854775807 i with
 | none=>
  rw[hb] at a;have g:=q_ (show jw_ s i=none from hb);replace a:=q_ a
  go_in
  go_wp2_with (go_at_call 154;refine a.o.mono ?_;rintro e w1 ⟨b,rfl,f⟩;replace b:=q_ b;replace f:=q_ f)
  try go_ret
  rw[p.o,g.o];exact⟨b.o,rfl,f.o⟩
 | some q=>
  obtain⟨v,j⟩:=q;rw[hb] at a;have g:=q_ (show jw_ s i=some (v,j) from hb);replace a:=q_ a
  go_in
  go_wp2_with (go_at_call 154;refine a.o.mono ?_;rintro e w1 ⟨b,rfl,f⟩;replace b:=q_ b;replace f:=q_ f)
  try go_ret
  rw[p.o,g.o];exact⟨b.o,rfl,f.o⟩
theorem ze6 {m:Nat}(y:m<=4000) (h:RwAt w br sv rv s i n) (hs:s.size<=4000) (u:i<=s.size) (r:∀ W,Fr w W (· = br)->jt_ W dt dx) :
 Calls prog 157 #[.pointer (some ⟨br,0,none⟩),.int .i64 (m:Int)] w (WNum w br sv rv s n dt dx (bNum s 0 ((m:Int)-1) i)):=by
 refine hq_ λ x p=>?_;have a:=zb4 (lo:=0) (up:=(m:Int)-1) h hs u r;clear h r
 cases hb:bNum s 0 ((m:Int)-1) i with
 | none=>
  rw[hb] at a;have g:=q_ hb;replace a:=q_ a;clear hb
  go_in
  go_wp2_with (go_at_call 154;refine a.o.mono ?_;rintro e w1 ⟨b,rfl,f⟩;replace b:=q_ b;replace f:=q_ f)
  try go_ret
  rw[p.o,g.o];exact⟨b.o,rfl,f.o⟩
 | some q=>
  obtain⟨v,j⟩:=q;have hg:=y2_ hb;rw[hb] at a;have g:=q_ hb;replace a:=q_ a;clear hb
  go_in
  go_wp2_with (go_at_call 154;refine a.o.mono ?_;rintro e w1 ⟨b,rfl,f⟩;replace b:=q_ b;replace f:=q_ f)
  try go_ret
  rw[p.o,g.o];exact⟨b.o,rfl,f.o⟩
def WTxt (w:World) (br:Nat) (sv rv:Value) (s:BA) (n:Nat) (dt:TypeId) (dx:Value) (r:Option (BA×Nat)) (e:Ending) (w':World):Prop:=
 Fr w w' (· = br)/\match r with
 | some (tx,j)=>e=.returned (.tuple #[.string tx,.nilIface])/\j<=s.size/\RwAt w' br sv rv s j n
 | none=>e=.returned (.tuple #[.string noB,.iface dt dx])/\∃ j,j<=s.size/\RwAt w' br sv rv s j n
end
theorem zkp {s:BA}{i m:Nat}(b:i+m<=s.size) (hk:k<m):((s.extract i (i+m)).data.toList.getD k 0).toNat=bt s (i+k):=by
 have a:i+k<s.data.toList.length:=by rw[Array.length_toList];show i+k<s.size;omega
 rw[j5_ s (i+k) (by omega)]
 simp[List.getD,ByteArray.data_extract]
 rw[List.getElem?_take_of_lt hk,List.getElem?_drop,an_ a]
 rfl
def z0d (w:World) (br:Nat) (sv rv:Value) (s:BA) (i n m:Nat) (bb:Nat) (q:Nat) (v48:Value) (W:World):Prop:=
 ∃ k:Nat,v48=.int .i64 (k:Int)/\k<=m/\m+1-k<=q/\i+k<=zw_ s i/\H_ (RwAt W br sv rv s (i+m) n/\Fr w W (· = br))/\H_ (∀ q,q<m->W.cell? ⟨bb,q,none⟩=some (.int .u8 (bt s (i+q):Int)))
theorem zd8 {w:World}{br:Nat}{sv rv:Value}{s:BA}{i n:Nat}{dt:TypeId}{dx:Value}{m:Nat}(h:RwAt w br sv rv s i n) (hs:s.size<=4000) (H:i<=s.size) (hm:m<=9223372036854775807) (p:∀ W,Fr w W (· = br)->jt_ W dt dx) :
 Calls prog 159 #[.pointer (some ⟨br,0,none⟩),.int .i64 (m:Int)] w (WTxt w br sv rv s n dt dx (vt_ s i m)):=by
 refine hq_ λ a0 B=>?_;have c2:=h.c2;have c3:=h.c3;have L:=h.thaw 3;have he:=p w (Fr.refl _ _);unfold jt_ at he;have a5:=zdn H
 by_cases a1:s.size<i+m
 ·have r:=q_ (show vt_ s i m=none by unfold vt_;rw[if_neg (by omega)])
  have N:(m:Int) > (s.size:Int)-(i:Int):=by omega
  replace h:=q_ h;replace p:=q_ p
  go_in
  go_wp2_with fail
  go_quiet (fail)
  go_wp2_with fail
  go_quiet (fail)
  go_wp2_with fail
  try go_ret
  rw[B.o,r.o];exact⟨(Fr.refl w (· = br)).still ((zd_.drewN _ _).trans (zd_.drewN _ _)),rfl,i,H,h.o.still ((zd_.drewN _ _).trans (zd_.drewN _ _))⟩
 ·have N:¬ (m:Int) > (s.size:Int)-(i:Int):=by omega
  have a6:m<=4000:=by omega
  have a2:(i:Int)<=(i:Int)+(m:Int):=by omega
  have a3:(i:Int)+(m:Int)<=(s.size:Int):=by omega
  obtain⟨tx,A⟩:∃ tx,s.extract i (i+m)=tx:=⟨_,rfl⟩
  have K:tx.size=m:=by rw[<- A,bb_];omega
  have F:=q_ (show ∀ q,q<m->(tx.data.toList.getD q 0).toNat=bt s (i+q) from λ q y=>by rw[<- A];exact zkp (by omega) y);have U:=λ (W:World)=>Lib.run_convert_string_bytes (P:=prog) W 9 99 5 tx zer zqc underlying5
  have z:=q_ (show ∀ a b,RwAt (Lib.bytesWorld (((w.drewN a).setCell ⟨br,3,none⟩ (.int .i64 ((i:Int)+(m:Int)))).drewN b) 5 tx) br sv rv s (i+m) n/\Fr w (Lib.bytesWorld (((w.drewN a).setCell ⟨br,3,none⟩ (.int .i64 ((i:Int)+(m:Int)))).drewN b) 5 tx) (· = br)/\∀ q,q<m->(Lib.bytesWorld (((w.drewN a).setCell ⟨br,3,none⟩ (.int .i64 ((i:Int)+(m:Int)))).drewN b) 5 tx).cell? ⟨w.heap.size,q,none⟩=some (.int .u8 (bt s (i+q):Int)) from λ a b=>by
   have u:(((w.drewN a).setCell ⟨br,3,none⟩ (.int .i64 ((i:Int)+(m:Int)))).drewN b).heap.size=w.heap.size:=by simp[World.setCell,World.drewN]
   have h1:RwAt (((w.drewN a).setCell ⟨br,3,none⟩ (.int .i64 ((i:Int)+(m:Int)))).drewN b) br sv rv s (i+m) n:=by
    exact((h.still (zd_.drewN w a)).move m).still (zd_.drewN _ b)
   have M:Fr w (((w.drewN a).setCell ⟨br,3,none⟩ (.int .i64 ((i:Int)+(m:Int)))).drewN b) (· = br):=(((Fr.refl w (· = br)).still (zd_.drewN _ _)).setCell _ _ (λ _=>rfl)).still (zd_.drewN _ _)
   generalize ((w.drewN a).setCell ⟨br,3,none⟩ (.int .i64 ((i:Int)+(m:Int)))).drewN b=V at *
   have D:Fr V (Lib.bytesWorld V 5 tx) (λ _=>False):=⟨rfl,rfl,rfl,by rw[Lib.bytesWorld_size];omega,λ k hk _=>Lib.bytesWorld_at_old V _ tx k hk⟩
   refine⟨D.blk h1 id,M.trans D v_,λ q y=>?_⟩
   rw[<- u,Lib.bytesWorld_cell V _ tx q (by omega),F.o q y])
  replace h:=q_ h;replace p:=q_ p;clear he
  go_in
  go_wp2_with fail
  go_quiet (fail)
  go_wp2_with fail
  go_quiet (fail)
  go_wp2_with fail
  go_loopg [9,48] (m+1) (λ q v9 Z W=>z0d w br sv rv s i n m w.heap.size q Z W)
  case atStart=>exact⟨0,rfl,by omega,by omega,jn_ s i,q_ ⟨(z.o _ _).1,(z.o _ _).2.1⟩,q_ (z.o _ _).2.2⟩
  case round=>
   clear z F U;obtain⟨k,rfl,a4,y,C,g,G⟩:=hrel;have J:=q_ A;have a7:=q_ K;clear A K c2 c3 L
   by_cases Q:k=m
   ·subst Q
    have T:¬ (k:Int)<(k:Int):=by omega
    have r:=q_ (show vt_ s i k=some (tx,i+k) by unfold vt_;rw[if_pos C,J.o])
    go_wp2_with fail
    try go_ret
    rw[B.o,r.o];exact⟨g.o.2,by rw[J.o],by omega,g.o.1⟩
   ·have S:k<m:=by omega
    have T:(k:Int)<(m:Int):=by omega
    have hc:=G.o k S;obtain⟨c,f⟩:∃ c,bt s (i+k)=c:=⟨_,rfl⟩;rw[f] at hc
    by_cases I:97<=c/\c<=122
    ·have X:¬ (c:Int)<97:=by omega
     have Y:¬ (c:Int) > 122:=by omega
     have R:i+(k+1)<=zw_ s i:=by
      rw[<- zas C];unfold zw_;rw[za8 (by omega) (by rw[f];exact I)];exact jn_ s (i+k+1)
     replace f:=q_ f
     go_wp2_with fail
     go_roundg (m+1-(k+1))
     case measure=>omega
     case rel=>exact⟨k+1,by simp,by omega,l_,R,g,G⟩
    ·have r:=q_ (show vt_ s i m=none by
      unfold vt_
      rw[if_neg (λ x=>by
       have u:=zas C
       unfold zw_ at u x
       rw[ve_ (by rw[f];exact I)] at u
       omega)])
     have O:=p.o _ g.o.2;unfold jt_ at O;replace f:=q_ f
     by_cases X:(c:Int)<97
     all_goals (try have Y:(c:Int) > 122:=by omega)
     all_goals
      go_wp2_with fail
      go_quiet (fail)
      go_wp2_with fail
      try go_ret
      rw[B.o,r.o];exact⟨g.o.2.still (zd_.drewN _ _),rfl,_,by omega,g.o.1.still (zd_.drewN _ _)⟩
theorem zgz {w:World}{br:Nat}{sv rv:Value}{s:BA}{i n:Nat}{dt:TypeId}{dx:Value}(h:RwAt w br sv rv s i n) (hs:s.size<=4000) (B:i<=s.size) (u:∀ W,Fr w W (· = br)->jt_ W dt dx) :
 Calls prog 155 #[.pointer (some ⟨br,0,none⟩)] w (WTxt w br sv rv s n dt dx (x1_ s i)):=by
 refine hq_ λ F y=>?_;have g:=zdf h hs B u;replace u:=q_ u;clear h
 cases hb:jw_ s i with
 | none=>
  rw[hb] at g;have f:=q_ (show x1_ s i=none by unfold x1_;rw[hb]);replace g:=q_ g;clear hb
  go_in
  go_wp2_with (go_at_call 156;refine g.o.mono ?_;rintro e w1 ⟨a,rfl,b⟩;replace a:=q_ a;replace b:=q_ b)
  try go_ret
  rw[y.o,f.o];exact⟨a.o,rfl,b.o⟩
 | some q=>
  obtain⟨v,j⟩:=q;have hg:=y2_ hb;obtain⟨m,rfl⟩:∃ m:Nat,v=(m:Int):=⟨v.toNat,by omega⟩;rw[hb] at g
  have f:x1_ s i=vt_ s j m:=by unfold x1_;rw[hb];simp only[bm_]
  have p:=λ (W:World) (h:RwAt W br sv rv s j n) (A:Fr w W (· = br))=>zd8 (m:=m) (dt:=dt) (dx:=dx) h hs hg.2.1 (by omega) (λ V z=>u.o V (A.trans z u_));replace g:=q_ g;clear hb
  cases x:vt_ s j m with
  | none=>
   rw[x] at p f;replace p:=q_ p;replace f:=q_ f;clear x
   go_in
   go_wp2_with (first
    |(go_at_call 156;refine g.o.mono ?_;rintro e w1 ⟨a,rfl,C,h1⟩;replace a:=q_ a;replace h1:=q_ h1)
    |(go_at_call 159;refine(p.o _ h1.o a.o).mono ?_;rintro e D ⟨r,rfl,b⟩;replace r:=q_ r;replace b:=q_ b))
   try go_ret
   rw[y.o,f.o];exact⟨a.o.trans r.o u_,rfl,b.o⟩
  | some q=>
   obtain⟨tx,G⟩:=q;rw[x] at p f;replace p:=q_ p;replace f:=q_ f;clear x
   go_in
   go_wp2_with (first
    |(go_at_call 156;refine g.o.mono ?_;rintro e w1 ⟨a,rfl,C,h1⟩;replace a:=q_ a;replace h1:=q_ h1)
    |(go_at_call 159;refine(p.o _ h1.o a.o).mono ?_;rintro e D ⟨r,rfl,b⟩;replace r:=q_ r;replace b:=q_ b))
   try go_ret
   rw[y.o,f.o];exact⟨a.o.trans r.o u_,rfl,b.o⟩
open Go.RowKit
structure WErr where
 dt:TypeId
 dx:Value
 bt:TypeId
 bx:Value
def WErr.t (E:WErr) (e:Nat):TypeId:=if e=7 then E.bt else E.dt
def WErr.x (E:WErr) (e:Nat):Value:=if e=7 then E.bx else E.dx
structure YC (w0:World) (P:Nat->Prop) (ss:BA) (ds:List PD) (sv rv:Value) (xs:List Value) (s:BA) (E:WErr) (br i n:Nat) (W:World):Prop where
 R:RwAt W br sv rv s i n
 D:DRow W P ss ds sv xs
 G:xd_ w0 W
 E1:ErrV 4 w0 E.dt E.dx
 E2:ErrV 5 w0 E.bt E.bx
 Pbr:∀ g,P g->g<br
 brG:w0.heap.size<=br
 hs:s.size<=4000
 il:i<=s.size
section
variable {w0 W W':World} {P:Nat->Prop} {ss:BA} {ds:List PD} {sv rv:Value} {xs:List Value} {s:BA} {E:WErr} {br i n i' n':Nat}
theorem YC.brP (M:YC w0 P ss ds sv rv xs s E br i n W):¬ P br:=λ h=>Nat.lt_irrefl _ (M.Pbr br h)
theorem YC.lt (M:YC w0 P ss ds sv rv xs s E br i n W):br<W.heap.size:=Blk.lt M.R
theorem YC.call (M:YC w0 P ss ds sv rv xs s E br i n W) (h:RwAt W' br sv rv s i' n') (a:Fr W W' (· = br)) (b:i'<=s.size):YC w0 P ss ds sv rv xs s E br i' n' W':=by
 have h1:=M.lt;have f:=M.brG;exact⟨h,M.D.fr a (λ g hg e=>M.brP (e▸hg)),M.G.fr a (by omega) (λ g e=>e▸M.brG),M.E1,M.E2,M.Pbr,M.brG,M.hs,b⟩
theorem YC.new (M:YC w0 P ss ds sv rv xs s E br i n W) (a:Fr W W' (λ _=>False)):YC w0 P ss ds sv rv xs s E br i n W':=M.call (a.blk M.R id) (a.mono v_) M.il
theorem YC.still (M:YC w0 P ss ds sv rv xs s E br i n W) (a:zd_ W W'):YC w0 P ss ds sv rv xs s E br i n W':=M.new ((Fr.refl W _).still a)
theorem YC.err (M:YC w0 P ss ds sv rv xs s E br i n W):∀ V,Fr W V (· = br)->jt_ V E.dt E.dx:=λ V a=>by
 have h1:=M.lt;have b:=M.brG;exact(M.G.fr a (by omega) (λ g e=>e▸M.brG)).err M.E1
theorem YC.big (M:YC w0 P ss ds sv rv xs s E br i n W):W.cell? ⟨5,0,none⟩=some (.iface E.bt E.bx):=M.G.err M.E2
end
def yv_ (env:Nat->Option PB) (t:PT) (w:World) (sv rv:Value) (s:BA) (E:WErr) (br:Nat) (res:Except Nat (DT×Nat×Nat)) (e:Ending) (w':World):Prop:=
 ∃ v ev,e=.returned (.tuple #[v,ev])/\Fr w w' (· = br)/\
 match res with
 | .ok (d,j,m)=>ev=.nilIface/\DaV env w' (λ g=>w.heap.size<=g) d t v/\RwAt w' br sv rv s j m/\j<=s.size
 | .error e0=>v=.nilIface/\ErrD w' w.heap.size (E.t e0) (E.x e0) ev/\∃ j m,RwAt w' br sv rv s j m/\j<=s.size
section
variable {env:Nat->Option PB} {t:PT} {w w1 w' W:World} {sv rv:Value} {s:BA} {E:WErr} {br j m:Nat} {d:DT} {v:Value} {res:Except Nat (DT×Nat×Nat)} {e:Ending}
theorem yok (h:DaV env w' (λ g=>w.heap.size<=g) d t v) (b:Fr w w' (· = br)) (a:RwAt w' br sv rv s j m) (f:j<=s.size):yv_ env t w sv rv s E br (.ok (d,j,m)) (.returned (.tuple #[v,.nilIface])) w':=⟨v,_,rfl,b,rfl,h,a,f⟩
theorem ybad (b:Fr w w' (· = br)) (a:∃ j m,RwAt w' br sv rv s j m/\j<=s.size):yv_ env t w sv rv s E br (.error 6) (.returned (.tuple #[.nilIface,.iface E.dt E.dx])) w':=⟨_,_,rfl,b,rfl,.base,a⟩
theorem yv_.pre (b:Fr w w1 (λ _=>False)) (h:yv_ env t w1 sv rv s E br res e w'):yv_ env t w sv rv s E br res e w':=by
 obtain⟨v,f,he,o,a⟩:=h;have p:=b.size;refine⟨v,f,he,(b.mono v_).trans o u_,?_⟩
 cases res with
 | error e0=>exact⟨a.1,a.2.1.less p,a.2.2⟩
 | ok q=>
  obtain⟨d,j,m⟩:=q;exact⟨a.1,a.2.1.mono (λ g _ hg=>by omega),a.2.2⟩
end
def DatY (w0:World) (P:Nat->Prop) (ss:BA) (ds:List PD) (sv rv:Value) (xs:List Value) (s:BA) (E:WErr) (br f:Nat) (t:PT) (i n:Nat):Prop:=
 ∀ (w:World) (v:Value),YC w0 P ss ds sv rv xs s E br i n w->n<=300->TyV w P t v->
  Calls prog 66 #[.pointer (some ⟨br,0,none⟩),v] w (yv_ (zc_ ds) t w sv rv s E br (rdB s (zc_ ds) f t i n))
section
variable {w0 w:World} {P:Nat->Prop} {ss:BA} {ds:List PD} {sv rv:Value} {xs:List Value} {s:BA} {E:WErr} {br i n:Nat} {env:Nat->Option PB} {t:PT}
theorem zn7 (M:YC w0 P ss ds sv rv xs s E br i n w) :
 Calls prog 125 #[.pointer (some ⟨br,0,none⟩)] w (yv_ env t w sv rv s E br (if i<s.size/\bt s i<=1 then .ok (.mk 116 (bt s i:Int) noB [] [],i+1,n) else .error 6)):=by
 refine hq_ λ A b=>?_;have y:=M.il;have z:=M.hs
 by_cases hl:i=s.size
 ·have f:=q_ (zm0 M.R hl (M.err w (Fr.refl _ _)));rw[if_neg (by omega)] at b;clear M hl
  go_in
  go_wp2_with (go_at_call 153;refine f.o.mono ?_;rintro e w1 ⟨rfl,h1,a⟩;replace h1:=q_ h1;replace a:=q_ a)
  try go_ret
  rw[b.o];exact ybad a.o ⟨i,n,h1.o,y⟩
 ·have g:i<s.size:=by omega
  have f:=zi6 M.R z g;obtain⟨c,hc⟩:∃ c,bt s i=c:=⟨_,rfl⟩;rw[hc] at f b;have p:=q_ M.err;replace f:=q_ f;clear M hc
  by_cases h:c<=1
  ·have q:¬ (c:Int) > 1:=by omega
   rw[if_pos ⟨g,h⟩] at b
   have r:c=0\/c=1:=by omega
   rcases r with rfl|rfl
   all_goals
    go_in
    go_wp2_with (go_at_call 153;refine f.o.mono ?_;rintro e w1 ⟨rfl,h1,a⟩;replace h1:=q_ h1;replace a:=q_ a)
    try go_ret
    rw[b.o]
   ·exact yok (DaV.plain (.truth false) (by decide)) a.o h1.o g
   ·exact yok (DaV.plain (.truth true) (by decide)) a.o h1.o g
  ·have q:(c:Int) > 1:=by omega
   rw[if_neg (λ x=>h x.2)] at b
   go_in
   go_wp2_with (go_at_call 153;refine f.o.mono ?_;rintro e w1 ⟨rfl,h1,a⟩;have u:=p.o w1 a;unfold jt_ at u;replace h1:=q_ h1;replace a:=q_ a)
   go_quiet (fail)
   go_wp2_with fail
   try go_ret
   rw[b.o];exact ybad (a.o.still (zd_.drewN _ _)) ⟨_,n,h1.o.still (zd_.drewN _ _),g⟩
theorem zd7 {lo up:Int}(hc:c=105\/c=108) (M:YC w0 P ss ds sv rv xs s E br i n w) :
 Calls prog 126 #[.pointer (some ⟨br,0,none⟩),.int .i64 lo,.int .i64 up] w (yv_ env t w sv rv s E br (match bNum s lo up i with|none=>.error 6|some (q,j)=>.ok (.mk c q noB [] [],j,n))):=by
 refine hq_ λ h f=>?_;have a:=zb4 (lo:=lo) (up:=up) M.R M.hs M.il M.err;clear M
 cases hb:bNum s lo up i with
 | none=>
  rw[hb] at a f;replace a:=q_ a;clear hb
  go_in
  go_wp2_with (go_at_call 154;refine a.o.mono ?_;rintro e w1 ⟨b,rfl,j,g,h1⟩;replace b:=q_ b;replace h1:=q_ h1)
  try go_ret
  rw[f.o];exact ybad b.o ⟨j,n,h1.o,g⟩
 | some q=>
  obtain⟨v,j⟩:=q;have hg:=y2_ hb;rw[hb] at a f;replace a:=q_ a;clear hb
  go_in
  go_wp2_with (go_at_call 154;refine a.o.mono ?_;rintro e w1 ⟨b,rfl,g,h1⟩;replace b:=q_ b;replace h1:=q_ h1)
  try go_ret
  rw[f.o];exact yok (DaV.plain (.num c v hc hg.2.2.2.2.1 hg.2.2.2.2.2) (by decide)) b.o h1.o g
theorem zp0 (M:YC w0 P ss ds sv rv xs s E br i n w) :
 Calls prog 127 #[.pointer (some ⟨br,0,none⟩)] w (yv_ env t w sv rv s E br (match x1_ s i with|none=>.error 6|some (tx,j)=>.ok (.mk 115 0 tx [] [],j,n))):=by
 refine hq_ λ h f=>?_;have a:=zgz M.R M.hs M.il M.err;have p:=M.hs;clear M
 cases hb:x1_ s i with
 | none=>
  rw[hb] at a f;replace a:=q_ a;clear hb
  go_in
  go_wp2_with (go_at_call 155;refine a.o.mono ?_;rintro e w1 ⟨b,rfl,j,g,h1⟩;replace b:=q_ b;replace h1:=q_ h1)
  try go_ret
  rw[f.o];exact ybad b.o ⟨j,n,h1.o,g⟩
 | some q=>
  obtain⟨tx,j⟩:=q;have hg:=zav hb;rw[hb] at a f;replace a:=q_ a;clear hb
  go_in
  go_wp2_with (go_at_call 155;refine a.o.mono ?_;rintro e w1 ⟨b,rfl,g,h1⟩;replace b:=q_ b;replace h1:=q_ h1)
  try go_ret
  rw[f.o];exact yok (DaV.plain (.text tx (by omega)) (by decide)) b.o h1.o g
end
open Go.RowKit
structure YL (w0:World) (P:Nat->Prop) (ss:BA) (ds:List PD) (sv rv:Value) (xs:List Value) (s:BA) (E:WErr) (br j nn:Nat) (cx:List Value) (ct:TypeId) (t:PT) (w:World) (lv:Value) (l:List DT) (W:World):Prop where
 M:YC w0 P ss ds sv rv xs s E br j nn W
 fr:Fr w W (· = br)
 bx:Blk W w.heap.size cx ct
 bB:w.heap.size+1<=W.heap.size
 lt:br<w.heap.size
 row:RowT (zc_ ds) W (w.heap.size+1) (λ g=>w.heap.size+1<=g/\lv.ownBlock≠some g) t lv l
section
variable {w0 w W W':World} {P:Nat->Prop} {ss:BA} {ds:List PD} {sv rv:Value} {xs:List Value} {s:BA} {E:WErr} {br i n j nn j' nn':Nat} {cx:List Value} {ct:TypeId} {t:PT} {lv:Value} {l:List DT}
theorem YL.call (Q:YL w0 P ss ds sv rv xs s E br j nn cx ct t w lv l W) (h:RwAt W' br sv rv s j' nn') (b:Fr W W' (· = br)) (o:j'<=s.size):YL w0 P ss ds sv rv xs s E br j' nn' cx ct t w lv l W':=by
 have h1:=Q.lt;have f:=Q.bB;refine⟨Q.M.call h b o,Q.fr.trans b u_,b.blk Q.bx (by omega),ai_ f b.size,h1,Q.row.fr b (λ g hg=>by omega) (λ g hg=>?_)⟩;obtain⟨Y,a,_⟩:=Q.row;have:=a.lt g hg;omega
theorem YL.item (Q:YL w0 P ss ds sv rv xs s E br j nn cx ct t w lv l W){o:Obj}{h:World}{p v:Value}{d:DT}{Y:Nat->Value}(u:∀ i d,l[i]?=some d->DaV (zc_ ds) W (λ g=>w.heap.size+1<=g/\lv.ownBlock≠some g) d (xl_ (zc_ ds) t 0 i) (Y i)) (hd:DaV (zc_ ds) W (λ g=>w.heap.size+1<=g/\lv.ownBlock≠some g) d (xl_ (zc_ ds) t 0 l.length) v)
 (hg:(W.alloc o).grownBy h lv.ownBlock) (ho:h.ownsRow (w.heap.size+1) 89 1 p (l.length+1) (((List.range l.length).flatMap λ i=>[Y i])++[v])) (hl:p.ownBlock=lv.ownBlock\/p.ownBlock=some (W.alloc o).heap.size):YL w0 P ss ds sv rv xs s E br j nn cx ct t w p (l++[d]) h:=by
 have h1:=Q.lt;have q:=Q.bB
 have z:(W.alloc o).heap.size=W.heap.size+1:=by simp
 obtain⟨y,a,_⟩:=Q.row;have b:Fr W h (λ g=>lv.ownBlock=some g):=((Fr.refl W _).alloc o).grown hg (λ k e _=>e);have f:∀ g,lv.ownBlock=some g->w.heap.size+1<=g:=λ g e=>(a.lt g e).1
 have r:YC w0 P ss ds sv rv xs s E br j nn h:=by
  have hb:=Q.M.brG;exact⟨b.blk Q.M.R (λ e=>by have:=f _ e;omega),Q.M.D.fr b (λ g hg e=>by have:=f _ e;have:=Q.M.Pbr g hg;omega),Q.M.G.fr b (by omega) (λ g e=>by have:=f _ e;omega),Q.M.E1,Q.M.E2,Q.M.Pbr,Q.M.brG,Q.M.hs,Q.M.il⟩
 refine⟨r,Q.fr.trans b (λ x A e=>absurd (f x e) (by omega)),b.blk Q.bx (λ e=>by have:=f _ e;omega),ai_ q b.size,h1,RowT.grow u hd (b.mono (λ g _ e=>.inl e)) (c:=br) (by omega) ?_ ho⟩
 rcases hl with e|e
 ·exact .inl e
 ·exact .inr ⟨_,e,by omega⟩
end
def zzh (R_:Except Nat (List (BA×DT)×Nat×Nat)) (R:Nat->Nat->Except Nat (DT×Nat×Nat)) (cnt n:Nat) (w0:World) (P:Nat->Prop) (ss:BA) (ds:List PD) (sv rv:Value) (xs:List Value) (s:BA) (E:WErr) (br:Nat) (cx:List Value) (ct:TypeId) (t:PT) (w:World) (q:Nat) (v8 v20:Value) (W:World):Prop:=
 ∃ (acc:List (BA×DT)) (j nn:Nat),v20=.int .i64 (acc.length:Int)/\acc.length<=cnt/\n+acc.length<=nn/\nn<=300/\302<=q+nn/\H_ (YL w0 P ss ds sv rv xs s E br j nn cx ct t w v8 (acc.map Prod.snd) W)/\R_=zb2 acc (xk_ R s false (cnt-acc.length) (jc_ acc) j nn)
section
variable {w0 w:World} {P:Nat->Prop} {ss:BA} {ds:List PD} {sv rv:Value} {xs:List Value} {s:BA} {E:WErr} {br i n:Nat}
theorem zp1 {u:PT}{p f:Nat}{pt:Int}{H:TypeId}{I:Value}(hI:xr_ w0) (M:YC w0 P ss ds sv rv xs s E br i n w) (hn:n<=300) (hT:TyV w P u (.iface H I)) (hR:∀ j nn,n<=nn->nn<=300->j<=s.size->DatY w0 P ss ds sv rv xs s E br f u j nn) :
 Calls prog 128 #[.pointer (some ⟨br,0,none⟩),.agg #[.int .i64 pt,.iface H I]] w (yv_ (zc_ ds) (.wrap 91 p u) w sv rv s E br (zce (rdB s (zc_ ds) f u) s 91 i n)):=by
 refine hq_ λ f4 C=>?_;rw[zip] at C;have g4:=M.hs;have d6:=M.lt;have A:Fr w (w.alloc (.cells #[.int .i64 pt,.iface H I] 205)) (λ _=>False):=(Fr.refl w _).alloc _;have F:=M.new A;have V:=Blk.new w #[.int .i64 pt,.iface H I] 205;have h:=zdf F.R F.hs F.il F.err;have e9:=M.brP;replace hT:=q_ hT;replace hR:=q_ hR
 cases hb:jw_ s i with
 | none=>
  rw[hb] at h C;replace h:=q_ h;replace A:=q_ A;clear M F V hb
  go_in
  go_wp2_with (go_at_call 156;refine h.o.mono ?_;rintro e w1 ⟨r,rfl,j,hj,h1⟩;replace r:=q_ r;replace h1:=q_ h1)
  try go_ret
  rw[C.o];exact ybad ((A.o.mono v_).trans r.o u_) ⟨j,n,h1.o,hj⟩
 | some q=>
  obtain⟨v,j0⟩:=q;have hg:=y2_ hb;obtain⟨y,rfl⟩:∃ m:Nat,v=(m:Int):=⟨v.toNat,by omega⟩;rw[hb] at h C;simp only[bm_] at C;obtain⟨Z,S⟩:∃ f2,f2=xk_ (rdB s (zc_ ds) f u) s false y none j0 n:=⟨_,rfl⟩;rw[show((91:Nat)==123)=false from rfl,<- S] at C;have b6:H_ (∀ w1,RwAt w1 br sv rv s j0 n->Fr (w.alloc (.cells #[.int .i64 pt,.iface H I] 205)) w1 (· = br)->zzh Z (rdB s (zc_ ds) f u) y n w0 P ss ds sv rv xs s E br [.int .i64 pt,.iface H I] 205 (.wrap 91 p u) w 302 (.slice none 0 0) (.int .i64 0) w1):=q_ (λ w1 h1 L=>⟨[],j0,n,rfl,by simp,by simp,hn,by omega,q_ ⟨F.call h1 L hg.2.1,(A.mono v_).trans L u_,L.blk V (by omega),by have:=L.size;simp at this;omega,d6,RowT.nil _ _ _ _ _⟩,by rw[zd3,S];rfl⟩);replace h:=q_ h;replace S:=q_ S;have f9:(y:Int)<=9223372036854775807:=hg.2.2.2.1;clear M F V A hb
  go_in
  go_wp2_with (go_at_call 156;refine h.o.mono ?_;rintro e w1 ⟨r,rfl,hj,h1⟩;have b5:=q_ (b6.o w1 h1 r);clear r h1)
  go_loopg [8,9,10,20] 302 (λ q v8 v9 g7 f3 W=>zzh Z (rdB s (zc_ ds) f u) y n w0 P ss ds sv rv xs s E br [.int .i64 pt,.iface H I] 205 (.wrap 91 p u) w q v8 f3 W)
  case atStart=>exact b5.o
  case round=>
   clear b6 b5 h;obtain⟨b,j,nn,rfl,g1,g3,a2,hq,x,z⟩:=hrel;obtain⟨Y,B,J⟩:=x.o.row;obtain⟨la,lc,rfl⟩:=zo_ B
   have a1:(b.map Prod.snd).length=b.length:=by simp
   rw[a1] at B x J
   by_cases d8:b.length=y
   ·have e7:¬ (b.length:Int)<(y:Int):=by omega
    have hr:=q_ (show Z=.ok (b,j,nn) by rw[z,show y-b.length=0 by omega];simp[xk_,zb2]);have a6:=q_ x.o.row;clear z B J a1 d8
    go_wp2_with fail
    try go_ret
    rw[C.o,hr.o];refine yok ?_ x.o.fr x.o.M.R x.o.M.il;exact a6.o.dat (λ g _ hg=>by omega) (λ g e=>by have:=a6.o;obtain⟨_,a,_⟩:=this;have:=(a.lt g e).1;show w.heap.size<=g;omega) (.inl ⟨rfl,rfl⟩)
   ·have e7:(b.length:Int)<(y:Int):=by omega
    obtain⟨cn,d7⟩:∃ cn,y-b.length=cn+1:=⟨y-b.length-1,by omega⟩;rw[d7,zch] at z
    have e6:bKey s false (jc_ b) j=some (noB,j):=by simp[bKey]
    rw[e6] at z;simp only[zkg] at z;have f8:=x.o.bx.c1;have h:=hR.o j nn (by omega) a2 x.o.M.il wr _ x.o.M a2 (hT.o.fr x.o.fr (λ g hg e=>e9 (e▸hg)));have f7:=x.o.bB
    cases a4:rdB s (zc_ ds) f u j nn with
    | error e0=>
     rw[a4] at z h;have hr:=q_ z;replace h:=q_ h
     have d1:b.length<=300:=by omega
     clear B J z
     go_wp2_with (first
      |(go_at_call 66;refine h.o.mono ?_;rintro e w1 ⟨v1,b7,rfl,r,a5,O,D⟩;subst a5;obtain⟨eT,ex,rfl⟩:=O.iface;have d0:=((x.o.M.call D.choose_spec.choose_spec.1 r D.choose_spec.choose_spec.2)).G;replace O:=q_ O;replace r:=q_ r;replace D:=q_ D)
      |(go_at_call 145;refine(zg7 hI d0 (by omega)).mono ?_;rintro e w2 a7;have b9:=q_ (λ v (he:e=.returned v)=>O.o.wrap a7 (by have:=r.o.size;omega) he);obtain⟨g2,g6,rfl,g0,a8,T⟩:=a7;replace T:=q_ T;replace a8:=q_ a8))
     try go_ret
     rw[C.o,hr.o];refine⟨_,_,rfl,(x.o.fr.trans r.o u_).trans (T.o.mono v_) u_,rfl,(b9.o _ rfl).less (by omega),?_⟩;obtain⟨U,K,h1,h2⟩:=D.o;exact⟨U,K,T.o.blk h1 id,h2⟩
    | ok q=>
     obtain⟨d,U,K⟩:=q;rw[a4] at z h;have d9:=j0_ s (zc_ ds) f u j nn d U K x.o.M.il a2 a4;have f0:=q_ z;replace h:=q_ h;replace J:=q_ J;replace B:=q_ B
     have d1:b.length<=300:=by omega
     obtain⟨ti,e1,e2,e3,e4⟩:=info_parts zez;clear z
     go_wp2_with (first
      |(go_at_call 66;refine h.o.mono ?_;rintro e w1 ⟨v1,b7,rfl,r,a5,a0,D,e5⟩;subst a5;obtain⟨dT,dx,rfl⟩:=a0.iface;have N:=x.o.call D r e5;have f6:=N.bB;have f1:=q_ (za_ B.o r (λ g hg e=>by have:=B.o.lt g hg;omega));have b8:=q_ (a0.mono (Q:=λ g=>w.heap.size+1<=g/\(Value.slice la b.length lc).ownBlock≠some g) (λ g _ hg=>⟨by omega,λ e=>by have:=B.o.lt g e;omega⟩));have d2:=q_ (λ i d (e:(b.map Prod.snd)[i]?=some d)=>(J.o i d e).fr r (λ g hg e=>by have:=hg.1;omega));replace N:=q_ N;clear a0 D)
      |(at_builtin;go_must (refine wpList_append_own_at _ rfl _ _ 156 rfl (w.heap.size+1) 89 ti _ 1 16 zqd e1 e2 e3 e4 rfl (by decide) (.slice la b.length lc) b.length ((List.range b.length).flatMap λ i=>[Y i]) rfl ?hown _ 1 1 [.iface dT dx] rfl rfl (z7_ _ #[.iface dT dx] _ _ ?nn) ?one ?b1 ?b2 ?b3 ?_)
        case hown=>exact World.ownsRow.alloc f1.o _
        case nn=>simp
        case one=>simp[Value.oneCell']
        case b1=>unfold maxLen;omega
        case b2=>omega
        case b3=>simp;omega
        intro v5 w5 a3 a9 e8 b4
        have X:=N.o.item d2.o b8.o a9 (by rw[a1];exact a3) b4
        obtain⟨g5,f5,rfl⟩:=zh_ a3 (by omega)
        clear a9 b4 e8 a3
        replace X:=q_ X))
     go_roundg (302-K)
     case measure=>omega
     case rel=>
      refine⟨b++[(noB,d)],U,K,by simp,by simp;omega,by simp;omega,d9.2.2.2,by omega,q_ (by rw[be_];exact X.o),?_⟩;rw[f0.o,ah_,am_,show y-(b.length+1)=cn by omega]
      have:jc_ (b++[(noB,d)])=some noB:=by simp[jc_]
      rw[this]
end
open Go.RowKit
structure YM (w0:World) (P:Nat->Prop) (ss:BA) (ds:List PD) (sv rv:Value) (xs:List Value) (s:BA) (E:WErr) (br j nn:Nat) (cx:List Value) (ct:TypeId) (t:PT) (w:World) (lv:Value) (l:List (BA×DT)) (W:World):Prop where
 M:YC w0 P ss ds sv rv xs s E br j nn W
 fr:Fr w W (· = br)
 bx:Blk W w.heap.size cx ct
 bB:w.heap.size+1<=W.heap.size
 lt:br<w.heap.size
 row:∃ ys,W.ownsRow (w.heap.size+1) 160 2 lv l.length ys/\zvu (zen l) l.length ys/\RowE (zc_ ds) W (λ g=>w.heap.size+1<=g/\lv.ownBlock≠some g) t l ys
section
variable {w0 w W W':World} {P:Nat->Prop} {ss:BA} {ds:List PD} {sv rv:Value} {xs:List Value} {s:BA} {E:WErr} {br i n j nn j' nn':Nat} {cx:List Value} {ct:TypeId} {t:PT} {lv:Value} {l:List (BA×DT)}
theorem YM.call (Q:YM w0 P ss ds sv rv xs s E br j nn cx ct t w lv l W) (h:RwAt W' br sv rv s j' nn') (f:Fr W W' (· = br)) (p:j'<=s.size):YM w0 P ss ds sv rv xs s E br j' nn' cx ct t w lv l W':=by
 have h1:=Q.lt;have o:=Q.bB;obtain⟨ys,a,b,c⟩:=Q.row;exact⟨Q.M.call h f p,Q.fr.trans f u_,f.blk Q.bx (by omega),ai_ o f.size,h1,ys,za_ a f (λ g hg e=>by have:=a.lt g hg;omega),b,c.fr f (λ g hg e=>by omega)⟩
theorem YM.item (Q:YM w0 P ss ds sv rv xs s E br j nn cx ct t w lv l W){o:Obj}{f:World}{h v:Value}{d:DT}{key:BA}{ys:List Value}(p:W.ownsRow (w.heap.size+1) 160 2 lv l.length ys) (u:RowE (zc_ ds) W (λ g=>w.heap.size+1<=g/\lv.ownBlock≠some g) t l ys) (hk:key.size<=4000) (hd:DaV (zc_ ds) W (λ g=>w.heap.size+1<=g/\lv.ownBlock≠some g) d (xl_ (zc_ ds) t 0 l.length) v)
 (hg:(W.alloc o).grownBy f lv.ownBlock) (ho:f.ownsRow (w.heap.size+1) 160 2 h (l.length+1) (ys++[.string key,v])) (hl:h.ownBlock=lv.ownBlock\/h.ownBlock=some (W.alloc o).heap.size):YM w0 P ss ds sv rv xs s E br j nn cx ct t w h (l++[(key,d)]) f:=by
 have h1:=Q.lt;have q:=Q.bB
 have y:(W.alloc o).heap.size=W.heap.size+1:=by simp
 have a:Fr W f (λ g=>lv.ownBlock=some g):=((Fr.refl W _).alloc o).grown hg (λ k e _=>e);have b:∀ g,lv.ownBlock=some g->w.heap.size+1<=g:=λ g e=>(p.lt g e).1
 have r:YC w0 P ss ds sv rv xs s E br j nn f:=by
  have hb:=Q.M.brG;exact⟨a.blk Q.M.R (λ e=>by have:=b _ e;omega),Q.M.D.fr a (λ g hg e=>by have:=b _ e;have:=Q.M.Pbr g hg;omega),Q.M.G.fr a (by omega) (λ g e=>by have:=b _ e;omega),Q.M.E1,Q.M.E2,Q.M.Pbr,Q.M.brG,Q.M.hs,Q.M.il⟩
 have A:=p.1;refine⟨r,Q.fr.trans a (λ x z e=>absurd (b x e) (by omega)),a.blk Q.bx (λ e=>by have:=b _ e;omega),ai_ q a.size,h1,_,by rw[ah_,am_];exact ho,?_,RowE.grow u hd hk (a.mono (λ g _ e=>.inl e)) (c:=br) (by omega) ?_⟩
 ·rw[jg_,ah_,am_];exact⟨l.length,rfl,by rw[ar_ (by omega),show l.length*2-ys.length=0 by omega];rfl⟩
 ·rcases hl with e|e
  ·exact .inl e
  ·exact .inr ⟨_,e,by omega⟩
end
def zzg (R_:Except Nat (List (BA×DT)×Nat×Nat)) (R:Nat->Nat->Except Nat (DT×Nat×Nat)) (cnt n:Nat) (w0:World) (P:Nat->Prop) (ss:BA) (ds:List PD) (sv rv:Value) (xs:List Value) (s:BA) (E:WErr) (br:Nat) (cx:List Value) (ct:TypeId) (t:PT) (w:World) (q:Nat) (v8 v21:Value) (W:World):Prop:=
 ∃ (acc:List (BA×DT)) (j nn:Nat),v21=.int .i64 (acc.length:Int)/\acc.length<=cnt/\n+acc.length<=nn/\nn<=300/\302<=q+nn/\H_ (YM w0 P ss ds sv rv xs s E br j nn cx ct t w v8 acc W)/\R_=zb2 acc (xk_ R s true (cnt-acc.length) (zen acc) j nn)
section
variable {w0 w:World} {P:Nat->Prop} {ss:BA} {ds:List PD} {sv rv:Value} {xs:List Value} {s:BA} {E:WErr} {br i n:Nat}
theorem zs5 {u:PT}{p f:Nat}{pt:Int}{vT:TypeId}{vx:Value}(hI:xs_ w0) (M:YC w0 P ss ds sv rv xs s E br i n w) (hn:n<=300) (hT:TyV w P u (.iface vT vx)) (hR:∀ j nn,n<=nn->nn<=300->j<=s.size->DatY w0 P ss ds sv rv xs s E br f u j nn) :
 Calls prog 129 #[.pointer (some ⟨br,0,none⟩),.agg #[.int .i64 pt,.iface vT vx]] w (yv_ (zc_ ds) (.wrap 123 p u) w sv rv s E br (zce (rdB s (zc_ ds) f u) s 123 i n)):=by
 refine hq_ λ h8 H=>?_;rw[zip] at H;have i8:=M.hs;have g2:=M.lt;have A:Fr w (w.alloc (.cells #[.int .i64 pt,.iface vT vx] 206)) (λ _=>False):=(Fr.refl w _).alloc _;have V:=M.new A;have B0:=Blk.new w #[.int .i64 pt,.iface vT vx] 206;have z:=zdf V.R V.hs V.il V.err;have d1:=M.brP;replace hT:=q_ hT;replace hR:=q_ hR
 cases hb:jw_ s i with
 | none=>
  rw[hb] at z H;replace z:=q_ z;replace A:=q_ A;clear M V B0 hb
  go_in
  go_wp2_with (go_at_call 156;refine z.o.mono ?_;rintro e w1 ⟨a,rfl,j,hj,h1⟩;replace a:=q_ a;replace h1:=q_ h1)
  try go_ret
  rw[H.o];exact ybad ((A.o.mono v_).trans a.o u_) ⟨j,n,h1.o,hj⟩
 | some q=>
  obtain⟨v,j0⟩:=q;have hg:=y2_ hb;obtain⟨C,rfl⟩:∃ m:Nat,v=(m:Int):=⟨v.toNat,by omega⟩;rw[hb] at z H;simp only[bm_] at H;obtain⟨R_,b9⟩:∃ h5,h5=xk_ (rdB s (zc_ ds) f u) s true C none j0 n:=⟨_,rfl⟩;rw[show((123:Nat)==123)=true from rfl,<- b9] at H;have f7:H_ (∀ w1,RwAt w1 br sv rv s j0 n->Fr (w.alloc (.cells #[.int .i64 pt,.iface vT vx] 206)) w1 (· = br)->zzg R_ (rdB s (zc_ ds) f u) C n w0 P ss ds sv rv xs s E br [.int .i64 pt,.iface vT vx] 206 (.wrap 123 p u) w 302 (.slice none 0 0) (.int .i64 0) w1):=q_ (λ w1 h1 F1=>⟨[],j0,n,rfl,by simp,by simp,hn,by omega,q_ ⟨V.call h1 F1 hg.2.1,(A.mono v_).trans F1 u_,F1.blk B0 (by omega),by have:=F1.size;simp at this;omega,g2,[],World.ownsRow_nil _ _ _ _,rfl,RowE.nil _ _ _ _⟩,by rw[zd3,b9];rfl⟩);replace z:=q_ z;replace b9:=q_ b9;have i2:(C:Int)<=9223372036854775807:=hg.2.2.2.1;clear M V B0 A hb
  go_in
  go_wp2_with (go_at_call 156;refine z.o.mono ?_;rintro e w1 ⟨a,rfl,hj,h1⟩;have f6:=q_ (f7.o w1 h1 a);clear a h1)
  go_loopg [8,9,10,11,21] 302 (λ q v8 v9 j1 j2 h7 W=>zzg R_ (rdB s (zc_ ds) f u) C n w0 P ss ds sv rv xs s E br [.int .i64 pt,.iface vT vx] 206 (.wrap 123 p u) w q v8 h7 W)
  case atStart=>exact f6.o
  case round=>
   clear f7 f6 z;obtain⟨h,j,nn,rfl,i4,i7,a7,hq,x,r⟩:=hrel;obtain⟨ys,J,a0,hY⟩:=x.o.row;obtain⟨la,lc,rfl⟩:=zo_ J
   by_cases b4:h.length=C
   ·have h3:¬ (h.length:Int)<(C:Int):=by omega
    have S:=q_ (show R_=.ok (h,j,nn) by rw[r,show C-h.length=0 by omega];simp[xk_,zb2]);have f9:=q_ hY;have a4:=q_ J;clear r J hY b4 a0
    go_wp2_with fail
    try go_ret
    rw[H.o,S.o];refine yok ?_ x.o.fr x.o.M.R x.o.M.il;exact f9.o.dat a4.o (λ g _ hg=>by omega) (λ g e=>by have:=(a4.o.lt g e).1;show w.heap.size<=g;omega)
   ·have h3:(h.length:Int)<(C:Int):=by omega
    obtain⟨cn,g4⟩:∃ cn,C-h.length=cn+1:=⟨C-h.length-1,by omega⟩;rw[g4,zch] at r;have D:=zgz x.o.M.R x.o.M.hs x.o.M.il x.o.M.err;have i1:=x.o.bB
    have i0:h.length<=300:=by omega
    cases a5:x1_ s j with
    | none=>
     have S:=q_ (show R_=.error 6 by rw[r];simp[bKey,a5]);rw[a5] at D;replace D:=q_ D;clear r J hY b4 a0
     go_wp2_with (go_at_call 155;refine D.o.mono ?_;rintro e w1 ⟨a,rfl,F,I,h1⟩;replace a:=q_ a;replace h1:=q_ h1)
     try go_ret
     rw[H.o,S.o];exact ybad (x.o.fr.trans a.o u_) ⟨F,nn,h1.o,I⟩
    | some q=>
     obtain⟨key,F⟩:=q;have i3:=zav a5
     have d0:key.size<=4000:=by omega
     rw[a5] at D;replace D:=q_ D;have f1:=q_ hY;have a4:=q_ J
     cases b7:zen h with
     | none=>
      have f3:h.length=0:=by rw[b7] at a0;exact a0
      have h4:¬ (0:Int)<(h.length:Int):=by omega
      replace f3:=q_ f3;rw[b7,show bKey s true none j=some (key,F) by simp[bKey,a5,zgo]] at r;clear J hY a0;simp only[zkg] at r;have N:=q_ (λ w1 (h1:RwAt w1 br sv rv s F nn) (Z:Fr wr w1 (· = br))=>hR.o F nn (by omega) a7 (by omega) w1 _ (x.o.M.call h1 Z (by omega)) a7 ((hT.o.fr x.o.fr (λ g hg e=>d1 (e▸hg))).fr Z (λ g hg e=>d1 (e▸hg))));clear b4
      cases a2:rdB s (zc_ ds) f u F nn with
      | error e0=>
       rw[a2] at r N;have S:=q_ r;clear r
       go_wp2_with (first
        |(go_at_call 155;refine D.o.mono ?_;rintro e w1 ⟨a,rfl,I,h1⟩;have z:=q_ (N.o w1 h1 a);have b:=x.o.call h1 a I;have c1:=b.bx.c1;replace b:=q_ b;clear h1 a)
        |(go_at_call 66;refine z.o.mono ?_;rintro e w2 ⟨v2,d2,rfl,y,a6,L,B⟩;subst a6;obtain⟨eT,ex,rfl⟩:=L.iface;have d8:=(b.o.M.call B.choose_spec.choose_spec.1 y B.choose_spec.choose_spec.2).G;have hz:=q_ y.size;replace L:=q_ L;replace y:=q_ y;replace B:=q_ B)
        |(go_at_call 149;refine(zc2 hI d8 d0).mono ?_;rintro e w3 a8;have d7:=q_ (λ v (he:e=.returned v)=>L.o.wrap a8 (by have:=hz.o;omega) he);obtain⟨g3,h6,rfl,g7,a9,O⟩:=a8;replace O:=q_ O;replace a9:=q_ a9))
       all_goals try(exfalso;omega)
       try go_ret
       rw[H.o,S.o];refine⟨_,_,rfl,(b.o.fr.trans y.o u_).trans (O.o.mono v_) u_,rfl,(d7.o _ rfl).less (by have:=b.o.fr.size;omega),?_⟩;obtain⟨T,m2,h1,h2⟩:=B.o;exact⟨T,m2,O.o.blk h1 id,h2⟩
      | ok q=>
       obtain⟨d,T,m1⟩:=q;rw[a2] at r N;have e3:=j0_ s (zc_ ds) f u F nn d T m1 (by omega) a7 a2;have f0:=q_ r;obtain⟨ti,e4,e5,e6,e7⟩:=info_parts zie;clear r
       go_wp2_with (first
        |(go_at_call 155;refine D.o.mono ?_;rintro e w1 ⟨a,rfl,I,h1⟩;have z:=q_ (N.o w1 h1 a);have b:=x.o.call h1 a I;have c1:=b.bx.cell 1;have g0:=b.bB;have a3:=q_ (za_ a4.o a (λ g hg e=>by have:=a4.o.lt g hg;omega));have d9:=q_ (f1.o.fr a (λ g hg e=>by have:=hg.1;omega));simp only[aa_,ab_] at c1;replace b:=q_ b;clear h1 a)
        |(go_at_call 66;refine z.o.mono ?_;rintro e w2 ⟨v2,d2,rfl,y,a6,Y,B,e8⟩;subst a6;obtain⟨dT,dx,rfl⟩:=Y.iface;have K:=b.o.call B y e8;have g1:=K.bB;have b8:=q_ (za_ a3.o y (λ g hg e=>by have:=a3.o.lt g hg;omega));have d6:=q_ (Y.mono (Q:=λ g=>w.heap.size+1<=g/\(Value.slice la h.length lc).ownBlock≠some g) (λ g _ hg=>⟨by omega,λ e=>by have:=a3.o.lt g e;omega⟩));have e1:=q_ (d9.o.fr y (λ g hg e=>by have:=hg.1;omega));replace K:=q_ K;clear Y B y)
        |(at_builtin;go_must (refine wpList_append_own_at _ rfl _ _ 158 rfl (w.heap.size+1) 160 ti _ 2 32 zm2 e4 e5 e6 e7 rfl (by decide) (Value.slice la h.length lc) h.length ys rfl ?hown _ 1 1 [.string key,.iface dT dx] rfl rfl (z7_ _ #[.string key,.iface dT dx] _ _ ?nn) ?one ?b1 ?b2 ?b3 ?_)
          case hown=>exact World.ownsRow.alloc b8.o _
          case nn=>simp
          case one=>simp[Value.oneCell']
          case b1=>unfold maxLen;omega
          case b2=>omega
          case b3=>simp;omega
          intro v5 w5 a1 b5 e9 b6
          have X:=K.o.item (d:=d) b8.o e1.o d0 d6.o b5 a1 b6
          obtain⟨g5,f8,rfl⟩:=zh_ a1 (by omega)
          clear b5 b6 e9 a1
          replace X:=q_ X))
       go_roundg (302-m1)
       case measure=>omega
       case rel=>
        refine⟨h++[(key,d)],T,m1,by simp,by simp;omega,by simp;omega,e3.2.2.2,by omega,q_ X.o,?_⟩;rw[f0.o,ah_,am_,show C-(h.length+1)=cn by omega,jg_]
     | some key0=>
      have hm:=a0;rw[b7] at hm;obtain⟨m,f4,f5⟩:=hm;obtain⟨gz,h9,g8⟩:=zh_ J (by omega);cases g8
      have i9:IntKind.i64.wrap ((h.length:Int)-1)=(m:Int):=by rw[IntKind.wrap_i64];omega
      have h4:(0:Int)<(h.length:Int):=by omega
      have i6:0<h.length:=by omega
      have i5:(m:Int)<(h.length:Int):=by omega
      have e2:H_ (∀ w1,Fr wr w1 (· = br)->w1.cell? ⟨gz,m*2,none⟩=some (.string key0)):=q_ (λ w1 Z=>zp_ (za_ J Z (λ g' hg e=>by have:=J.lt g' hg;have:=x.o.lt;omega)) rfl f5);replace f4:=q_ f4;clear f5 J hY a0
      by_cases U:Op.bytesLess key0.toList key.toList=true
      case neg=>
       have g9:(Op.bytesLess key.toList key0.toList||key.toList==key0.toList)=true:=by
        rw[zbu];rw[Bool.eq_false_iff.2 U]
        rfl
       have S:=q_ (show R_=.error 6 by rw[r,b7];simp[bKey,a5,zgo,U]);replace U:=q_ U;clear r b4
       go_wp2_with (go_at_call 155;refine D.o.mono ?_;rintro e w1 ⟨a,rfl,I,h1⟩;have f2:=e2.o w1 a;have g6:=x.o.M.err w1 a;unfold jt_ at g6;replace a:=q_ a;replace h1:=q_ h1)
       go_quiet (fail)
       go_wp2_with fail
       try go_ret
       rw[H.o,S.o];exact ybad ((x.o.fr.trans a.o u_).still (zd_.drewN _ _)) ⟨_,nn,h1.o.still (zd_.drewN _ _),I⟩
      have g9:(Op.bytesLess key.toList key0.toList||key.toList==key0.toList)=false:=by
       rw[zbu];rw[show Op.bytesLess key0.toList key.toList=true from U]
       rfl
      rw[b7,show bKey s true (some key0) j=some (key,F) by simp[bKey,a5,zgo,U]] at r;replace U:=q_ U;simp only[zkg] at r;have N:=q_ (λ w1 (h1:RwAt w1 br sv rv s F nn) (Z:Fr wr w1 (· = br))=>hR.o F nn (by omega) a7 (by omega) w1 _ (x.o.M.call h1 Z (by omega)) a7 ((hT.o.fr x.o.fr (λ g hg e=>d1 (e▸hg))).fr Z (λ g hg e=>d1 (e▸hg))));clear b4
      cases a2:rdB s (zc_ ds) f u F nn with
      | error e0=>
       rw[a2] at r N;have S:=q_ r;clear r
       go_wp2_with (first
        |(go_at_call 155;refine D.o.mono ?_;rintro e w1 ⟨a,rfl,I,h1⟩;have f2:=e2.o w1 a;have z:=q_ (N.o w1 h1 a);have b:=x.o.call h1 a I;have c1:=b.bx.c1;replace b:=q_ b;clear h1 a)
        |(go_at_call 66;refine z.o.mono ?_;rintro e w2 ⟨v2,d2,rfl,y,a6,L,B⟩;subst a6;obtain⟨eT,ex,rfl⟩:=L.iface;have d8:=(b.o.M.call B.choose_spec.choose_spec.1 y B.choose_spec.choose_spec.2).G;have hz:=q_ y.size;replace L:=q_ L;replace y:=q_ y;replace B:=q_ B)
        |(go_at_call 149;refine(zc2 hI d8 d0).mono ?_;rintro e w3 a8;have d7:=q_ (λ v (he:e=.returned v)=>L.o.wrap a8 (by have:=hz.o;omega) he);obtain⟨g3,h6,rfl,g7,a9,O⟩:=a8;replace O:=q_ O;replace a9:=q_ a9))
       try go_ret
       rw[H.o,S.o];refine⟨_,_,rfl,(b.o.fr.trans y.o u_).trans (O.o.mono v_) u_,rfl,(d7.o _ rfl).less (by have:=b.o.fr.size;omega),?_⟩;obtain⟨T,m2,h1,h2⟩:=B.o;exact⟨T,m2,O.o.blk h1 id,h2⟩
      | ok q=>
       obtain⟨d,T,m1⟩:=q;rw[a2] at r N;have e3:=j0_ s (zc_ ds) f u F nn d T m1 (by omega) a7 a2;have f0:=q_ r;obtain⟨ti,e4,e5,e6,e7⟩:=info_parts zie;clear r
       go_wp2_with (first
        |(go_at_call 155;refine D.o.mono ?_;rintro e w1 ⟨a,rfl,I,h1⟩;have f2:=e2.o w1 a;have z:=q_ (N.o w1 h1 a);have b:=x.o.call h1 a I;have c1:=b.bx.cell 1;have g0:=b.bB;have a3:=q_ (za_ a4.o a (λ g hg e=>by have:=a4.o.lt g hg;omega));have d9:=q_ (f1.o.fr a (λ g hg e=>by have:=hg.1;omega));simp only[aa_,ab_] at c1;replace b:=q_ b;clear h1 a)
        |(go_at_call 66;refine z.o.mono ?_;rintro e w2 ⟨v2,d2,rfl,y,a6,Y,B,e8⟩;subst a6;obtain⟨dT,dx,rfl⟩:=Y.iface;have K:=b.o.call B y e8;have g1:=K.bB;have b8:=q_ (za_ a3.o y (λ g hg e=>by have:=a3.o.lt g hg;omega));have d6:=q_ (Y.mono (Q:=λ g=>w.heap.size+1<=g/\(Value.slice (some ⟨gz,0,none⟩) h.length lc).ownBlock≠some g) (λ g _ hg=>⟨by omega,λ e=>by have:=a3.o.lt g e;omega⟩));have e1:=q_ (d9.o.fr y (λ g hg e=>by have:=hg.1;omega));replace K:=q_ K;clear Y B y)
        |(at_builtin;go_must (refine wpList_append_own_at _ rfl _ _ 158 rfl (w.heap.size+1) 160 ti _ 2 32 zm2 e4 e5 e6 e7 rfl (by decide) (Value.slice (some ⟨gz,0,none⟩) h.length lc) h.length ys rfl ?hown _ 1 1 [.string key,.iface dT dx] rfl rfl (z7_ _ #[.string key,.iface dT dx] _ _ ?nn) ?one ?b1 ?b2 ?b3 ?_)
          case hown=>exact World.ownsRow.alloc b8.o _
          case nn=>simp
          case one=>simp[Value.oneCell']
          case b1=>unfold maxLen;omega
          case b2=>omega
          case b3=>simp;omega
          intro v5 w5 a1 b5 e9 b6
          have X:=K.o.item (d:=d) b8.o e1.o d0 d6.o b5 a1 b6
          obtain⟨g5,f8,rfl⟩:=zh_ a1 (by omega)
          clear b5 b6 e9 a1
          replace X:=q_ X))
       go_roundg (302-m1)
       case measure=>omega
       case rel=>
        refine⟨h++[(key,d)],T,m1,by simp,by simp;omega,by simp;omega,e3.2.2.2,by omega,q_ X.o,?_⟩;rw[f0.o,ah_,am_,show C-(h.length+1)=cn by omega,jg_]
end
end Go.Proofs.YtiifagiebikmdaaGreatDoor
