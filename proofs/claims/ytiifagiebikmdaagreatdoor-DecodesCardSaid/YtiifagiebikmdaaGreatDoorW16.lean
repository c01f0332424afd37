import Derived.Test.YtiifagiebikmdaaGreatDoorW07
import Derived.Test.YtiifagiebikmdaaGreatDoorW09
import Derived.Deep.LoopGhost
import Derived.Test.YtiifagiebikmdaaGreatDoorW15
import Derived.Test.YtiifagiebikmdaaGreatDoorW10
import Derived.Test.YtiifagiebikmdaaGreatDoorA00
set_option maxHeartbeats 16000000
set_option maxRecDepth 100000
set_option linter.unusedSimpArgs false
open Go.Proofs.Tryz
namespace Go.Proofs.YtiifagiebikmdaaGreatDoor
open Go.RowKit
variable {f p acc:Nat}
def DAt (w:World) (bd:Nat) (s:BA) (bz i:Nat) (er:Int) (n:Nat):Prop:=
 Blk w bd [.string s,.int .i64 (i:Int),.int .i64 er,.pointer (some ⟨bz,0,none⟩),.int .i64 (n:Int)] 73
section
variable {w w':World} {bd:Nat} {s:BA} {bz i:Nat} {er:Int} {n:Nat}
theorem DAt.c0 (h:DAt w bd s bz i er n):w.cell? ⟨bd,0,none⟩=some (.string s):=by rw[Blk.cell h];rfl
theorem DAt.c1 (h:DAt w bd s bz i er n):w.cell? ⟨bd,1,none⟩=some (.int .i64 (i:Int)):=by rw[Blk.cell h];rfl
theorem DAt.c2 (h:DAt w bd s bz i er n):w.cell? ⟨bd,2,none⟩=some (.int .i64 er):=by rw[Blk.cell h];rfl
theorem DAt.c3 (h:DAt w bd s bz i er n):w.cell? ⟨bd,3,none⟩=some (.pointer (some ⟨bz,0,none⟩)):=by rw[Blk.cell h];rfl
theorem DAt.c4 (h:DAt w bd s bz i er n):w.cell? ⟨bd,4,none⟩=some (.int .i64 (n:Int)):=by rw[Blk.cell h];rfl
theorem DAt.thaw (h:DAt w bd s bz i er n) (o:Nat):w.frozen? ⟨bd,o,none⟩=false:=Blk.thaw h o
theorem DAt.still (h:DAt w bd s bz i er n) (a:zd_ w w'):DAt w' bd s bz i er n:=by
 obtain⟨k,rfl⟩:=a;exact h
theorem DAt.inc (h:DAt w bd s bz i er n):DAt (w.setCell ⟨bd,1,none⟩ (.int .i64 ((i:Int)+1))) bd s bz (i+1) er n:=by
 have:=Blk.set h 1 (.int .i64 ((i:Int)+1));exact this
theorem DAt.err (h:DAt w bd s bz i er n) (e:Int):DAt (w.setCell ⟨bd,2,none⟩ (.int .i64 e)) bd s bz i e n:=Blk.set h 2 _
theorem DAt.node (h:DAt w bd s bz i er n):DAt (w.setCell ⟨bd,4,none⟩ (.int .i64 ((n:Int)+1))) bd s bz i er (n+1):=by
 have:=Blk.set h 4 (.int .i64 ((n:Int)+1));exact this
end
section
variable {w:World} {bd:Nat} {s:BA} {bz i:Nat} {er:Int} {n:Nat}
theorem x7_ {e0:Int}(hd:DAt w bd s bz i er n) :
 Calls prog 43 #[.pointer (some ⟨bd,0,none⟩),.int .i64 e0] w λ e w'=>e=.returned (.tuple #[])/\DAt w' bd s bz i (if er=0 then e0 else er) n/\Fr w w' (· = bd):=by
 have c2:=hd.c2;have a:=hd.thaw 2
 by_cases he:er=0
 ·subst he
  go_in
  go_wp2
  go_end0
  exact⟨rfl,hd.err e0,(Fr.refl w _).setCell _ _ (λ _=>rfl)⟩
 ·go_in
  go_wp2
  go_end0
  exact⟨rfl,hd,Fr.refl w _⟩
theorem zc5 (h:DAt w bd s bz i 0 n) (hs:s.size<=4000) (hl:i<s.size) :
 Calls prog 44 #[.pointer (some ⟨bd,0,none⟩)] w λ e w'=>e=.returned (.int .i64 (bt s i:Int))/\DAt w' bd s bz (i+1) 0 n/\Fr w w' (· = bd):=by
 refine hq_ λ c b=>?_;obtain⟨c0,c1,c2⟩:=h.d3;have g:=h.thaw 1
 have q:(i:Int)<(s.size:Int):=by omega
 obtain⟨x,a⟩:∃ x,bt s i=x:=⟨_,rfl⟩
 have l:((s[i]'hl).toNat:Int)=(x:Int):=by rw[<- a,j5_ s i hl]
 have t:x<256:=by have:=zf4 s i;omega
 rw[a] at b;replace a:=q_ a;replace h:=q_ h
 go_in
 go_wp2_with fail
 go_quiet (fail)
 go_wp2_with fail
 go_quiet (fail)
 go_wp2_with fail
 try go_ret
 rw[b.o];exact⟨rfl,((h.o.still (zd_.drewN _ _)).inc).still (zd_.drewN _ _),(((Fr.refl w (· = bd)).still (zd_.drewN _ _)).setCell _ _ (λ _=>rfl)).still (zd_.drewN _ _)⟩
theorem ze0 (h:DAt w bd s bz i 0 n) (hl:i=s.size) :
 Calls prog 44 #[.pointer (some ⟨bd,0,none⟩)] w λ e w'=>e=.returned (.int .i64 0)/\DAt w' bd s bz i 6 n/\Fr w w' (· = bd):=by
 refine hq_ λ g b=>?_;obtain⟨c0,c1,c2⟩:=h.d3
 have l:¬ (i:Int)<(s.size:Int):=by omega
 have c:=q_ (λ (w:World) (h:DAt w bd s bz i 0 n)=>x7_ (e0:=6) h);replace hl:=q_ hl;replace h:=q_ h
 go_in
 go_wp2_with fail
 go_quiet (fail)
 go_wp2_with (go_at_call 43;refine(c.o _ (h.o.still (zd_.drewN _ _))).mono ?_;rintro e w1 ⟨rfl,h1,a⟩;replace h1:=q_ h1;replace a:=q_ a)
 try go_ret
 rw[b.o];exact⟨rfl,h1.o,((Fr.refl w _).still (zd_.drewN _ _)).trans a.o u_⟩
end
def DNum (w:World) (bd:Nat) (s:BA) (bz n:Nat) (r:Option (Int×Nat)) (e:Ending) (w':World):Prop:=
 Fr w w' (· = bd)/\match r with
 | some (v,j)=>e=.returned (.int .i64 v)/\j<=s.size/\DAt w' bd s bz j 0 n
 | none=>e=.returned (.int .i64 0)/\∃ j,j<=s.size/\DAt w' bd s bz j 6 n
def lebC (s:BA) (i k acc:Nat):Option (Nat×Nat):=
 match lebD s (10-k) (i+k) with
 | none=>none
 | some (z,j)=>if z=0/\0<k then none else some (acc+128 ^ k*z,j)
theorem zkc (s:BA) (i:Nat):lebC s i 0 0=lebD s 10 i:=by
 unfold lebC;rw[show 10-0=10 from rfl,bp_]
 cases lebD s 10 i with
 | none=>rfl
 | some q=>
  obtain⟨z,j⟩:=q
  simp
theorem zh9 {s:BA}{i k:Nat}(hk:k<=9) (h:s.size<=i+k):lebC s i k acc=none:=by
 unfold lebC;rw[show 10-k=(9-k)+1 by omega,lebD,if_neg (by omega)]
theorem zad {s:BA}{i k:Nat}(hk:k<=9) (h:i+k<s.size) (hb:bt s (i+k)<128):lebC s i k acc=if bt s (i+k)=0/\0<k then none else some (acc+128 ^ k*bt s (i+k),i+k+1):=by
 unfold lebC;rw[show 10-k=(9-k)+1 by omega,lebD,if_pos h,if_pos hb]
theorem zbh {s:BA}{i k:Nat}(hk:k<=9) (h:i+k<s.size) (hb:¬ bt s (i+k)<128):lebC s i k acc=if k=9 then none else lebC s i (k+1) (acc+128 ^ k*(bt s (i+k)-128)):=by
 unfold lebC;rw[show 10-k=(9-k)+1 by omega,lebD,if_pos h,if_neg hb]
 by_cases b:k=9
 ·subst b;rw[if_pos rfl]
  simp[lebD]
 ·rw[if_neg b,show 10-(k+1)=9-k by omega,show i+k+1=i+(k+1) by omega]
  cases lebD s (9-k) (i+(k+1)) with
  | none=>rfl
  | some q=>
   obtain⟨z,j⟩:=q;simp only
   by_cases a:z=0
   ·rw[if_pos a,if_pos ⟨a,by omega⟩]
   ·rw[if_neg a,if_neg (λ x=>a x.1)];simp only;rw[if_neg (λ x=>by omega)]
    have e:acc+128 ^ k*(bt s (i+k)-128+128*z)=acc+128 ^ k*(bt s (i+k)-128)+128 ^ (k+1)*z:=by
     rw[Nat.pow_succ,Nat.mul_add,Nat.mul_assoc,bv_]
    rw[e]
theorem zuh {s:BA}{i:Nat}(h:i+9<s.size) (hb:1<bt s (i+9)):(match lebC s i 9 acc with|none=>none|some (z,j)=>if z<18446744073709551616 then some (unfI z,j) else none)=none:=by
 by_cases h1:bt s (i+9)<128
 ·rw[zad (by omega) h h1,if_neg (λ x=>by omega)];simp only
  rw[if_neg (λ x=>by
   have a:=b3_ (128 ^ 9) hb
   have b:128 ^ 9*2=18446744073709551616:=by decide
   omega)]
 ·rw[zbh (by omega) h h1,if_pos rfl]
open Go.RowKit
def finL:Option (Nat×Nat)->Option (Int×Nat)
 | none=>none
 | some (z,j)=>if z<18446744073709551616 then some (unfI z,j) else none
theorem zy8 (s:BA) (i:Nat):bL s i=finL (lebC s i 0 0):=by
 rw[zkc];unfold bL finL;cases lebD s 10 i<;>rfl
theorem zvc (k:Nat):1<=128 ^ k:=Nat.one_le_pow _ _ (by decide)
theorem zcq {k:Nat}(h:k<=8):128 ^ (k+1)<=9223372036854775808:=ai_ (Nat.pow_le_pow_right (by decide) (show k+1<=9 by omega)) (by decide)
def zxt (R_:Option (Int×Nat)) (w:World) (bd:Nat) (s:BA) (bz i n sg:Nat) (q:Nat) (v3 v5 v6 v7:Value) (W:World):Prop:=
 ∃ k c m wt:Nat,v3=.int .i64 (c:Int)/\v5=.int .i64 (m:Int)/\v6=.int .i64 (wt:Int)/\v7=.int .i64 (k:Int)/\1<=k/\k<=10/\10<=q+k/\i+k<=s.size/\c<256/\m<9223372036854775808/\wt<=4611686018427387904/\
  H_ (DAt W bd s bz (i+k) 0 n/\Fr w W (· = bd))/\
  ((128<=c/\k<=9/\2*wt=128 ^ k/\2*m+sg<128 ^ k/\R_=finL (lebC s i k (2*m+sg)))\/(c<128/\R_=some (unfI (2*m+sg),i+k)))
theorem zwq {h:Option (Int×Nat)}{w W:World}{bd:Nat}{s:BA}{bz i n b k c m a:Nat}(I:b<=1) (hk:k<=9) (q:i+k<s.size) (hc:bt s (i+k)=c) (y:c≠0) (F:¬ (k=9/\1<c)) (B:2*a=128 ^ k) (G:2*m+b<128 ^ k) (o:h=finL (lebC s i k (2*m+b)))
 (v:DAt W bd s bz (i+k+1) 0 n) (z:Fr w W (· = bd)) (g:Nat) (D:k<=8->g=128*a) (C:g<=4611686018427387904) :
 zxt h w bd s bz i n b (10-(k+1)) (.int .i64 (c:Int)) (.int .i64 ((m+c % 128*a:Nat):Int)) (.int .i64 (g:Int)) (.int .i64 ((k+1:Nat):Int)) W:=by
 have hb:=zf4 s (i+k);have H:=zvc k
 have e:2*(m+c % 128*a)+b=2*m+b+128 ^ k*(c % 128):=by
  rw[<- B,Nat.mul_add,a2_ (2*a),a2_ (c % 128) a,<- Nat.mul_assoc,a2_ (2*a)];omega
 have E:128 ^ k*(c % 128)<=128 ^ k*127:=b3_ _ (by omega);have l:128 ^ (k+1)=128 ^ k*128:=Nat.pow_succ 128 k
 have t:2*(m+c % 128*a)+b<18446744073709551616:=by
  rw[e]
  by_cases u:k=9
  ·subst u
   have:c<=1:=by omega
   have:c % 128<=1:=by omega
   have:=b3_ (128 ^ 9) this;omega
  ·have:=zcq (k:=k) (by omega);omega
 refine⟨k+1,c,_,g,rfl,rfl,rfl,rfl,by omega,by omega,by omega,by omega,by omega,by omega,C,q_ ⟨v,z⟩,?_⟩
 by_cases h1:c<128
 ·right
  refine⟨h1,?_⟩;rw[o,zad hk q (by omega),hc,if_neg (λ x=>y x.1)];unfold finL;simp only
  have:128 ^ k*c=128 ^ k*(c % 128):=by rw[Nat.mod_eq_of_lt h1]
  rw[this,<- e,if_pos t]
  rfl
 ·left
  have A:k<=8:=by omega
  refine⟨by omega,by omega,by rw[D A,l];omega,by rw[e,l];omega,?_⟩;rw[o,zbh hk q (by omega),if_neg (by omega),hc,e,show c-128=c % 128 by omega]
theorem jp_ {w:World}{bd:Nat}{s:BA}{bz i n:Nat}(h:DAt w bd s bz i 0 n) (hs:s.size<=4000) (hi:i<=s.size) :
 Calls prog 45 #[.pointer (some ⟨bd,0,none⟩)] w (DNum w bd s bz n (bL s i)):=by
 refine hq_ λ a9 z=>?_;rw[zy8] at z
 by_cases hl:i=s.size
 ·have b:=q_ (ze0 h hl);have E:=q_ (show finL (lebC s i 0 0)=none by rw[zh9 (by omega) (by omega)];rfl);clear h hl
  go_in
  go_wp2_with (go_at_call 44;refine b.o.mono ?_;rintro e w1 ⟨rfl,h1,a⟩;have c2:=h1.c2;replace h1:=q_ h1;replace a:=q_ a)
  go_loopg [3,5,6,7,8] 1 (λ q S T v6 v7 v8 W=>S=.int .i64 0/\T=.int .i64 0/\W=w1)
  case atStart=>exact⟨rfl,rfl,rfl⟩
  case round=>
   obtain⟨rfl,rfl,rfl⟩:=hrel
   go_wp2_with fail
   try go_ret
   rw[z.o,E.o];exact⟨a.o,rfl,i,hi,h1.o⟩
 ·have A:i<s.size:=by omega
  obtain⟨c,hc⟩:∃ c,bt s i=c:=⟨_,rfl⟩;have b:=zc5 h hs A;rw[hc] at b
  have Y:c<256:=by have:=zf4 s i;omega
  obtain⟨B,L⟩:∃ r,r=finL (lebC s i 0 0):=⟨_,rfl⟩;rw[<- L] at z
  have H:∀ W,DAt W bd s bz (i+1) 0 n->Fr w W (· = bd)->zxt B w bd s bz i n (c % 2) 9 (.int .i64 (c:Int)) (.int .i64 ((c % 128 / 2:Nat):Int)) (.int .i64 64) (.int .i64 1) W:=by
   intro W l M;refine⟨1,c,c % 128 / 2,64,rfl,rfl,rfl,rfl,by omega,by omega,by omega,by omega,Y,by omega,by omega,q_ ⟨l,M⟩,?_⟩
   have e0:2*(c % 128 / 2)+c % 2=c % 128:=by omega
   rw[e0]
   by_cases h1:c<128
   ·right
    refine⟨h1,?_⟩;rw[L,zad (by omega) (by omega) (by rw[bp_,hc];exact h1),if_neg (λ x=>by omega),bp_,hc];unfold finL;simp only;rw[if_pos (by omega),show 0+128 ^ 0*c=c by omega,Nat.mod_eq_of_lt h1]
   ·left
    refine⟨by omega,by omega,rfl,by omega,?_⟩;rw[L,zbh (by omega) (by omega) (by rw[bp_,hc];exact h1),if_neg (by omega),(show bt s (i+0)=c from hc),show 0+128 ^ 0*(c-128)=c % 128 by omega]
  replace H:=q_ H;replace b:=q_ b;replace L:=q_ L
  have a6:c % 2<=1:=by omega
  have U:(c:Int) % 2=((c % 2:Nat):Int):=by omega
  have V:(c:Int) % 128 / 2=((c % 128 / 2:Nat):Int):=by omega
  generalize a7:c % 2=sg at *;generalize a5:c % 128 / 2=m0 at *;clear h hc a7 a5
  go_in
  go_wp2_with (go_at_call 44;refine b.o.mono ?_;rintro e w1 ⟨rfl,h1,a⟩;replace H:=q_ (H.o w1 h1 a);clear h1 a)
  go_loopg [3,5,6,7,8] 9 (λ q S T v6 v7 v8 W=>zxt B w bd s bz i n sg q S T v6 v7 W)
  case atStart=>(rw[V];exact H.o)
  case round=>
   clear H b V;obtain⟨k,c,m,y,rfl,rfl,rfl,rfl,b7,b8,hq,O,Y,b9,d1,l,a1⟩:=hrel;have c2:=l.o.1.c2
   rcases a1 with⟨a2,Q,J,G,g⟩|⟨a2,g⟩
   ·clear U
    have a3:(c:Int)≥128:=by omega
    have N:=q_ (λ (W:World) (j:Nat) (er:Int) (h:DAt W bd s bz j er n)=>x7_ (e0:=6) h)
    by_cases F:i+k=s.size
    ·have E:=q_ (show B=none by rw[g,zh9 Q (by omega)];rfl);have b:=q_ (ze0 l.o.1 F);clear g J G F
     go_wp2_with (first
      |(go_at_call 44;refine b.o.mono ?_;rintro e w1 ⟨rfl,h1,a⟩;replace h1:=q_ h1;replace a:=q_ a)
      |(go_at_call 43;refine(N.o _ _ _ h1.o).mono ?_;rintro e w2 ⟨rfl,u,v⟩;replace u:=q_ u;replace v:=q_ v))
     all_goals (try go_ret)
     all_goals (rw[z.o,E.o];exact⟨(l.o.2.trans a.o u_).trans v.o u_,rfl,_,O,u.o⟩)
    ·have A:i+k<s.size:=by omega
     obtain⟨t,C⟩:∃ c,bt s (i+k)=c:=⟨_,rfl⟩;have b:=zc5 l.o.1 hs A;rw[C] at b;replace b:=q_ b
     have b6:t<256:=by have:=zf4 s (i+k);omega
     by_cases K:k=9/\1<t
     ·obtain⟨rfl,b4⟩:=K
      have b5:(t:Int) > 1:=by omega
      have E:=q_ (show B=none by rw[g];exact zuh A (by omega));clear g J G F C
      go_wp2_with (first
       |(go_at_call 44;refine b.o.mono ?_;rintro e w1 ⟨rfl,h1,a⟩;replace h1:=q_ h1;replace a:=q_ a)
       |(go_at_call 43;refine(N.o _ _ _ h1.o).mono ?_;rintro e w2 ⟨rfl,u,v⟩;replace u:=q_ u;replace v:=q_ v))
      all_goals (try go_ret)
      all_goals (rw[z.o,E.o];exact⟨(l.o.2.trans a.o u_).trans v.o u_,rfl,_,A,u.o⟩)
     ·have D:((k:Int)==9)=false\/((k:Int)=9/\¬ (t:Int) > 1):=by
       by_cases Z:k=9
       ·exact .inr ⟨by omega,by omega⟩
       ·exact .inl (by simp;omega)
      by_cases h0:t=0
      ·subst h0;have E:=q_ (show B=none by rw[g,zad Q A (by omega),if_pos ⟨C,by omega⟩];rfl);clear g J G F C K
       rcases D with D|⟨D,_⟩
       all_goals
        go_wp2_with (first
         |(go_at_call 44;refine b.o.mono ?_;rintro e w1 ⟨rfl,h1,a⟩;replace h1:=q_ h1;replace a:=q_ a)
         |(go_at_call 43;refine(N.o _ _ _ h1.o).mono ?_;rintro e w2 ⟨rfl,u,v⟩;replace u:=q_ u;replace v:=q_ v))
        all_goals (try go_ret)
        all_goals (rw[z.o,E.o];exact⟨(l.o.2.trans a.o u_).trans v.o u_,rfl,_,A,u.o⟩)
      ·have d0:((t:Int)==0)=false:=by simp;omega
       have I:=q_ (λ (W:World)=>zwq (W:=W) (w:=w) (bd:=bd) (bz:=bz) (n:=n) a6 Q A C h0 K J G g);have R:=q_ (show(m:Int)+(t:Int) % 128*(y:Int)=((m+t % 128*y:Nat):Int) by simp);have e0:t % 128*y<=127*y:=bt_ _ (by omega)
       have X:2*m+2*(t % 128*y)<18446744073709551616:=by
        by_cases Z:k=9
        ·subst Z;have U:t % 128*y<=1*y:=bt_ _ (by omega);omega
        ·have:=zcq (k:=k) (by omega);have e3:128 ^ (k+1)=128 ^ k*128:=Nat.pow_succ 128 k;omega
       have g1:(0:Int)<=(t:Int) % 128*(y:Int):=Int.mul_nonneg (by omega) (by omega)
       have g2:(m:Int)+(t:Int) % 128*(y:Int)<=9223372036854775807:=by rw[R.o];omega
       by_cases h8:k<8
       ·have a0:(k:Int)<8:=by omega
        have a4:((k:Int)==9)=false:=by simp;omega
        have a8:128*y<=4611686018427387904:=by
         have:=zcq (k:=k) (by omega);have e3:128 ^ (k+1)=128 ^ k*128:=Nat.pow_succ 128 k;omega
        replace I:=q_ (λ (W:World) (h:DAt W bd s bz (i+k+1) 0 n) M=>I.o W h M (128*y) (λ _=>rfl) a8);clear g J G F C K D e0 X
        go_wp2_with (go_at_call 44;refine b.o.mono ?_;rintro e w1 ⟨rfl,h1,a⟩;replace h1:=q_ h1;replace a:=q_ a)
        go_roundg (10-(k+1))
        case measure=>omega
        case rel=>
         have:=I.o w1 h1.o (l.o.2.trans a.o u_);rw[R.o];exact this
       ·have a0:¬ (k:Int)<8:=by omega
        replace I:=q_ (λ (W:World) (h:DAt W bd s bz (i+k+1) 0 n) M=>I.o W h M 4611686018427387904 (λ h=>by
         obtain rfl:k=8:=by omega
         omega) (by omega))
        clear g J G F C K e0 X
        rcases D with D|⟨D,a4⟩
        all_goals
         go_wp2_with (go_at_call 44;refine b.o.mono ?_;rintro e w1 ⟨rfl,h1,a⟩;replace h1:=q_ h1;replace a:=q_ a)
         go_roundg (10-(k+1))
         case measure=>omega
         case rel=>
          have:=I.o w1 h1.o (l.o.2.trans a.o u_);rw[R.o]
          first
           | exact this
           |(obtain rfl:k=9:=by omega
             exact this)
   ·have a3:¬ (c:Int)≥128:=by omega
    rcases Nat.lt_or_ge sg 1 with h1|h1
    ·obtain rfl:sg=0:=by omega
     replace g:=q_ (show B=some ((m:Int),i+k) by rw[g];unfold unfI;rw[if_neg (by omega),show(2*m+0) / 2=m by omega])
     go_wp2_with fail
     all_goals (try go_ret)
     all_goals (rw[z.o,g.o];exact⟨l.o.2,rfl,O,l.o.1⟩)
    ·obtain rfl:sg=1:=by omega
     replace g:=q_ (show B=some (-(m:Int)-1,i+k) by rw[g];unfold unfI;rw[if_pos (by omega),show(2*m+1) / 2=m by omega])
     go_wp2_with fail
     all_goals (try go_ret)
     all_goals (rw[z.o,g.o];exact⟨l.o.2,rfl,O,l.o.1⟩)
theorem zas {s:BA}{i k:Nat}(h:i+k<=zw_ s i):zw_ s (i+k)=zw_ s i:=by
 induction k with
 | zero=>rfl
 | succ k ih=>
  have h1:=ih (by omega);rw[<- h1];unfold zw_ at *
  conv=>rhs;rw[z0_]
  split
  ·split
   ·rfl
   ·rename_i a b;rw[z0_,dif_pos a,if_neg b] at h1;omega
  ·rename_i a;rw[z0_,dif_neg a] at h1;omega
open Go.RowKit
def zzm (w:World) (bd:Nat) (s:BA) (bz n:Nat) (r:Option (BA×Nat)) (e:Ending) (w':World):Prop:=
 Fr w w' (· = bd)/\match r with
 | some (tx,j)=>e=.returned (.string tx)/\j<=s.size/\DAt w' bd s bz j 0 n
 | none=>e=.returned (.string noB)/\∃ j,j<=s.size/\DAt w' bd s bz j 6 n
def zzb (R_:Option (BA×Nat)) (w:World) (bd:Nat) (s:BA) (bz i n m:Nat) (q:Nat) (v6:Value) (W:World):Prop:=
 ∃ k:Nat,v6=.int .i64 (k:Int)/\k<=4001/\H_ (Fr w W (· = bd))/\((k<=m/\i+k<=s.size/\s.size+1-(i+k)<=q/\i+k<=zw_ s i/\DAt W bd s bz (i+k) 0 n)\/(R_=none/\∃ j,j<=s.size/\DAt W bd s bz j 6 n))
theorem zf1 {w:World}{bd:Nat}{s:BA}{bz i n m:Nat}(h:DAt w bd s bz i 0 n) (hs:s.size<=4000) (O:i<=s.size) (hm:m<=9223372036854775807) :
 Calls prog 47 #[.pointer (some ⟨bd,0,none⟩),.int .i64 (m:Int)] w (zzm w bd s bz n (vt_ s i m)):=by
 refine hq_ λ U B=>?_;obtain⟨u,t⟩:∃ r,r=vt_ s i m:=⟨_,rfl⟩;rw[<- t] at B;have K:H_ (zzb u w bd s bz i n m (s.size+1) (.int .i64 0) w):=q_ ⟨0,rfl,by omega,q_ (Fr.refl _ _),.inl ⟨by omega,by omega,by omega,jn_ s i,h⟩⟩;have c1:=h.c1;have M:=q_ (λ (W:World) (j:Nat) (er:Int) (h:DAt W bd s bz j er n)=>x7_ (e0:=6) h);replace t:=q_ t;clear h
 go_in
 go_wp2_with fail
 clear c1
 go_loopg [6,7] (s.size+1) (λ q T v7 W=>zzb u w bd s bz i n m q T W)
 case atStart=>exact K.o
 case round=>
  clear K;obtain⟨k,rfl,Z,v,L⟩:=hrel
  rcases L with⟨a0,E,hq,F,a⟩|⟨g,j,z,a⟩
  ·obtain⟨c0,c1,c2⟩:=a.d3
   by_cases N:k=m
   ·subst N
    have R:¬ (k:Int)<(k:Int):=by omega
    have g:=q_ (show u=some (s.extract i (i+k),i+k) by rw[t.o];unfold vt_;rw[if_pos F])
    have y:(i:Int)+(k:Int)=((i+k:Nat):Int):=by omega
    obtain⟨j,z⟩:∃ j,j=i+k:=⟨_,rfl⟩;rw[<- z] at c1 g E a
    have X:i<=j:=by omega
    have Y:(i:Int)<=(j:Int):=by omega
    have a1:(j:Int)<=(s.size:Int):=by omega
    replace a:=q_ a;clear z y
    go_wp2_with fail
    go_quiet (fail)
    go_wp2_with fail
    try go_ret
    rw[B.o,g.o];exact⟨v.o.still (zd_.drewN _ _),rfl,E,a.o.still (zd_.drewN _ _)⟩
   ·have R:(k:Int)<(m:Int):=by omega
    by_cases S:i+k=s.size
    ·have l:=q_ (ze0 a S);have g:=q_ (show u=none by rw[t.o];unfold vt_;rw[if_neg (by have:=zdn O;omega)]);clear a c0 c1
     go_wp2_with (go_at_call 44;refine l.o.mono ?_;rintro e w1 ⟨rfl,h1,b⟩;have I:=h1.c2;replace h1:=q_ h1;replace b:=q_ b)
     go_roundg 0
     case measure=>omega
     case rel=>exact⟨k+1,rfl,by omega,q_ (v.o.trans b.o u_),.inr ⟨g.o,_,E,h1.o⟩⟩
    ·have A:i+k<s.size:=by omega
     obtain⟨c,hc⟩:∃ c,bt s (i+k)=c:=⟨_,rfl⟩;have l:=zc5 a hs A;rw[hc] at l;replace l:=q_ l
     have V:c<256:=by have:=zf4 s (i+k);omega
     by_cases J:97<=c/\c<=122
     ·have H:=q_ (show(decide ((97:Int)<=(c:Int))&&decide ((c:Int)<=122))=true by simp;omega)
      have Q:i+(k+1)<=zw_ s i:=by
       rw[<- zas F];unfold zw_;rw[za8 A (by rw[hc];exact J)];exact jn_ s (i+k+1)
      clear a c0 c1
      go_wp2_with (first
       |(go_at_call 44;refine l.o.mono ?_;rintro e w1 ⟨rfl,h1,b⟩;have I:=h1.c2;replace h1:=q_ h1;replace b:=q_ b)
       |(go_at_call 38;refine(yz_ _ _ _ _).mono ?_;rintro e w' ⟨rfl,G⟩;rw[G,H.o]))
      go_roundg (s.size+1-(i+(k+1)))
      case measure=>omega
      case rel=>exact⟨k+1,rfl,by omega,q_ (v.o.trans b.o u_),.inl ⟨by omega,by omega,by omega,Q,h1.o⟩⟩
     ·have H:=q_ (show(decide ((97:Int)<=(c:Int))&&decide ((c:Int)<=122))=false by simp;omega)
      have g:=q_ (show u=none by
       rw[t.o]
       unfold vt_
       rw[if_neg (λ x=>by
        have y:=zas F
        unfold zw_ at y x
        rw[ve_ (by rw[hc];exact J)] at y
        omega)])
      clear a c0 c1
      go_wp2_with (first
       |(go_at_call 44;refine l.o.mono ?_;rintro e w1 ⟨rfl,h1,b⟩;have I:=h1.c2;replace h1:=q_ h1;replace b:=q_ b)
       |(go_at_call 38;refine(yz_ _ _ _ _).mono ?_;rintro e w' ⟨rfl,G⟩;rw[G,H.o])
       |(go_at_call 43;refine(M.o _ _ _ h1.o).mono ?_;rintro e w2 ⟨rfl,C,D⟩;replace C:=q_ C;replace D:=q_ D))
      go_roundg 0
      case measure=>omega
      case rel=>exact⟨k+1,rfl,by omega,q_ ((v.o.trans b.o u_).trans D.o u_),.inr ⟨g.o,_,A,C.o⟩⟩
  ·have c2:=a.c2;replace a:=q_ a
   by_cases A:(k:Int)<(m:Int)
   all_goals
    go_wp2_with fail
    try go_ret
    rw[B.o,g];exact⟨v.o,rfl,j,z,a.o⟩
theorem zkt {w:World}{bd:Nat}{s:BA}{bz i n:Nat}{er m:Int}(h:DAt w bd s bz i er n) (he:er≠0) :
 Calls prog 47 #[.pointer (some ⟨bd,0,none⟩),.int .i64 m] w λ e w'=>e=.returned (.string noB)/\w'=w:=by
 have c1:=h.c1;have c2:=h.c2
 have b:(er==0)=false:=by simp[he]
 clear h
 go_in
 go_wp2_with fail
 go_loopg [6,7] 0 (λ _ a g W=>a=.int .i64 0/\W=w)
 case atStart=>exact⟨rfl,rfl⟩
 case round=>
  obtain⟨rfl,rfl⟩:=hrel
  by_cases c:0<m
  all_goals
   go_wp2_with fail
   try go_ret
   exact⟨rfl,rfl⟩
theorem zf2 {w:World}{bd:Nat}{s:BA}{bz i n:Nat}(h:DAt w bd s bz i 0 n) (hs:s.size<=4000) (z:i<=s.size) :
 Calls prog 46 #[.pointer (some ⟨bd,0,none⟩)] w λ e w'=>Fr w w' (· = bd)/\match jw_ s i with
  | some (v,j)=>e=.returned (.int .i64 v)/\0<=v/\v<=9223372036854775807/\j<=s.size/\DAt w' bd s bz j 0 n
  | none=>∃ v j,e=.returned (.int .i64 v)/\v<=0/\j<=s.size/\DAt w' bd s bz j 6 n:=by
 obtain⟨A,g⟩:∃ x,H_ (x=λ (e:Ending) (w':World)=>Fr w w' (· = bd)/\match jw_ s i with
  | some (v,j)=>e=.returned (.int .i64 v)/\0<=v/\v<=9223372036854775807/\j<=s.size/\DAt w' bd s bz j 0 n
  | none=>∃ v j,e=.returned (.int .i64 v)/\v<=0/\j<=s.size/\DAt w' bd s bz j 6 n):=⟨_,rfl⟩
 rw[<- g.o];have a:=jp_ h hs z;have y:=q_ (λ (W:World) (j:Nat) (er:Int) (h:DAt W bd s bz j er n)=>x7_ (e0:=6) h);clear h
 cases hb:bL s i with
 | none=>
  rw[hb] at a;have c:=q_ (show jw_ s i=none by unfold jw_ bNum;rw[hb]);replace a:=q_ a
  go_in
  go_wp2_with (go_at_call 45;refine a.o.mono ?_;rintro e w1 ⟨b,rfl,j,u,h1⟩;replace h1:=q_ h1;replace b:=q_ b)
  try go_ret
  rw[g.o,c.o];exact⟨b.o,0,j,rfl,by omega,u,h1.o⟩
 | some q=>
  obtain⟨v,j⟩:=q;have hg:=zf8 hb;rw[hb] at a
  by_cases B:v<0
  ·have c:=q_ (show jw_ s i=none by unfold jw_ bNum;rw[hb];simp only;rw[if_neg (by omega)]);replace a:=q_ a
   go_in
   go_wp2_with (first
    |(go_at_call 45;refine a.o.mono ?_;rintro e w1 ⟨b,rfl,u,h1⟩;replace h1:=q_ h1;replace b:=q_ b)
    |(go_at_call 43;refine(y.o _ _ _ h1.o).mono ?_;rintro e C ⟨rfl,l,t⟩;replace l:=q_ l;replace t:=q_ t))
   try go_ret
   rw[g.o,c.o];exact⟨b.o.trans t.o u_,v,j,rfl,by omega,hg.2.1,l.o⟩
  ·have c:=q_ (show jw_ s i=some (v,j) by unfold jw_ bNum;rw[hb];simp only;rw[if_pos (by omega)]);replace a:=q_ a
   go_in
   go_wp2_with (go_at_call 45;refine a.o.mono ?_;rintro e w1 ⟨b,rfl,u,h1⟩;replace h1:=q_ h1;replace b:=q_ b)
   try go_ret
   rw[g.o,c.o];exact⟨b.o,rfl,by omega,hg.2.2.2,hg.2.1,h1.o⟩
open Go.RowKit
structure XBM (w:World) (P:Nat->Prop) (bd:Nat) (s:BA) (bz i n:Nat) (er:Int) (ts:List TR) (env:Nat->Option PB) (W:World):Prop where
 L:DAt W bd s bz i er n
 Z:ZAt W P bz ts env
 nP:¬ P bd
 Plt:∀ g,P g->g<w.heap.size
 lt:bd<w.heap.size
 fr:Fr w W (· = bd)
 jl:i<=s.size
 sl:s.size<=4000
section
variable {w W W':World} {P:Nat->Prop} {bd:Nat} {s:BA} {bz i n i' n':Nat} {er er':Int} {ts:List TR} {env:Nat->Option PB}
theorem XBM.call (M:XBM w P bd s bz i n er ts env W) (b:DAt W' bd s bz i' er' n') (a:Fr W W' (· = bd)) (c:i'<=s.size):XBM w P bd s bz i' n' er' ts env W':=
 ⟨b,M.Z.fr a (λ _ hg e=>M.nP (e▸hg)),M.nP,M.Plt,M.lt,M.fr.trans a u_,c,M.sl⟩
theorem XBM.still (M:XBM w P bd s bz i n er ts env W) (h:zd_ W W'):XBM w P bd s bz i n er ts env W':=M.call (M.L.still h) ((Fr.refl W _).still h) M.jl
theorem XBM.node (M:XBM w P bd s bz i n er ts env W):XBM w P bd s bz i (n+1) er ts env (W.setCell ⟨bd,4,none⟩ (.int .i64 ((n:Int)+1))):=M.call M.L.node (Fr.one _ _ _) M.jl
theorem XBM.own (M:XBM w P bd s bz i n er ts env W) (a:Fr W W' (λ g=>w.heap.size<=g)):XBM w P bd s bz i n er ts env W':=by
 have:=M.lt;exact⟨a.blk M.L (by omega),M.Z.fr a (λ g hg=>by have:=M.Plt g hg;omega),M.nP,M.Plt,M.lt,M.fr.trans a (λ x b e=>absurd e (by omega)),M.jl,M.sl⟩
theorem XBM.alloc (M:XBM w P bd s bz i n er ts env W) (o:Obj):XBM w P bd s bz i n er ts env (W.alloc o):=M.own ((Fr.refl W _).alloc o)
theorem XBM.put (M:XBM w P bd s bz i n er ts env W) (a:Addr) (v:Value) (h:w.heap.size<=a.block):XBM w P bd s bz i n er ts env (W.setCell a v):=M.own ((Fr.refl W _).setCell a v (λ _=>h))
theorem XBM.here (M:XBM w P bd s bz i n er ts env W):XBM W P bd s bz i n er ts env W:=
 ⟨M.L,M.Z,M.nP,λ g hg=>a5_ (M.Plt g hg) M.fr.size,a5_ M.lt M.fr.size,Fr.refl _ _,M.jl,M.sl⟩
end
def jd_ (w:World) (bd:Nat) (s:BA) (bz:Nat) (r:Except Nat (DT×Nat×Nat)) (e:Ending) (w':World):Prop:=
 ∃ (k:Nat) (n:Int) (tx:BA) (vk vs:Value),e=.returned (.agg (zb_ k n tx vk vs).toArray)/\(∃ a m c,vk=.slice a m c)/\(∃ a m c,vs=.slice a m c)/\Fr w w' (· = bd)/\
 match r with
 | .error e0=>e0≠0/\∃ j m,j<=s.size/\m<=301/\DAt w' bd s bz j (e0:Int) m
 | .ok (d,j,m)=>j<=s.size/\m<=300/\DAt w' bd s bz j 0 m/\DVal w' (λ g=>w.heap.size<=g) d (zb_ k n tx vk vs)
def BdOK (s:BA) (env:Nat->Option PB) (ts:List TR) (f:Nat) (t:PT) (i n:Nat):Prop:=
 ∀ (w:World) (P:Nat->Prop) (bd bz k:Nat),XBM w P bd s bz i n 0 ts env w->n<=300->isT ts k t->
  Calls prog 26 #[.pointer (some ⟨bd,0,none⟩),.int .i64 (k:Int)] w (jd_ w bd s bz (rdB s env f t i n))
section
variable {w W W':World} {P:Nat->Prop} {bd:Nat} {s:BA} {bz j m:Nat} {er:Int} {ts:List TR} {env:Nat->Option PB} {k:Nat} {n:Int} {tx:BA} {vk vs:Value} {d:DT} {r:Except Nat (DT×Nat×Nat)}
theorem zf7 (M:XBM w P bd s bz j m 0 ts env W) (o:m<=300) (a:DVal W (λ g=>w.heap.size<g) d (zb_ k n tx vk vs)) (h:Fr W W' (λ g=>g=w.heap.size)) (q:r=.ok (d,j,m)) :
 jd_ w bd s bz r (.returned (.agg (zb_ k n tx vk vs).toArray)) W':=by
 have c:=M.own (h.mono (λ _ _ e=>by omega));have l:=(a.fr h (λ g hg=>by omega)).mono (Q:=λ g=>w.heap.size<=g) (λ g _ hg=>by omega);refine⟨k,n,tx,vk,vs,rfl,?_,?_,c.fr,?_⟩
 ·generalize b:zb_ k n tx vk vs=v at a
  cases a with
  | mk X hk hkP hs hsP hd=>
   simp only[zb_,List.cons.injEq,and_true] at b;obtain⟨_,_,_,rfl,rfl⟩:=b;exact zn_ hk
 ·generalize b:zb_ k n tx vk vs=v at a
  cases a with
  | mk X hk hkP hs hsP hd=>
   simp only[zb_,List.cons.injEq,and_true] at b;obtain⟨_,_,_,rfl,rfl⟩:=b;exact zn_ hs
 ·subst q;exact⟨M.jl,o,c.L,l⟩
theorem zc9 {e0:Nat}(h0:e0≠0) (M:XBM w P bd s bz j m (e0:Int) ts env W) (o:m<=301) (h1:∃ a m c,vk=.slice a m c) (h:∃ a m c,vs=.slice a m c) (l:Fr W W' (λ g=>g=w.heap.size)) (q:r=.error e0) :
 jd_ w bd s bz r (.returned (.agg (zb_ k n tx vk vs).toArray)) W':=by
 have b:=M.own (l.mono (λ _ _ e=>by omega));refine⟨k,n,tx,vk,vs,rfl,h1,h,b.fr,?_⟩;subst q;exact⟨h0,j,m,M.jl,o,b.L⟩
end
def dwn (w:World) (bd n c:Nat) (sv:Value):World:=(dw w c sv).setCell ⟨bd,4,none⟩ (.int .i64 ((n:Int)+1))
section
variable {w:World} {P:Nat->Prop} {bd:Nat} {s:BA} {bz i n:Nat} {er:Int} {ts:List TR} {env:Nat->Option PB}
theorem zz6 (M:XBM w P bd s bz i n er ts env w) (c:Nat) (sv:Value):XBM w P bd s bz i n er ts env (dw w c sv):=((M.alloc _).alloc _).alloc _
theorem zc3 (M:XBM w P bd s bz i n er ts env w) (c:Nat) (sv:Value):XBM w P bd s bz i (n+1) er ts env (dwn w bd n c sv):=(zz6 M c sv).node
theorem zgv (h:bd<w.heap.size) (c:Nat) (sv:Value):Blk (dwn w bd n c sv) w.heap.size zg_ 37:=(dw_0 w c sv).other _ (by simp;omega)
theorem zdu (h:bd<w.heap.size) (c:Nat) (sv:Value):Blk (dwn w bd n c sv) (w.heap.size+1) [.int .u8 (c:Int),sv] 77:=(dw_1 w c sv).other _ (by simp;omega)
theorem zgu (h:bd<w.heap.size) (c:Nat) (sv:Value):Blk (dwn w bd n c sv) (w.heap.size+2) (zb_ c 0 noB (.slice none 0 0) (.slice none 0 0)) 37:=(dw_2 w c sv).other _ (by simp;omega)
end
theorem zgm {w:World}{b t:Nat}{cs:List Value}(h:Blk w b cs t) (o:Nat) (X Y Z:Obj):(((w.alloc X).alloc Y).alloc Z).frozen? ⟨b,o,none⟩=false:=(((h.alloc X).alloc Y).alloc Z).thaw o
open Go.RowKit
theorem bd_n {s:BA}{env:Nat->Option PB}{ts:List TR}{i n:Nat}(hn:n<300):BdOK s env ts (f+1) (.leaf 110 p) i n:=by
 intro w P bd bz k M a6 hk;simp only[isT] at hk;obtain⟨g,m,S,sv,z0,a1,l,Q,ho,t⟩:=M.Z.type hk;simp only[af_] at l;refine hq_ λ R y=>?_;have h:=M.lt;have a3:=zk_ z0;have a4:=zk_ l;have c2:=M.L.c2;have c3:=M.L.c3;have c4:=M.L.c4;have a0:=M.jl;have a7:=M.sl;obtain⟨b,sn,c,rfl⟩:=zn_ ho;have z:=λ X Y Z=>zl_ c2 X Y Z;have d4:=λ X Y Z=>zl_ c4 X Y Z;have d5:=λ X Y Z=>zgm M.L 4 X Y Z
 have a2:(k:Int)<(m:Int):=by omega
 have a5:¬ (n:Int)+1 > 300:=by omega
 have x:=q_ (zc3 M 110 (.slice b sn c));have a:=q_ (zgv (n:=n) h 110 (.slice b sn c));have q:=q_ (zdu (n:=n) h 110 (.slice b sn c));have e:=q_ (zgu (n:=n) h 110 (.slice b sn c));replace M:=q_ M;replace ho:=q_ ho;replace t:=q_ t;have B:=q_ (show rdB s env (f+1) (.leaf 110 p) i n=.ok (.mk 110 0 noB [] [],i,n+1) by unfold rdB;rw[if_neg (by omega)];simp[j6_])
 go_in
 go_upto_if 39 with fail
 change Code.wp _ _ _ _ (dwn w bd n 110 (.slice b sn c));generalize dwn w bd n 110 (.slice b sn c)=W0 at *;have u0:=q.o.cell 0;have O:=q.o.cell 1;simp only[aa_,ab_,af_] at u0 O;clear c2 c3 c4 z d4 d5 z0 l Q;have r0:=a.o.cell 0;have r1:=a.o.cell 1;have G:=a.o.cell 2;have H:=a.o.cell 3;have I:=a.o.cell 4;have J:=e.o.cell 0;have K:=e.o.cell 1;have N:=e.o.cell 2;have t3:=e.o.cell 3;have t4:=e.o.cell 4;obtain⟨T,U,V,g3,g4⟩:=a.o.t5;simp only[zg_,zb_,aa_,ab_,af_] at r0 r1 G H I J K N t3 t4
 go_wp2_with fail
 have u:=Blk.five a.o (.int .u8 110) (.int .i64 0) (.string noB) (.slice none 0 0) (.slice none 0 0);obtain⟨C,D,E,q3,F⟩:=u.d5;have A:=Fr.five W0 (w.heap.size) (.int .u8 110) (.int .i64 0) (.string noB) (.slice none 0 0) (.slice none 0 0);generalize (World.setCell (World.setCell (World.setCell (World.setCell (World.setCell W0 ⟨w.heap.size,0,none⟩ (.int .u8 110)) ⟨w.heap.size,1,none⟩ (.int .i64 0)) ⟨w.heap.size,2,none⟩ (.string noB)) ⟨w.heap.size,3,none⟩ (.slice none 0 0)) ⟨w.heap.size,4,none⟩ (.slice none 0 0))=W5 at *;refine bodyPost_ret (v:=.agg (zb_ 110 0 noB (.slice none 0 0) (.slice none 0 0)).toArray) (by simp[results,results26,go_sem,C,D,E,q3,F,zb_]) rfl ?_;rw[y.o];rw[B.o];exact zf7 x.o (by omega) (DVal.bare _ _ 110 0 noB) A rfl
theorem bd_t {s:BA}{env:Nat->Option PB}{ts:List TR}{i n:Nat}(hn:n<300):BdOK s env ts (f+1) (.leaf 116 p) i n:=by
 intro w P bd bz k M b9 hk;simp only[isT] at hk;obtain⟨g,m,a9,sv,z0,b4,z1,z2,ho,a3⟩:=M.Z.type hk;simp only[af_] at z1;refine hq_ λ a8 Q_=>?_;have a1:=M.lt;have b6:=zk_ z0;have b7:=zk_ z1;have c2:=M.L.c2;have c3:=M.L.c3;have c4:=M.L.c4;have a6:=M.jl;have a7:=M.sl;obtain⟨F,sn,G,rfl⟩:=zn_ ho;have d2:=λ X Y Z=>zl_ c2 X Y Z;have d4:=λ X Y Z=>zl_ c4 X Y Z;have d5:=λ X Y Z=>zgm M.L 4 X Y Z
 have b5:(k:Int)<(m:Int):=by omega
 have b8:¬ (n:Int)+1 > 300:=by omega
 have K:=q_ (zc3 M 116 (.slice F sn G));have B0:=q_ (zgv (n:=n) a1 116 (.slice F sn G));have H:=q_ (zdu (n:=n) a1 116 (.slice F sn G));have B2:=q_ (zgu (n:=n) a1 116 (.slice F sn G));replace M:=q_ M;replace ho:=q_ ho;replace a3:=q_ a3;have a4:=q_ (λ (W:World) (j n:Nat) (er:Int) (h:DAt W bd s bz j er n)=>x7_ (e0:=6) h)
 go_in
 go_upto_if 39 with fail
 change Code.wp _ _ _ _ (dwn w bd n 116 (.slice F sn G));generalize dwn w bd n 116 (.slice F sn G)=W0 at *;have u0:=H.o.cell 0;have u1:=H.o.cell 1;simp only[aa_,ab_,af_] at u0 u1;clear c2 c3 c4 d2 d4 d5 z0 z1 z2
 have D:rdB s env (f+1) (.leaf 116 p) i n=if i<s.size/\bt s i<=1 then .ok (.mk 116 (bt s i:Int) noB [] [],i+1,n+1) else .error 6:=by unfold rdB;rw[if_neg (by omega)];simp[j6_]
 by_cases hl:i=s.size
 ·have O:=q_ (show rdB s env (f+1) (.leaf 116 p) i n=.error 6 by rw[D,if_neg (by omega)]);have C:=q_ (ze0 K.o.L hl);clear D
  go_wp2_with (go_at_call 44;refine C.o.mono ?_;rintro e w1 ⟨rfl,h1,l⟩;have y:=K.o.call h1 l a6;have u:=l.blk B0.o (by omega);have z:=l.blk H.o (by omega);have q:=l.blk B2.o (by omega);have Q:=q.cell 1;have p2:=q.thaw 1;simp only[zb_,aa_,ab_] at Q;have t:=y.put ⟨w.heap.size+1+1,1,none⟩ (.int .i64 0) (by simp;omega);have E2:=Blk.set q 1 (.int .i64 0);have b:=Blk.other u (a:=⟨w.heap.size+2,1,none⟩) (.int .i64 0) (by simp);have r0:=b.cell 0;have r1:=b.cell 1;have V:=b.cell 2;have r3:=b.cell 3;have r4:=b.cell 4;have t0:=E2.cell 0;have E:=E2.cell 1;have t2:=E2.cell 2;have t3:=E2.cell 3;have t4:=E2.cell 4;obtain⟨g0,g1,g2,g3,g4⟩:=b.t5;simp only[zg_,zb_,aa_,ab_,aj_,al_,af_] at r0 r1 V r3 r4 t0 E t2 t3 t4;replace y:=q_ y;replace u:=q_ u;replace z:=q_ z;replace q:=q_ q;replace t:=q_ t;replace b:=q_ b;replace E2:=q_ E2;replace l:=q_ l)
  have J:=Blk.five b.o (.int .u8 116) (.int .i64 0) (.string noB) (.slice none 0 0) (.slice none 0 0);obtain⟨R,S,T,q3,U⟩:=J.d5;have N:=Fr.five (w1.setCell ⟨w.heap.size+1+1,1,none⟩ (.int .i64 0)) (w.heap.size) (.int .u8 116) (.int .i64 0) (.string noB) (.slice none 0 0) (.slice none 0 0);generalize (World.setCell (World.setCell (World.setCell (World.setCell (World.setCell (w1.setCell ⟨w.heap.size+1+1,1,none⟩ (.int .i64 0)) ⟨w.heap.size,0,none⟩ (.int .u8 116)) ⟨w.heap.size,1,none⟩ (.int .i64 0)) ⟨w.heap.size,2,none⟩ (.string noB)) ⟨w.heap.size,3,none⟩ (.slice none 0 0)) ⟨w.heap.size,4,none⟩ (.slice none 0 0))=W5 at *;refine bodyPost_ret (v:=.agg (zb_ 116 0 noB (.slice none 0 0) (.slice none 0 0)).toArray) (by simp[results,results26,go_sem,R,S,T,q3,U,zb_]) rfl ?_;rw[Q_.o];rw[O.o];exact zc9 (by decide) t.o (by omega) ⟨_,_,_,rfl⟩ ⟨_,_,_,rfl⟩ N rfl
 ·have a0:i<s.size:=by omega
  obtain⟨c,hc⟩:∃ c,bt s i=c:=⟨_,rfl⟩;have C:=zc5 K.o.L a7 a0;rw[hc] at C D;replace C:=q_ C
  by_cases a2:c<=1
  ·have a5:¬ (c:Int) > 1:=by omega
   have O:=q_ (show rdB s env (f+1) (.leaf 116 p) i n=.ok (.mk 116 (c:Int) noB [] [],i+1,n+1) by rw[D,if_pos ⟨a0,a2⟩]);clear D hc
   go_wp2_with (go_at_call 44;refine C.o.mono ?_;rintro e w1 ⟨rfl,h1,l⟩;have y:=K.o.call h1 l a0;have u:=l.blk B0.o (by omega);have z:=l.blk H.o (by omega);have q:=l.blk B2.o (by omega);have Q:=q.cell 1;have p2:=q.thaw 1;simp only[zb_,aa_,ab_] at Q;have t:=y.put ⟨w.heap.size+1+1,1,none⟩ (.int .i64 (c:Int)) (by simp;omega);have E2:=Blk.set q 1 (.int .i64 (c:Int));have b:=Blk.other u (a:=⟨w.heap.size+2,1,none⟩) (.int .i64 (c:Int)) (by simp);have r0:=b.cell 0;have r1:=b.cell 1;have V:=b.cell 2;have r3:=b.cell 3;have r4:=b.cell 4;have t0:=E2.cell 0;have E:=E2.cell 1;have t2:=E2.cell 2;have t3:=E2.cell 3;have t4:=E2.cell 4;obtain⟨g0,g1,g2,g3,g4⟩:=b.t5;simp only[zg_,zb_,aa_,ab_,aj_,al_,af_] at r0 r1 V r3 r4 t0 E t2 t3 t4;replace y:=q_ y;replace u:=q_ u;replace z:=q_ z;replace q:=q_ q;replace t:=q_ t;replace b:=q_ b;replace E2:=q_ E2;replace l:=q_ l)
   have J:=Blk.five b.o (.int .u8 116) (.int .i64 (c:Int)) (.string noB) (.slice none 0 0) (.slice none 0 0);obtain⟨R,S,T,q3,U⟩:=J.d5;have N:=Fr.five (w1.setCell ⟨w.heap.size+1+1,1,none⟩ (.int .i64 (c:Int))) (w.heap.size) (.int .u8 116) (.int .i64 (c:Int)) (.string noB) (.slice none 0 0) (.slice none 0 0);generalize (World.setCell (World.setCell (World.setCell (World.setCell (World.setCell (w1.setCell ⟨w.heap.size+1+1,1,none⟩ (.int .i64 (c:Int))) ⟨w.heap.size,0,none⟩ (.int .u8 116)) ⟨w.heap.size,1,none⟩ (.int .i64 (c:Int))) ⟨w.heap.size,2,none⟩ (.string noB)) ⟨w.heap.size,3,none⟩ (.slice none 0 0)) ⟨w.heap.size,4,none⟩ (.slice none 0 0))=W5 at *;refine bodyPost_ret (v:=.agg (zb_ 116 (c:Int) noB (.slice none 0 0) (.slice none 0 0)).toArray) (by simp[results,results26,go_sem,R,S,T,q3,U,zb_]) rfl ?_;rw[Q_.o];rw[O.o];exact zf7 t.o (by omega) (DVal.bare _ _ 116 (c:Int) noB) N rfl
  ·have a5:(c:Int) > 1:=by omega
   have O:=q_ (show rdB s env (f+1) (.leaf 116 p) i n=.error 6 by rw[D,if_neg (λ x=>a2 x.2)]);clear D hc
   go_wp2_with (first
    |(go_at_call 44;refine C.o.mono ?_;rintro e w1 ⟨rfl,h1,l⟩;have y:=K.o.call h1 l a0;have u:=l.blk B0.o (by omega);have z:=l.blk H.o (by omega);have q:=l.blk B2.o (by omega);have Q:=q.cell 1;have p2:=q.thaw 1;simp only[zb_,aa_,ab_] at Q;have t:=y.put ⟨w.heap.size+1+1,1,none⟩ (.int .i64 (c:Int)) (by simp;omega);have E2:=Blk.set q 1 (.int .i64 (c:Int));have b:=Blk.other u (a:=⟨w.heap.size+2,1,none⟩) (.int .i64 (c:Int)) (by simp);have E1:=Blk.other z (a:=⟨w.heap.size+2,1,none⟩) (.int .i64 (c:Int)) (by simp);have E:=E2.cell 1;have v0:=E1.cell 0;simp only[zb_,aa_,ab_,aj_,al_,af_] at E v0;replace E1:=q_ E1;replace y:=q_ y;replace u:=q_ u;replace z:=q_ z;replace q:=q_ q;replace t:=q_ t;replace b:=q_ b;replace E2:=q_ E2;replace l:=q_ l)
    |(go_at_call 43;refine(a4.o _ _ _ _ t.o.L).mono ?_;rintro e w2 ⟨rfl,h2,I⟩;have M3:=t.o.call h2 I t.o.jl;have A:=I.blk b.o (by omega);have B:=I.blk E2.o (by omega);have r0:=A.cell 0;have r1:=A.cell 1;have V:=A.cell 2;have r3:=A.cell 3;have r4:=A.cell 4;have t0:=B.cell 0;have E:=B.cell 1;have t2:=B.cell 2;have t3:=B.cell 3;have t4:=B.cell 4;obtain⟨g0,g1,g2,g3,g4⟩:=A.t5;simp only[zg_,zb_,aa_,ab_,aj_,al_,af_] at r0 r1 V r3 r4 t0 E t2 t3 t4;replace M3:=q_ M3;replace A:=q_ A;replace B:=q_ B;replace I:=q_ I))
   have J:=Blk.five A.o (.int .u8 116) (.int .i64 (c:Int)) (.string noB) (.slice none 0 0) (.slice none 0 0);obtain⟨R,S,T,q3,U⟩:=J.d5;have N:=Fr.five w2 (w.heap.size) (.int .u8 116) (.int .i64 (c:Int)) (.string noB) (.slice none 0 0) (.slice none 0 0);generalize (World.setCell (World.setCell (World.setCell (World.setCell (World.setCell w2 ⟨w.heap.size,0,none⟩ (.int .u8 116)) ⟨w.heap.size,1,none⟩ (.int .i64 (c:Int))) ⟨w.heap.size,2,none⟩ (.string noB)) ⟨w.heap.size,3,none⟩ (.slice none 0 0)) ⟨w.heap.size,4,none⟩ (.slice none 0 0))=W5 at *;refine bodyPost_ret (v:=.agg (zb_ 116 (c:Int) noB (.slice none 0 0) (.slice none 0 0)).toArray) (by simp[results,results26,go_sem,R,S,T,q3,U,zb_]) rfl ?_;rw[Q_.o];rw[O.o];exact zc9 (by decide) M3.o (by omega) ⟨_,_,_,rfl⟩ ⟨_,_,_,rfl⟩ N rfl
theorem bd_i {s:BA}{env:Nat->Option PB}{ts:List TR}{i n:Nat}(hn:n<300):BdOK s env ts (f+1) (.leaf 105 p) i n:=by
 intro w P bd bz k M b8 hk;simp only[isT] at hk;obtain⟨g,m,a8,sv,z0,a9,z1,z2,ho,a1⟩:=M.Z.type hk;simp only[af_] at z1;refine hq_ λ a7 Q_=>?_;have a0:=M.lt;have b5:=zk_ z0;have b6:=zk_ z1;have c2:=M.L.c2;have c3:=M.L.c3;have c4:=M.L.c4;have a3:=M.jl;have a4:=M.sl;obtain⟨E,sn,F,rfl⟩:=zn_ ho;have d2:=λ X Y Z=>zl_ c2 X Y Z;have d4:=λ X Y Z=>zl_ c4 X Y Z;have d5:=λ X Y Z=>zgm M.L 4 X Y Z
 have b4:(k:Int)<(m:Int):=by omega
 have b7:¬ (n:Int)+1 > 300:=by omega
 have M0:=q_ (zc3 M 105 (.slice E sn F));have B0:=q_ (zgv (n:=n) a0 105 (.slice E sn F));have G:=q_ (zdu (n:=n) a0 105 (.slice E sn F));have B2:=q_ (zgu (n:=n) a0 105 (.slice E sn F));replace M:=q_ M;replace ho:=q_ ho;replace a1:=q_ a1;have a2:=q_ (λ (W:World) (j n:Nat) (er:Int) (h:DAt W bd s bz j er n)=>x7_ (e0:=6) h)
 go_in
 go_upto_if 39 with fail
 change Code.wp _ _ _ _ (dwn w bd n 105 (.slice E sn F));generalize dwn w bd n 105 (.slice E sn F)=W0 at *;have u0:=G.o.cell 0;have u1:=G.o.cell 1;simp only[aa_,ab_,af_] at u0 u1;clear c2 c3 c4 d2 d4 d5 z0 z1 z2
 have D:rdB s env (f+1) (.leaf 105 p) i n=(match bNum s (-2147483648) 2147483647 i with|none=>.error 6|some (q,j)=>.ok (.mk 105 q noB [] [],j,n+1)):=by unfold rdB;rw[if_neg (by omega)];show j6_ _ s env 105 i (n+1)=_;unfold j6_;rw[if_neg (by decide),if_neg (by decide),if_pos rfl];rfl
 have z:=jp_ M0.o.L a4 a3
 cases hb:bL s i with
 | none=>
  rw[hb] at z;have N:=q_ (show rdB s env (f+1) (.leaf 105 p) i n=.error 6 by rw[D];unfold bNum;rw[hb]);replace z:=q_ z;clear D hb
  go_wp2_with (go_at_call 45;refine z.o.mono ?_;rintro e w1 ⟨c,rfl,j,K,h1⟩;have y:=M0.o.call h1 c K;have u:=c.blk B0.o (by omega);have x:=c.blk G.o (by omega);have l:=c.blk B2.o (by omega);have O:=l.cell 1;have p2:=l.thaw 1;simp only[zb_,aa_,ab_] at O;have t:=y.put ⟨w.heap.size+1+1,1,none⟩ (.int .i64 0) (by simp;omega);have E2:=Blk.set l 1 (.int .i64 0);have b:=Blk.other u (a:=⟨w.heap.size+2,1,none⟩) (.int .i64 0) (by simp);have E1:=Blk.other x (a:=⟨w.heap.size+2,1,none⟩) (.int .i64 0) (by simp);have v0:=E1.cell 0;simp only[aa_,af_] at v0;clear E1;have r0:=b.cell 0;have r1:=b.cell 1;have U:=b.cell 2;have V:=b.cell 3;have r4:=b.cell 4;have t0:=E2.cell 0;have C:=E2.cell 1;have t2:=E2.cell 2;have t3:=E2.cell 3;have t4:=E2.cell 4;obtain⟨g0,g1,g2,g3,g4⟩:=b.t5;simp only[zg_,zb_,aa_,ab_,aj_,al_,af_] at r0 r1 U V r4 t0 C t2 t3 t4;replace y:=q_ y;replace u:=q_ u;replace x:=q_ x;replace l:=q_ l;replace t:=q_ t;replace b:=q_ b;replace E2:=q_ E2;replace c:=q_ c)
  have I:=Blk.five b.o (.int .u8 105) (.int .i64 0) (.string noB) (.slice none 0 0) (.slice none 0 0);obtain⟨Q,R,S,q3,T⟩:=I.d5;have J:=Fr.five (w1.setCell ⟨w.heap.size+1+1,1,none⟩ (.int .i64 0)) (w.heap.size) (.int .u8 105) (.int .i64 0) (.string noB) (.slice none 0 0) (.slice none 0 0);generalize (World.setCell (World.setCell (World.setCell (World.setCell (World.setCell (w1.setCell ⟨w.heap.size+1+1,1,none⟩ (.int .i64 0)) ⟨w.heap.size,0,none⟩ (.int .u8 105)) ⟨w.heap.size,1,none⟩ (.int .i64 0)) ⟨w.heap.size,2,none⟩ (.string noB)) ⟨w.heap.size,3,none⟩ (.slice none 0 0)) ⟨w.heap.size,4,none⟩ (.slice none 0 0))=W5 at *;refine bodyPost_ret (v:=.agg (zb_ 105 0 noB (.slice none 0 0) (.slice none 0 0)).toArray) (by simp[results,results26,go_sem,Q,R,S,q3,T,zb_]) rfl ?_;rw[Q_.o];rw[N.o];exact zc9 (by decide) t.o (by omega) ⟨_,_,_,rfl⟩ ⟨_,_,_,rfl⟩ J rfl
 | some q=>
  obtain⟨v,j⟩:=q;rw[hb] at z
  by_cases hv : -2147483648<=v/\v<=2147483647
  ·have N:=q_ (show rdB s env (f+1) (.leaf 105 p) i n=.ok (.mk 105 v noB [] [],j,n+1) by rw[D];unfold bNum;rw[hb];simp only;rw[if_pos hv]);obtain⟨a5,a6⟩:=hv
   have b9:¬ v < -2147483648:=by omega
   have d0:¬ v > 2147483647:=by omega
   replace z:=q_ z;clear D hb
   go_wp2_with (go_at_call 45;refine z.o.mono ?_;rintro e w1 ⟨c,rfl,K,h1⟩;have y:=M0.o.call h1 c K;have u:=c.blk B0.o (by omega);have x:=c.blk G.o (by omega);have l:=c.blk B2.o (by omega);have O:=l.cell 1;have p2:=l.thaw 1;simp only[zb_,aa_,ab_] at O;have t:=y.put ⟨w.heap.size+1+1,1,none⟩ (.int .i64 v) (by simp;omega);have E2:=Blk.set l 1 (.int .i64 v);have b:=Blk.other u (a:=⟨w.heap.size+2,1,none⟩) (.int .i64 v) (by simp);have E1:=Blk.other x (a:=⟨w.heap.size+2,1,none⟩) (.int .i64 v) (by simp);have v0:=E1.cell 0;simp only[aa_,af_] at v0;clear E1;have r0:=b.cell 0;have r1:=b.cell 1;have U:=b.cell 2;have V:=b.cell 3;have r4:=b.cell 4;have t0:=E2.cell 0;have C:=E2.cell 1;have t2:=E2.cell 2;have t3:=E2.cell 3;have t4:=E2.cell 4;obtain⟨g0,g1,g2,g3,g4⟩:=b.t5;simp only[zg_,zb_,aa_,ab_,aj_,al_,af_] at r0 r1 U V r4 t0 C t2 t3 t4;replace y:=q_ y;replace u:=q_ u;replace x:=q_ x;replace l:=q_ l;replace t:=q_ t;replace b:=q_ b;replace E2:=q_ E2;replace c:=q_ c)
   have I:=Blk.five b.o (.int .u8 105) (.int .i64 v) (.string noB) (.slice none 0 0) (.slice none 0 0);obtain⟨Q,R,S,q3,T⟩:=I.d5;have J:=Fr.five (w1.setCell ⟨w.heap.size+1+1,1,none⟩ (.int .i64 v)) (w.heap.size) (.int .u8 105) (.int .i64 v) (.string noB) (.slice none 0 0) (.slice none 0 0);generalize (World.setCell (World.setCell (World.setCell (World.setCell (World.setCell (w1.setCell ⟨w.heap.size+1+1,1,none⟩ (.int .i64 v)) ⟨w.heap.size,0,none⟩ (.int .u8 105)) ⟨w.heap.size,1,none⟩ (.int .i64 v)) ⟨w.heap.size,2,none⟩ (.string noB)) ⟨w.heap.size,3,none⟩ (.slice none 0 0)) ⟨w.heap.size,4,none⟩ (.slice none 0 0))=W5 at *;refine bodyPost_ret (v:=.agg (zb_ 105 v noB (.slice none 0 0) (.slice none 0 0)).toArray) (by simp[results,results26,go_sem,Q,R,S,q3,T,zb_]) rfl ?_;rw[Q_.o];rw[N.o];exact zf7 t.o (by omega) (DVal.bare _ _ 105 v noB) J rfl
  ·have N:=q_ (show rdB s env (f+1) (.leaf 105 p) i n=.error 6 by rw[D];unfold bNum;rw[hb];simp only;rw[if_neg hv]);replace z:=q_ z;clear D hb
   by_cases a5:v < -2147483648
   all_goals (try have a6:v > 2147483647:=by omega)
   all_goals
    go_wp2_with (first
     |(go_at_call 45;refine z.o.mono ?_;rintro e w1 ⟨c,rfl,K,h1⟩;have y:=M0.o.call h1 c K;have u:=c.blk B0.o (by omega);have x:=c.blk G.o (by omega);have l:=c.blk B2.o (by omega);have O:=l.cell 1;have p2:=l.thaw 1;simp only[zb_,aa_,ab_] at O;have t:=y.put ⟨w.heap.size+1+1,1,none⟩ (.int .i64 v) (by simp;omega);have E2:=Blk.set l 1 (.int .i64 v);have b:=Blk.other u (a:=⟨w.heap.size+2,1,none⟩) (.int .i64 v) (by simp);have E1:=Blk.other x (a:=⟨w.heap.size+2,1,none⟩) (.int .i64 v) (by simp);have C:=E2.cell 1;have v0:=E1.cell 0;simp only[zb_,aa_,ab_,aj_,al_,af_] at C v0;replace E1:=q_ E1;replace y:=q_ y;replace u:=q_ u;replace x:=q_ x;replace l:=q_ l;replace t:=q_ t;replace b:=q_ b;replace E2:=q_ E2;replace c:=q_ c)
     |(go_at_call 43;refine(a2.o _ _ _ _ t.o.L).mono ?_;rintro e w2 ⟨rfl,h2,H⟩;have M3:=t.o.call h2 H t.o.jl;have A:=H.blk b.o (by omega);have B:=H.blk E2.o (by omega);have r0:=A.cell 0;have r1:=A.cell 1;have U:=A.cell 2;have V:=A.cell 3;have r4:=A.cell 4;have t0:=B.cell 0;have C:=B.cell 1;have t2:=B.cell 2;have t3:=B.cell 3;have t4:=B.cell 4;obtain⟨g0,g1,g2,g3,g4⟩:=A.t5;simp only[zg_,zb_,aa_,ab_,aj_,al_,af_] at r0 r1 U V r4 t0 C t2 t3 t4;replace M3:=q_ M3;replace A:=q_ A;replace B:=q_ B;replace H:=q_ H))
    have I:=Blk.five A.o (.int .u8 105) (.int .i64 v) (.string noB) (.slice none 0 0) (.slice none 0 0);obtain⟨Q,R,S,q3,T⟩:=I.d5;have J:=Fr.five w2 (w.heap.size) (.int .u8 105) (.int .i64 v) (.string noB) (.slice none 0 0) (.slice none 0 0);generalize (World.setCell (World.setCell (World.setCell (World.setCell (World.setCell w2 ⟨w.heap.size,0,none⟩ (.int .u8 105)) ⟨w.heap.size,1,none⟩ (.int .i64 v)) ⟨w.heap.size,2,none⟩ (.string noB)) ⟨w.heap.size,3,none⟩ (.slice none 0 0)) ⟨w.heap.size,4,none⟩ (.slice none 0 0))=W5 at *;refine bodyPost_ret (v:=.agg (zb_ 105 v noB (.slice none 0 0) (.slice none 0 0)).toArray) (by simp[results,results26,go_sem,Q,R,S,q3,T,zb_]) rfl ?_;rw[Q_.o];rw[N.o];exact zc9 (by decide) M3.o (by omega) ⟨_,_,_,rfl⟩ ⟨_,_,_,rfl⟩ J rfl
theorem bd_l {s:BA}{env:Nat->Option PB}{ts:List TR}{i n:Nat}(hn:n<300):BdOK s env ts (f+1) (.leaf 108 p) i n:=by
 intro w P bd bz k M b4 hk;simp only[isT] at hk;obtain⟨g,m,a4,sv,z0,a5,z1,z2,ho,a0⟩:=M.Z.type hk;simp only[af_] at z1;refine hq_ λ a3 Q_=>?_;have H:=M.lt;have a7:=zk_ z0;have a8:=zk_ z1;have c2:=M.L.c2;have c3:=M.L.c3;have c4:=M.L.c4;have a1:=M.jl;have a2:=M.sl;obtain⟨z,sn,A,rfl⟩:=zn_ ho;have d2:=λ X Y Z=>zl_ c2 X Y Z;have d4:=λ X Y Z=>zl_ c4 X Y Z;have d5:=λ X Y Z=>zgm M.L 4 X Y Z
 have a6:(k:Int)<(m:Int):=by omega
 have a9:¬ (n:Int)+1 > 300:=by omega
 have E:=q_ (zc3 M 108 (.slice z sn A));have B0:=q_ (zgv (n:=n) H 108 (.slice z sn A));have B:=q_ (zdu (n:=n) H 108 (.slice z sn A));have B2:=q_ (zgu (n:=n) H 108 (.slice z sn A));replace M:=q_ M;replace ho:=q_ ho;replace a0:=q_ a0
 go_in
 go_upto_if 39 with fail
 change Code.wp _ _ _ _ (dwn w bd n 108 (.slice z sn A));generalize dwn w bd n 108 (.slice z sn A)=W0 at *;have u0:=B.o.cell 0;have u1:=B.o.cell 1;simp only[aa_,ab_,af_] at u0 u1;clear c2 c3 c4 d2 d4 d5 z0 z1 z2
 have C:rdB s env (f+1) (.leaf 108 p) i n=(match bL s i with|none=>.error 6|some (q,j)=>.ok (.mk 108 q noB [] [],j,n+1)):=by unfold rdB;rw[if_neg (by omega)];show j6_ _ s env 108 i (n+1)=_;unfold j6_;rw[if_neg (by decide),if_neg (by decide),if_neg (by decide),if_pos rfl];rfl
 have l:=jp_ E.o.L a2 a1
 cases hb:bL s i with
 | none=>
  rw[hb] at l;have I:=q_ (show rdB s env (f+1) (.leaf 108 p) i n=.error 6 by rw[C];rw[hb]);replace l:=q_ l;clear C hb
  go_wp2_with (go_at_call 45;refine l.o.mono ?_;rintro e w1 ⟨c,rfl,j,G,h1⟩;have x:=E.o.call h1 c G;have t:=c.blk B0.o (by omega);have u:=c.blk B.o (by omega);have h:=c.blk B2.o (by omega);have J:=h.cell 1;have p2:=h.thaw 1;simp only[zb_,aa_,ab_] at J;have y:=x.put ⟨w.heap.size+1+1,1,none⟩ (.int .i64 0) (by simp;omega);have E2:=Blk.set h 1 (.int .i64 0);have b:=Blk.other t (a:=⟨w.heap.size+2,1,none⟩) (.int .i64 0) (by simp);have E1:=Blk.other u (a:=⟨w.heap.size+2,1,none⟩) (.int .i64 0) (by simp);have v0:=E1.cell 0;simp only[aa_,af_] at v0;clear E1;have r0:=b.cell 0;have r1:=b.cell 1;have R:=b.cell 2;have S:=b.cell 3;have T:=b.cell 4;have U:=E2.cell 0;have V:=E2.cell 1;have t2:=E2.cell 2;have t3:=E2.cell 3;have t4:=E2.cell 4;obtain⟨g0,g1,g2,g3,g4⟩:=b.t5;simp only[zg_,zb_,aa_,ab_,aj_,al_,af_] at r0 r1 R S T U V t2 t3 t4;replace x:=q_ x;replace t:=q_ t;replace u:=q_ u;replace h:=q_ h;replace y:=q_ y;replace b:=q_ b;replace E2:=q_ E2;replace c:=q_ c)
  have D:=Blk.five b.o (.int .u8 108) (.int .i64 0) (.string noB) (.slice none 0 0) (.slice none 0 0);obtain⟨K,N,O,q3,Q⟩:=D.d5;have F:=Fr.five (w1.setCell ⟨w.heap.size+1+1,1,none⟩ (.int .i64 0)) (w.heap.size) (.int .u8 108) (.int .i64 0) (.string noB) (.slice none 0 0) (.slice none 0 0);generalize (World.setCell (World.setCell (World.setCell (World.setCell (World.setCell (w1.setCell ⟨w.heap.size+1+1,1,none⟩ (.int .i64 0)) ⟨w.heap.size,0,none⟩ (.int .u8 108)) ⟨w.heap.size,1,none⟩ (.int .i64 0)) ⟨w.heap.size,2,none⟩ (.string noB)) ⟨w.heap.size,3,none⟩ (.slice none 0 0)) ⟨w.heap.size,4,none⟩ (.slice none 0 0))=W5 at *;refine bodyPost_ret (v:=.agg (zb_ 108 0 noB (.slice none 0 0) (.slice none 0 0)).toArray) (by simp[results,results26,go_sem,K,N,O,q3,Q,zb_]) rfl ?_;rw[Q_.o];rw[I.o];exact zc9 (by decide) y.o (by omega) ⟨_,_,_,rfl⟩ ⟨_,_,_,rfl⟩ F rfl
 | some q=>
  obtain⟨v,j⟩:=q;rw[hb] at l;have I:=q_ (show rdB s env (f+1) (.leaf 108 p) i n=.ok (.mk 108 v noB [] [],j,n+1) by rw[C,hb]);replace l:=q_ l;clear C hb
  go_wp2_with (go_at_call 45;refine l.o.mono ?_;rintro e w1 ⟨c,rfl,G,h1⟩;have x:=E.o.call h1 c G;have t:=c.blk B0.o (by omega);have u:=c.blk B.o (by omega);have h:=c.blk B2.o (by omega);have J:=h.cell 1;have p2:=h.thaw 1;simp only[zb_,aa_,ab_] at J;have y:=x.put ⟨w.heap.size+1+1,1,none⟩ (.int .i64 v) (by simp;omega);have E2:=Blk.set h 1 (.int .i64 v);have b:=Blk.other t (a:=⟨w.heap.size+2,1,none⟩) (.int .i64 v) (by simp);have E1:=Blk.other u (a:=⟨w.heap.size+2,1,none⟩) (.int .i64 v) (by simp);have v0:=E1.cell 0;simp only[aa_,af_] at v0;clear E1;have r0:=b.cell 0;have r1:=b.cell 1;have R:=b.cell 2;have S:=b.cell 3;have T:=b.cell 4;have U:=E2.cell 0;have V:=E2.cell 1;have t2:=E2.cell 2;have t3:=E2.cell 3;have t4:=E2.cell 4;obtain⟨g0,g1,g2,g3,g4⟩:=b.t5;simp only[zg_,zb_,aa_,ab_,aj_,al_,af_] at r0 r1 R S T U V t2 t3 t4;replace x:=q_ x;replace t:=q_ t;replace u:=q_ u;replace h:=q_ h;replace y:=q_ y;replace b:=q_ b;replace E2:=q_ E2;replace c:=q_ c)
  have D:=Blk.five b.o (.int .u8 108) (.int .i64 v) (.string noB) (.slice none 0 0) (.slice none 0 0);obtain⟨K,N,O,q3,Q⟩:=D.d5;have F:=Fr.five (w1.setCell ⟨w.heap.size+1+1,1,none⟩ (.int .i64 v)) (w.heap.size) (.int .u8 108) (.int .i64 v) (.string noB) (.slice none 0 0) (.slice none 0 0);generalize (World.setCell (World.setCell (World.setCell (World.setCell (World.setCell (w1.setCell ⟨w.heap.size+1+1,1,none⟩ (.int .i64 v)) ⟨w.heap.size,0,none⟩ (.int .u8 108)) ⟨w.heap.size,1,none⟩ (.int .i64 v)) ⟨w.heap.size,2,none⟩ (.string noB)) ⟨w.heap.size,3,none⟩ (.slice none 0 0)) ⟨w.heap.size,4,none⟩ (.slice none 0 0))=W5 at *;refine bodyPost_ret (v:=.agg (zb_ 108 v noB (.slice none 0 0) (.slice none 0 0)).toArray) (by simp[results,results26,go_sem,K,N,O,q3,Q,zb_]) rfl ?_;rw[Q_.o];rw[I.o];exact zf7 y.o (by omega) (DVal.bare _ _ 108 v noB) F rfl
theorem bd_s {s:BA}{env:Nat->Option PB}{ts:List TR}{i n:Nat}(hn:n<300):BdOK s env ts (f+1) (.leaf 115 p) i n:=by
 intro w P bd bz k M b9 hk;simp only[isT] at hk;obtain⟨g,m,a9,sv,z0,b4,z1,z2,ho,a3⟩:=M.Z.type hk;simp only[af_] at z1;refine hq_ λ a8 Q_=>?_;have a1:=M.lt;have b6:=zk_ z0;have b7:=zk_ z1;have c2:=M.L.c2;have c3:=M.L.c3;have c4:=M.L.c4;have a5:=M.jl;have a4:=M.sl;obtain⟨D,sn,E,rfl⟩:=zn_ ho;have d2:=λ X Y Z=>zl_ c2 X Y Z;have d4:=λ X Y Z=>zl_ c4 X Y Z;have d5:=λ X Y Z=>zgm M.L 4 X Y Z
 have b5:(k:Int)<(m:Int):=by omega
 have b8:¬ (n:Int)+1 > 300:=by omega
 have M0:=q_ (zc3 M 115 (.slice D sn E));have B0:=q_ (zgv (n:=n) a1 115 (.slice D sn E));have B1:=q_ (zdu (n:=n) a1 115 (.slice D sn E));have B2:=q_ (zgu (n:=n) a1 115 (.slice D sn E));replace M:=q_ M;replace ho:=q_ ho;replace a3:=q_ a3
 go_in
 go_upto_if 39 with fail
 change Code.wp _ _ _ _ (dwn w bd n 115 (.slice D sn E));generalize dwn w bd n 115 (.slice D sn E)=W0 at *;have u0:=B1.o.cell 0;have u1:=B1.o.cell 1;simp only[aa_,ab_,af_] at u0 u1;clear c2 c3 c4 d2 d4 d5 z0 z1 z2
 have B:rdB s env (f+1) (.leaf 115 p) i n=(match x1_ s i with|none=>.error 6|some (tx,j)=>.ok (.mk 115 0 tx [] [],j,n+1)):=by unfold rdB;rw[if_neg (by omega)];show j6_ _ s env 115 i (n+1)=_;unfold j6_;rw[if_neg (by decide),if_neg (by decide),if_neg (by decide),if_neg (by decide),if_pos rfl];rfl
 have y:=zf2 M0.o.L a4 a5
 cases hb:jw_ s i with
 | none=>
  rw[hb] at y;have J:=q_ (show rdB s env (f+1) (.leaf 115 p) i n=.error 6 by rw[B];unfold x1_;rw[hb]);replace y:=q_ y;clear B hb
  go_wp2_with (first
   |(go_at_call 46;refine y.o.mono ?_;rintro e w1 ⟨l,v,j,rfl,hv,I,h1⟩;have t:=M0.o.call h1 l I;have u:=l.blk B0.o (by omega);have z:=q_ (l.blk B2.o (by omega));replace t:=q_ t;replace u:=q_ u;replace l:=q_ l)
   |(go_at_call 47;refine(zkt t.o.L (by decide)).mono ?_;rintro e F ⟨rfl,a2⟩;replace a2:=a2.symm;subst a2;have K:=z.o.cell 2;have p2:=z.o.thaw 2;simp only[zb_,aa_,ab_] at K;have x:=t.o.put ⟨w.heap.size+1+1,2,none⟩ (.string noB) (by simp;omega);have c:=Blk.set z.o 2 (.string noB);have b:=Blk.other u.o (a:=⟨w.heap.size+2,2,none⟩) (.string noB) (by simp);have r0:=b.cell 0;have r1:=b.cell 1;have S:=b.cell 2;have T:=b.cell 3;have U:=b.cell 4;have V:=c.cell 0;have t1:=c.cell 1;have t2:=c.cell 2;have t3:=c.cell 3;have t4:=c.cell 4;obtain⟨g0,g1,g2,g3,g4⟩:=b.t5;simp only[zg_,zb_,aa_,ab_,aj_,al_,af_] at r0 r1 S T U V t1 t2 t3 t4;replace x:=q_ x;replace b:=q_ b;replace c:=q_ c))
  have G:=Blk.five b.o (.int .u8 115) (.int .i64 0) (.string noB) (.slice none 0 0) (.slice none 0 0);obtain⟨N,O,Q,q3,R⟩:=G.d5;have H:=Fr.five (w1.setCell ⟨w.heap.size+1+1,2,none⟩ (.string noB)) (w.heap.size) (.int .u8 115) (.int .i64 0) (.string noB) (.slice none 0 0) (.slice none 0 0);generalize (World.setCell (World.setCell (World.setCell (World.setCell (World.setCell (w1.setCell ⟨w.heap.size+1+1,2,none⟩ (.string noB)) ⟨w.heap.size,0,none⟩ (.int .u8 115)) ⟨w.heap.size,1,none⟩ (.int .i64 0)) ⟨w.heap.size,2,none⟩ (.string noB)) ⟨w.heap.size,3,none⟩ (.slice none 0 0)) ⟨w.heap.size,4,none⟩ (.slice none 0 0))=W5 at *;refine bodyPost_ret (v:=.agg (zb_ 115 0 noB (.slice none 0 0) (.slice none 0 0)).toArray) (by simp[results,results26,go_sem,N,O,Q,q3,R,zb_]) rfl ?_;rw[Q_.o];rw[J.o];exact zc9 (by decide) x.o (by omega) ⟨_,_,_,rfl⟩ ⟨_,_,_,rfl⟩ H rfl
 | some q=>
  obtain⟨v,j⟩:=q;rw[hb] at y;have hg:=y2_ hb;obtain⟨m,rfl⟩:∃ m:Nat,v=(m:Int):=⟨v.toNat,by omega⟩;have hT:=q_ (λ (W:World) (h:DAt W bd s bz j 0 (n+1))=>zf1 (m:=m) h a4 hg.2.1 (by omega))
  cases C:vt_ s j m with
  | none=>
   have J:=q_ (show rdB s env (f+1) (.leaf 115 p) i n=.error 6 by rw[B];unfold x1_;rw[hb];simp only[bm_];rw[C]);replace y:=q_ y;rw[C] at hT;clear B hb C
   go_wp2_with (first
    |(go_at_call 46;refine y.o.mono ?_;rintro e w1 ⟨l,rfl,a6,a7,I,h1⟩;have t:=M0.o.call h1 l I;have u:=l.blk B0.o (by omega);have z:=q_ (l.blk B2.o (by omega));replace t:=q_ t;replace u:=q_ u;replace l:=q_ l)
    |(go_at_call 47;refine(hT.o _ t.o.L).mono ?_;rintro e F ⟨A,rfl,j2,a0,h2⟩;have M2:=t.o.call h2 A a0;have E0:=A.blk u.o (by omega);have E2:=A.blk z.o (by omega);have K:=E2.cell 2;have p2:=E2.thaw 2;simp only[zb_,aa_,ab_] at K;have x:=M2.put ⟨w.heap.size+1+1,2,none⟩ (.string noB) (by simp;omega);have c:=Blk.set E2 2 (.string noB);have b:=Blk.other E0 (a:=⟨w.heap.size+2,2,none⟩) (.string noB) (by simp);have r0:=b.cell 0;have r1:=b.cell 1;have S:=b.cell 2;have T:=b.cell 3;have U:=b.cell 4;have V:=c.cell 0;have t1:=c.cell 1;have t2:=c.cell 2;have t3:=c.cell 3;have t4:=c.cell 4;obtain⟨g0,g1,g2,g3,g4⟩:=b.t5;simp only[zg_,zb_,aa_,ab_,aj_,al_,af_] at r0 r1 S T U V t1 t2 t3 t4;replace x:=q_ x;replace b:=q_ b;replace c:=q_ c))
   have G:=Blk.five b.o (.int .u8 115) (.int .i64 0) (.string noB) (.slice none 0 0) (.slice none 0 0);obtain⟨N,O,Q,q3,R⟩:=G.d5;have H:=Fr.five (F.setCell ⟨w.heap.size+1+1,2,none⟩ (.string noB)) (w.heap.size) (.int .u8 115) (.int .i64 0) (.string noB) (.slice none 0 0) (.slice none 0 0);generalize (World.setCell (World.setCell (World.setCell (World.setCell (World.setCell (F.setCell ⟨w.heap.size+1+1,2,none⟩ (.string noB)) ⟨w.heap.size,0,none⟩ (.int .u8 115)) ⟨w.heap.size,1,none⟩ (.int .i64 0)) ⟨w.heap.size,2,none⟩ (.string noB)) ⟨w.heap.size,3,none⟩ (.slice none 0 0)) ⟨w.heap.size,4,none⟩ (.slice none 0 0))=W5 at *;refine bodyPost_ret (v:=.agg (zb_ 115 0 noB (.slice none 0 0) (.slice none 0 0)).toArray) (by simp[results,results26,go_sem,N,O,Q,q3,R,zb_]) rfl ?_;rw[Q_.o];rw[J.o];exact zc9 (by decide) x.o (by omega) ⟨_,_,_,rfl⟩ ⟨_,_,_,rfl⟩ H rfl
  | some q=>
   obtain⟨tx,j2⟩:=q;have J:=q_ (show rdB s env (f+1) (.leaf 115 p) i n=.ok (.mk 115 0 tx [] [],j2,n+1) by rw[B];unfold x1_;rw[hb];simp only[bm_];rw[C]);replace y:=q_ y;rw[C] at hT;clear B hb C
   go_wp2_with (first
    |(go_at_call 46;refine y.o.mono ?_;rintro e w1 ⟨l,rfl,a6,a7,I,h1⟩;have t:=M0.o.call h1 l I;have u:=l.blk B0.o (by omega);have z:=q_ (l.blk B2.o (by omega));replace t:=q_ t;replace u:=q_ u;replace l:=q_ l)
    |(go_at_call 47;refine(hT.o _ t.o.L).mono ?_;rintro e F ⟨A,rfl,a0,h2⟩;have M2:=t.o.call h2 A a0;have E0:=A.blk u.o (by omega);have E2:=A.blk z.o (by omega);have K:=E2.cell 2;have p2:=E2.thaw 2;simp only[zb_,aa_,ab_] at K;have x:=M2.put ⟨w.heap.size+1+1,2,none⟩ (.string tx) (by simp;omega);have c:=Blk.set E2 2 (.string tx);have b:=Blk.other E0 (a:=⟨w.heap.size+2,2,none⟩) (.string tx) (by simp);have r0:=b.cell 0;have r1:=b.cell 1;have S:=b.cell 2;have T:=b.cell 3;have U:=b.cell 4;have V:=c.cell 0;have t1:=c.cell 1;have t2:=c.cell 2;have t3:=c.cell 3;have t4:=c.cell 4;obtain⟨g0,g1,g2,g3,g4⟩:=b.t5;simp only[zg_,zb_,aa_,ab_,aj_,al_,af_] at r0 r1 S T U V t1 t2 t3 t4;replace x:=q_ x;replace b:=q_ b;replace c:=q_ c))
   have G:=Blk.five b.o (.int .u8 115) (.int .i64 0) (.string tx) (.slice none 0 0) (.slice none 0 0);obtain⟨N,O,Q,q3,R⟩:=G.d5;have H:=Fr.five (F.setCell ⟨w.heap.size+1+1,2,none⟩ (.string tx)) (w.heap.size) (.int .u8 115) (.int .i64 0) (.string tx) (.slice none 0 0) (.slice none 0 0);generalize (World.setCell (World.setCell (World.setCell (World.setCell (World.setCell (F.setCell ⟨w.heap.size+1+1,2,none⟩ (.string tx)) ⟨w.heap.size,0,none⟩ (.int .u8 115)) ⟨w.heap.size,1,none⟩ (.int .i64 0)) ⟨w.heap.size,2,none⟩ (.string tx)) ⟨w.heap.size,3,none⟩ (.slice none 0 0)) ⟨w.heap.size,4,none⟩ (.slice none 0 0))=W5 at *;refine bodyPost_ret (v:=.agg (zb_ 115 0 tx (.slice none 0 0) (.slice none 0 0)).toArray) (by simp[results,results26,go_sem,N,O,Q,q3,R,zb_]) rfl ?_;rw[Q_.o];rw[J.o];exact zf7 x.o (by omega) (DVal.bare _ _ 115 0 tx) H rfl
end Go.Proofs.YtiifagiebikmdaaGreatDoor
