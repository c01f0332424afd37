import Derived.Test.YtiifagiebikmdaaGreatDoorW20
import Derived.Test.YtiifagiebikmdaaGreatDoorW05
import Derived.Laws.BitsLemmas
import Derived.Test.YtiifagiebikmdaaGreatDoorA00
set_option maxHeartbeats 16000000
set_option maxRecDepth 100000
set_option linter.unusedSimpArgs false
open Go.Proofs.Tryz
namespace Go.Proofs.YtiifagiebikmdaaGreatDoor
open Go.RowKit
variable {i:Nat}{et:TypeId}{ex:Value}{P:Nat->Prop}
def zle (w:World) (bp:Nat) (s:BA) (i:Nat) (et:TypeId) (ex:Value) (e:Ending) (w':World):Prop:=
 ∃ v ev,IfV v/\e=.returned (.tuple #[v,ev])/\Fr w w' (· = bp)/\
 match vd_ s i with
 | .ok (b,j)=>ev=.nilIface/\PAt w' bp s j/\vn_ w' (λ g=>w.heap.size<=g) s b v
 | .error k=>yd_ w' w.heap.size ev (k:Int) (.iface et ex)/\∃ j,j<=s.size/\PAt w' bp s j
theorem zjm {w:World}{bp:Nat}{s:BA}(h:PAt w bp s i) (D:Gram w et ex) (F:bp≠0) (hs:s.size<=300) (z:i<=s.size) :
 Calls prog 104 #[.pointer (some ⟨bp,0,none⟩)] w (zle w bp s i et ex):=by
 obtain⟨Q,G⟩:∃ P,H_ (P=zle w bp s i et ex):=⟨_,rfl⟩;rw[<- G.o];have R:=h.lt;have a:=q_ (And.intro h (Fr.refl w (λ x=>x=bp)));replace D:=q_ D;clear h
 by_cases y:bt s i=114
 ·have E:i+1<=s.size:=zj_ (s:=s) (i:=i) (by omega);have A:=q_ (zjw y);have m:=q_ y;clear y
  go_in
  go_wp2_with (first
   |(go_at_call 103;refine(yj_ a.o.1).mono ?_;rintro e w' ⟨rfl,B⟩;rw[B])
   |(go_at_call 106;refine(yr_ a.o.1 hs z m.o (by decide) (by decide)).mono ?_;rintro e w' ⟨rfl,c,b⟩;have f:=q_ (And.intro b (a.o.2.trans c u_));clear c b)
   |(go_at_call 136;refine(zlq (p:=i) f.o.1 (D.o.fr f.o.2 (Ne.symm F)) F hs E).mono ?_;rintro e O ⟨v,H,n,rfl,q,t⟩;replace q:=q_ q;replace t:=q_ t;replace n:=q_ n))
  try go_ret
  rw[G.o];have u:=f.o.2.size;refine⟨v,H,n.o,rfl,f.o.2.trans q.o u_,?_⟩;rw[A.o];have d:=t.o
  cases J:ys_ s (i+1) with
  | error k=>rw[J] at d;exact⟨d.1.less u,d.2⟩
  | ok r=>
   obtain⟨fs,j⟩:=r;rw[J] at d;exact⟨d.1,d.2.1,d.2.2.mono (λ g _ hg=>ai_ u hg)⟩
 ·by_cases C:bt s i=101
  ·have E:i+1<=s.size:=zj_ (s:=s) (i:=i) (by omega);have A:=q_ (zg3 C);have m:=q_ C;clear C y
   go_in
   go_wp2_with (first
    |(go_at_call 103;refine(yj_ a.o.1).mono ?_;rintro e w' ⟨rfl,B⟩;rw[B])
    |(go_at_call 106;refine(yr_ a.o.1 hs z m.o (by decide) (by decide)).mono ?_;rintro e w' ⟨rfl,c,b⟩;have f:=q_ (And.intro b (a.o.2.trans c u_));clear c b)
    |(go_at_call 106;refine(yw_ a.o.1 hs z m.o (by decide) (by decide)).mono ?_;rintro e w' ⟨rfl,c,b⟩;replace a:=q_ (And.intro b (a.o.2.trans c u_));clear c b)
    |(go_at_call 137;refine(zqu (p:=i) f.o.1 (D.o.fr f.o.2 (Ne.symm F)) F hs E).mono ?_;rintro e O ⟨v,H,n,rfl,q,t⟩;replace q:=q_ q;replace t:=q_ t;replace n:=q_ n))
   try go_ret
   rw[G.o];have u:=f.o.2.size;refine⟨v,H,n.o,rfl,f.o.2.trans q.o u_,?_⟩;rw[A.o];have d:=t.o
   cases J:vc_ s (i+1) with
   | error k=>rw[J] at d;exact⟨d.1.less u,d.2⟩
   | ok r=>
    obtain⟨⟨l,o⟩,j⟩:=r;rw[J] at d;exact⟨d.1,d.2.1,d.2.2.mono (λ g _ hg=>ai_ u hg)⟩
  ·by_cases I:bt s i=102
   ·have E:i+1<=s.size:=zj_ (s:=s) (i:=i) (by omega);have A:=q_ (zcb I);have m:=q_ I;clear C y I
    go_in
    go_wp2_with (first
     |(go_at_call 103;refine(yj_ a.o.1).mono ?_;rintro e w' ⟨rfl,B⟩;rw[B])
     |(go_at_call 106;refine(yr_ a.o.1 hs z m.o (by decide) (by decide)).mono ?_;rintro e w' ⟨rfl,c,b⟩;have f:=q_ (And.intro b (a.o.2.trans c u_));clear c b)
     |(go_at_call 106;refine(yw_ a.o.1 hs z m.o (by decide) (by decide)).mono ?_;rintro e w' ⟨rfl,c,b⟩;replace a:=q_ (And.intro b (a.o.2.trans c u_));clear c b)
     |(go_at_call 138;refine(zoi (p:=(i:Int)) f.o.1 (D.o.fr f.o.2 (Ne.symm F)) hs E).mono ?_;rintro e O ⟨v,H,n,rfl,q,t⟩;replace q:=q_ q;replace t:=q_ t;replace n:=q_ n))
    try go_ret
    rw[G.o];have u:=f.o.2.size;refine⟨v,H,n.o,rfl,f.o.2.trans q.o u_,?_⟩;rw[A.o]
    rcases t.o with⟨M,N,rfl,rfl,q3,_⟩|⟨M,N,q3⟩
    ·rw[if_pos ⟨M,N⟩];exact⟨rfl,q3,.bytes i _⟩
    ·rw[if_neg M];exact⟨N.less u,_,E,q3⟩
   ·have A:=q_ (zjx y C I);obtain⟨x,m⟩:∃ x,bt s i=x:=⟨_,rfl⟩;rw[m] at y C I;replace m:=q_ m
    go_in
    go_wp2_with (first
     |(go_at_call 103;refine(yj_ a.o.1).mono ?_;rintro e w' ⟨rfl,B⟩;rw[B])
     |(go_at_call 106;refine(yw_ a.o.1 hs z m.o (by omega) (by decide)).mono ?_;rintro e w' ⟨rfl,c,b⟩;replace a:=q_ (And.intro b (a.o.2.trans c u_));clear c b)
     |(go_at_call 75;refine(x3_ a.o.1 (D.o.fr a.o.2 (Ne.symm F))).mono ?_;rintro e S ⟨v,rfl,L,K⟩;replace L:=q_ L;replace K:=q_ K))
    try go_ret
    rw[G.o];have u:=a.o.2.size;refine⟨.nilIface,v,.inl rfl,rfl,a.o.2.trans K.o v_,?_⟩;rw[A.o];exact⟨L.o.less u,i,z,K.o.blk a.o.1 id⟩
def atD (s:BA) (i:Nat):Bool:=z5_ (bt s i)&&decide (i+1<s.size)&&decide (bt s (i+1)=61)
theorem jf_ {w:World}{bp:Nat}{s:BA}(h:PAt w bp s i) (hs:s.size<=300) (l:i<=s.size) :
 Calls prog 72 #[.pointer (some ⟨bp,0,none⟩)] w λ e w'=>e=.returned (.bool (atD s i))/\zd_ w w':=by
 have c0:=h.c0;have c1:=h.c1;obtain⟨x,f⟩:∃ x,bt s i=x:=⟨_,rfl⟩;have c:H_ (∀ q,Calls prog 102 #[.pointer (some ⟨bp,0,none⟩)] (w.drewN q) λ e w'=>e=.returned (.int .u8 (x:Int))/\∃ m,w'=(w.drewN q).drewN m):=q_ (λ q=>by rw[<- f];exact yf_ (h.still (zd_.drewN w q)) hs l);have d:H_ (∀ (q:Nat) (b:Bool),z5_ x=b->Calls prog 101 #[.int .u8 (x:Int)] (w.drewN q) λ e w'=>e=.returned (.bool b)/\w'=w.drewN q):=q_ (λ q b hb=>by rw[<- hb];exact zb8 x _);unfold atD;rw[f];clear h f
 cases hn:z5_ x with
 | false=>
  replace hn:=q_ hn
  go_in
  go_wp2_with fail
  go_quiet (first|(go_at_call 102;exact Calls.quiet_of (c.o _))|(go_at_call 101;exact Calls.quiet_of_same (d.o _ _ hn.o)))
  go_wp2_with fail
  try go_ret
  exact⟨rfl,zd_.drewN _ _⟩
 | true=>
  replace hn:=q_ hn
  by_cases h1:i+1<s.size
  ·obtain⟨k,hk⟩:∃ k,k=i+1:=⟨_,rfl⟩
   have n:IntKind.i64.wrap ((i:Int)+1)=(k:Int):=by rw[IntKind.wrap_i64];omega
   rw[<- hk] at h1;rw[<- hk]
   have a:(k:Int)<(s.size:Int):=by omega
   have g:decide ((k:Int)<(s.size:Int))=true:=decide_eq_true a
   have hb:(((s[k]'h1).toNat:Int)==61)=decide (bt s k=61):=by
    rw[j5_ s k h1]
    by_cases e:(s[k]'h1).toNat=61
    ·rw[e];rfl
    ·rw[decide_eq_false e,beq_eq_false_iff_ne];omega
   have hd:decide (k<s.size)=true:=decide_eq_true h1;clear hk;rw[hd,Bool.true_and,Bool.true_and,<- hb];clear hd hb
   go_in
   go_wp2_with fail
   go_quiet (first|(go_at_call 102;exact Calls.quiet_of (c.o _))|(go_at_call 101;exact Calls.quiet_of_same (d.o _ _ hn.o)))
   go_wp2_with fail
   try go_ret
   exact⟨rfl,zd_.drewN _ _⟩
  ·have a:¬ ((i:Int)+1<(s.size:Int)):=by omega
   have n:IntKind.i64.wrap ((i:Int)+1)=(i:Int)+1:=by rw[IntKind.wrap_i64];omega
   have g:decide ((i:Int)+1<(s.size:Int))=false:=decide_eq_false a;have hd:decide (i+1<s.size)=false:=decide_eq_false h1;rw[hd,Bool.and_false,Bool.false_and];clear hd
   go_in
   go_wp2_with fail
   go_quiet (first|(go_at_call 102;exact Calls.quiet_of (c.o _))|(go_at_call 101;exact Calls.quiet_of_same (d.o _ _ hn.o)))
   go_wp2_with fail
   try go_ret
   exact⟨rfl,zd_.drewN _ _⟩
open Go.RowKit
theorem Fr.three (w:World) (b:Nat) (a c d:Value):Fr w (((w.setCell ⟨b,0,none⟩ a).setCell ⟨b,1,none⟩ c).setCell ⟨b,2,none⟩ d) (λ g=>g=b):=
 (((Fr.refl w (λ g=>g=b)).setCell ⟨b,0,none⟩ a (λ _=>rfl)).setCell ⟨b,1,none⟩ c (λ _=>rfl)).setCell ⟨b,2,none⟩ d (λ _=>rfl)
theorem Blk.three {w:World}{b t:Nat}{u0 e u2:Value}(h:Blk w b [u0,e,u2] t) (a c d:Value):Blk (((w.setCell ⟨b,0,none⟩ a).setCell ⟨b,1,none⟩ c).setCell ⟨b,2,none⟩ d) b [a,c,d] t:=
 ((h.set 0 a).set 1 c).set 2 d
theorem vn_.iface {w:World}{s:BA}{b:PB}{v:Value}(h:vn_ w P s b v):∃ T x,v=.iface T x:=by
 cases h<;>exact⟨_,_,rfl⟩
theorem PAt.two {w:World}{bp:Nat}{s:BA}(h:PAt w bp s i):PAt (w.setCell ⟨bp,1,none⟩ (.int .i64 ((i:Int)+2))) bp s (i+2):=Blk.set h 1 _
def zs1 (w:World) (bp:Nat) (s:BA) (i:Nat) (et:TypeId) (ex:Value) (e:Ending) (w':World):Prop:=
 ∃ (a b:Int) (c ev:Value),e=.returned (.tuple #[.agg #[.int .i64 a,.int .u8 b,c],ev])/\IfV c/\Fr w w' (· = bp)/\
 match vd_ s (i+2) with
 | .ok (pb,j)=>if bt s j=59 then ev=.nilIface/\PAt w' bp s (j+1)/\j<s.size/\a=(i:Int)/\b=(bt s i:Int)/\vn_ w' (λ g=>w.heap.size<=g) s pb c else yd_ w' w.heap.size ev (j:Int) (.iface et ex)/\∃ j,j<=s.size/\PAt w' bp s j
 | .error k=>yd_ w' w.heap.size ev (k:Int) (.iface et ex)/\∃ j,j<=s.size/\PAt w' bp s j
theorem zhw {w:World}{bp:Nat}{s:BA}(h:PAt w bp s i) (hG:Gram w et ex) (I:bp≠0) (hs:s.size<=300) (hi:i+2<=s.size) (a2:∀ pb j,vd_ s (i+2)=.ok (pb,j)->j<=s.size) :
 Calls prog 73 #[.pointer (some ⟨bp,0,none⟩)] w (zs1 w bp s i et ex):=by
 obtain⟨b6,Z⟩:∃ P,H_ (P=zs1 w bp s i et ex):=⟨_,rfl⟩;rw[<- Z.o];have b7:=h.lt;have h0:=q_ (show PAt (w.alloc (.cells #[.int .i64 0,.int .u8 0,.nilIface] 132)) bp s i from Blk.alloc h _);have F0:=q_ (show Fr w (w.alloc (.cells #[.int .i64 0,.int .u8 0,.nilIface] 132)) (λ x=>x=bp) from(Fr.refl w _).alloc _);have B0:=q_ (Blk.new w #[.int .i64 0,.int .u8 0,.nilIface] 132);have a6:=q_ (by simp:(w.alloc (.cells #[.int .i64 0,.int .u8 0,.nilIface] 132)).heap.size=w.heap.size+1);have a0:=q_ hG
 have a5:i<=s.size:=by omega
 clear h hG;obtain⟨x,S⟩:∃ x,bt s i=x:=⟨_,rfl⟩;replace S:=q_ S
 cases m:vd_ s (i+2) with
 | error k=>
  replace m:=q_ m;clear a2
  go_in
  go_wp2_with (first
   |(go_at_call 103;refine(yj_ h0.o).mono ?_;rintro e w' ⟨rfl,R⟩;rw[R];clear R)
   |(go_at_call 102;refine(yf_ h0.o hs a5).mono ?_;rintro e w1 ⟨rfl,E⟩;rw[S.o];have h1:=h0.o.still E;have A:=(Fr.refl (w.alloc (.cells #[.int .i64 0,.int .u8 0,.nilIface] 132)) (λ g=>g=bp)).still E;have P1:=Blk.alloc h1 (.cells #[.int .i64 (i:Int),.int .u8 (x:Int),.nilIface] 132);have c1:=PAt.c1 P1;have f1:=PAt.thaw P1 1;have a3:=A.size;rw[a6.o] at a3;have y:=A.alloc (.cells #[.int .i64 (i:Int),.int .u8 (x:Int),.nilIface] 132);have l:Fr (w1.alloc (.cells #[.int .i64 (i:Int),.int .u8 (x:Int),.nilIface] 132)) ((w1.alloc (.cells #[.int .i64 (i:Int),.int .u8 (x:Int),.nilIface] 132)).setCell ⟨bp,1,none⟩ (.int .i64 ((i:Int)+2))) (λ g=>g=bp):=(Fr.refl _ (λ g=>g=bp)).setCell ⟨bp,1,none⟩ _ (λ _=>rfl);have C:=l.blk (y.blk B0.o (by omega)) (by omega);have E2:=l.blk (Blk.new w1 #[.int .i64 (i:Int),.int .u8 (x:Int),.nilIface] 132) (by omega);have P2:=PAt.two P1;have f:=(F0.o.trans y u_).trans l u_;have B:=a0.o.fr f (Ne.symm I);have T:=q_ ((by simp):((w1.alloc (.cells #[.int .i64 (i:Int),.int .u8 (x:Int),.nilIface] 132)).setCell ⟨bp,1,none⟩ (.int .i64 ((i:Int)+2))).heap.size=w1.heap.size+1);replace C:=q_ C;replace E2:=q_ E2;replace P2:=q_ P2;replace f:=q_ f;replace B:=q_ B;clear h1 A y l E;replace P1:=q_ P1)
   |(go_at_call 104;refine(zjm P2.o B.o I hs hi).mono ?_;rintro e J ⟨v,ev,hI,rfl,b,D⟩;rw[m.o] at D;obtain⟨⟨g,b8,rfl,a1⟩,j3,a9,p⟩:=D;have n:=b.blk C.o (by omega);obtain⟨r0,r1,r2⟩:=n.d3;obtain⟨g0,g1,g2⟩:=n.t3;replace n:=q_ n;replace b:=q_ b;replace a1:=q_ a1;replace p:=q_ p;clear hI))
  have S2:=Blk.three n.o (.int .i64 0) (.int .u8 0) .nilIface;obtain⟨q0,q1,q2⟩:=S2.d3;refine bodyPost_ret (v:=.tuple #[.agg #[.int .i64 0,.int .u8 0,.nilIface],.iface 139 (.pointer (some ⟨g,0,none⟩))]) (by simp[results,results73,go_sem,q0,q1,q2]) rfl ?_;rw[Z.o];have a:=Fr.three J w.heap.size (.int .i64 0) (.int .u8 0) .nilIface;have hz:=T.o;refine⟨0,0,.nilIface,_,rfl,.inl rfl,(f.o.trans b.o u_).trans a (λ a7 hy e=>by omega),?_⟩;rw[m.o];exact⟨⟨g,by omega,rfl,a.blk a1.o (by omega)⟩,j3,a9,a.blk p.o (by omega)⟩
 | ok r=>
  obtain⟨pb,j⟩:=r;have hj:j<=s.size:=a2 pb j m;clear a2;replace m:=q_ m
  go_in
  go_wp2_with (first
   |(go_at_call 103;refine(yj_ h0.o).mono ?_;rintro e w' ⟨rfl,R⟩;rw[R];clear R)
   |(go_at_call 102;refine(yf_ h0.o hs a5).mono ?_;rintro e w1 ⟨rfl,E⟩;rw[S.o];have h1:=h0.o.still E;have A:=(Fr.refl (w.alloc (.cells #[.int .i64 0,.int .u8 0,.nilIface] 132)) (λ g=>g=bp)).still E;have P1:=Blk.alloc h1 (.cells #[.int .i64 (i:Int),.int .u8 (x:Int),.nilIface] 132);have c1:=PAt.c1 P1;have f1:=PAt.thaw P1 1;have a3:=A.size;rw[a6.o] at a3;have y:=A.alloc (.cells #[.int .i64 (i:Int),.int .u8 (x:Int),.nilIface] 132);have l:Fr (w1.alloc (.cells #[.int .i64 (i:Int),.int .u8 (x:Int),.nilIface] 132)) ((w1.alloc (.cells #[.int .i64 (i:Int),.int .u8 (x:Int),.nilIface] 132)).setCell ⟨bp,1,none⟩ (.int .i64 ((i:Int)+2))) (λ g=>g=bp):=(Fr.refl _ (λ g=>g=bp)).setCell ⟨bp,1,none⟩ _ (λ _=>rfl);have C:=l.blk (y.blk B0.o (by omega)) (by omega);have E2:=l.blk (Blk.new w1 #[.int .i64 (i:Int),.int .u8 (x:Int),.nilIface] 132) (by omega);have P2:=PAt.two P1;have f:=(F0.o.trans y u_).trans l u_;have B:=a0.o.fr f (Ne.symm I);have T:=q_ ((by simp):((w1.alloc (.cells #[.int .i64 (i:Int),.int .u8 (x:Int),.nilIface] 132)).setCell ⟨bp,1,none⟩ (.int .i64 ((i:Int)+2))).heap.size=w1.heap.size+1);replace C:=q_ C;replace E2:=q_ E2;replace P2:=q_ P2;replace f:=q_ f;replace B:=q_ B;clear h1 A y l E;replace P1:=q_ P1)
   |(go_at_call 104;refine(zjm P2.o B.o I hs hi).mono ?_;rintro e J ⟨v,ev,hI,rfl,b,D⟩;rw[m.o] at D;obtain⟨rfl,p,hv⟩:=D;obtain⟨t,u,rfl⟩:=hv.iface;have b5:=b.size;rw[T.o] at b5;have n:=b.blk C.o (by omega);have U:=b.blk E2.o (by omega);have k2:=U.c2;have kg:=U.thaw 2;have O:Fr J (J.setCell ⟨w1.heap.size,2,none⟩ (.iface t u)) (λ g=>g=w1.heap.size):=(Fr.refl J (λ g=>g=w1.heap.size)).setCell ⟨w1.heap.size,2,none⟩ _ (λ _=>rfl);have z:=U.set 2 (.iface t u);have M:=O.blk n (by omega);have V:=O.blk p (by omega);have X:=(hv.mono (Q:=λ g=>w1.heap.size<g) (λ g _ hg=>by have:=T.o;omega)).fr O (λ g hg e=>by omega);have G:=(f.o.trans b u_).trans O (λ a7 hy e=>by omega);have G4:=q_ (a0.o.fr G (Ne.symm I));replace z:=q_ z;replace M:=q_ M;replace V:=q_ (show PAt _ bp s j from V);replace X:=q_ X;replace G:=q_ G;clear hI b p hv n U O))
  have u0:=z.o.cell 0;have Y:=z.o.cell 1;have u2:=z.o.cell 2;simp only[aj_,al_,aa_,ab_] at u0 Y u2;obtain⟨d,a4⟩:∃ W,W=J.setCell ⟨w1.heap.size,2,none⟩ (.iface t u):=⟨_,rfl⟩;rw[<- a4] at u0 Y u2⊢;rw[<- a4] at z M V X G G4;clear a4 k2 kg;have hC:=q_ (y1_ (c:=59) 59 (V.o.still (zd_.drew d)) (G4.o.fr ((Fr.refl d (λ _=>False)).still (zd_.drew d)) id) I hs hj rfl (by decide));have d0:=G.o.size;have b9:=M.o.lt;refine zx_ 4 (λ W=>W.cell? ⟨w1.heap.size,0,none⟩=some (.int .i64 (i:Int))/\W.cell? ⟨w1.heap.size,1,none⟩=some (.int .u8 (x:Int))/\W.cell? ⟨w1.heap.size,2,none⟩=some (.iface t u)) (by kernel_rfl) ?_;refine ta_ 0 rfl (by kernel_rfl) (λ _ _ _ h=>h) (by rintro W ⟨h1,h2,p⟩;go_simp<;>rfl) ?_;refine ta_ 1 rfl (by kernel_rfl) (λ _ _ _ h=>h) (by rintro W ⟨h1,h2,p⟩;go_simp<;>rfl) ?_;refine ze_ 2 rfl (by kernel_rfl) (λ _=>⟨u0,Y,u2⟩) (λ K q=>?_);go_simp;refine hC.o.mono ?_;rintro e w8 ⟨v8,rfl,a8,hE⟩;refine q _ _ ?_;clear q K;have H:Fr d w8 (λ g=>g=bp):=((Fr.refl d _).still (zd_.drew d)).trans a8 u_;have F:=H.blk z.o (by omega);have N:=H.blk M.o (by omega);have x0:=F.cell 0;have x1:=F.cell 1;have x2:=F.cell 2;have r0:=N.cell 0;have r1:=N.cell 1;have r2:=N.cell 2;obtain⟨g0,g1,g2⟩:=N.t3;simp only[aj_,al_,aa_,ab_] at x0 x1 x2 r0 r1 r2;have a:=Fr.three w8 w.heap.size (.int .i64 (i:Int)) (.int .u8 (x:Int)) (.iface t u);have L:=a.blk F (by omega);have z0:=L.cell 0;have z1:=L.cell 1;have z2:=L.cell 2;simp only[aj_,al_,aa_,ab_] at z0 z1 z2;replace H:=q_ H;replace a:=q_ a;replace hE:=q_ hE;replace F:=q_ F;replace L:=q_ L;refine ze_ 3 rfl (by kernel_rfl) (λ _=>⟨x0,x1,x2⟩) (λ K q=>?_);go_simp;refine q _ _ ?_;clear q K;refine ze_ 4 rfl (by kernel_rfl) (λ _=>⟨z0,z1,z2⟩) (λ K q=>?_);go_simp;refine q _ _ ?_;clear q K;refine zq_ (by kernel_rfl) (λ D=>absurd D (by decide)) ?_ _;have S2:=Blk.three N (.int .i64 (i:Int)) (.int .u8 (x:Int)) (.iface t u);obtain⟨q0,q1,q2⟩:=S2.d3;clear x0 x1 x2 u0 Y u2 z0 z1 z2 r0 r1 r2 g0 g1 g2
  go_wp2_with fail
  refine bodyPost_ret (v:=.tuple #[.agg #[.int .i64 (i:Int),.int .u8 (x:Int),.iface t u],v8]) (by simp[results,results73,go_sem,q0,q1,q2]) rfl ?_;rw[Z.o];refine⟨(i:Int),(x:Int),.iface t u,v8,rfl,.inr ⟨_,_,rfl⟩,(G.o.trans H.o u_).trans a.o (λ a7 hy e=>by omega),?_⟩;rw[m.o];have hz:=T.o;show(if bt s j=59 then _ else _)
  rcases hE.o with⟨hb,rfl,h8,b4⟩|⟨hb,hF,h8⟩
  ·rw[if_pos hb];exact⟨rfl,a.o.blk h8 (by omega),b4,rfl,by rw[S.o],((X.o.fr H.o (λ g hg e=>by omega)).fr a.o (λ g hg e=>by omega)).mono (λ g _ hg=>by omega)⟩
  ·rw[if_neg hb];exact⟨(hF.fr a.o (λ g hg e=>by have:d.drew.heap.size=d.heap.size:=rfl;omega)).less (by have:d.drew.heap.size=d.heap.size:=rfl;omega),j,hj,a.o.blk h8 (by omega)⟩
open Go.RowKit
theorem zly (s:BA):∀ (n i:Nat) (l:List PF) (j:Nat),xm_ s n i=.ok (l,j)->j<=s.size:=by
 intro n
 induction n with
 | zero=>intro i l j h;cases h
 | succ n ih=>
  intro i l j h;unfold xm_ at h;split at h
  ·cases h
  ·rename_i f k c;split at h
   ·rename_i b;simp only[ae_,ad_] at h;have:=zj_ (s:=s) (i:=k) (by omega);omega
   ·split at h
    ·split at h
     ·cases h
     ·rename_i fs d a;simp only[ae_,ad_] at h;have:=ih _ _ _ a;omega
    ·cases h
theorem zeu {s:BA}{b:PB}{j:Nat}(h:vd_ s i=.ok (b,j)):j<=s.size:=by
 unfold vd_ at h;split at h
 ·split at h
  ·cases h
  ·rename_i ds k a;simp only[ae_,ad_] at h;obtain⟨_,rfl⟩:=h;unfold ys_ at a;split at a
   ·split at a
    ·rename_i c;simp only[ae_,ad_] at a;have:=zj_ (s:=s) (i:=i+1+1) (by omega);omega
    ·exact zly s _ _ _ _ a
   ·cases a
 ·split at h
  ·split at h
   ·cases h
   ·rename_i l o k a;simp only[ae_,ad_] at h;obtain⟨_,rfl⟩:=h;unfold vc_ at a;split at a
    ·split at a
     ·cases a
     ·rename_i e q d;split at a
      ·split at a
       ·split at a
        ·simp only[ae_,ad_] at a;have:=zj_ (s:=s) (i:=q+2) (by omega);omega
        ·cases a
       ·cases a
      ·split at a
       ·simp only[ae_,ad_] at a;have:=zj_ (s:=s) (i:=q) (by omega);omega
       ·cases a
    ·cases a
  ·split at h
   ·split at h
    ·simp only[ae_,ad_] at h;have:=zj_ (s:=s) (i:=i+1) (by omega);omega
    ·cases h
   ·cases h
def zd6 (w:World) (P:Nat->Prop) (s:BA) (ds:List PD) (xs:List Value):Prop:=
 ∀ i d,ds[i]?=some d->∃ c,xs[3*i]?=some (.int .i64 (d.place:Int))/\xs[3*i+1]?=some (.int .u8 (d.letter:Int))/\xs[3*i+2]?=some c/\vn_ w P s d.body c
theorem zd6.mono {w:World}{Q:Nat->Prop}{s:BA}{ds:List PD}{xs:List Value}(h:zd6 w P s ds xs) (k:∀ g,g<w.heap.size->P g->Q g):zd6 w Q s ds xs:=λ i f e=>by
 obtain⟨c,h1,a,b,d⟩:=h i f e;exact⟨c,h1,a,b,d.mono k⟩
theorem zd6.fr {w w':World}{S:Nat->Prop}{s:BA}{ds:List PD}{xs:List Value}(h:zd6 w P s ds xs) (l:Fr w w' S) (k:∀ g,P g->¬ S g):zd6 w' P s ds xs:=λ i f e=>by
 obtain⟨c,h1,a,b,d⟩:=h i f e;exact⟨c,h1,a,b,d.fr l k⟩
theorem zd6.snoc {w:World}{s:BA}{ds:List PD}{xs:List Value}{d:PD}{c:Value}(h:zd6 w P s ds xs) (hl:xs.length=ds.length*3) (hc:vn_ w P s d.body c):zd6 w P s (ds++[d]) (xs++[.int .i64 (d.place:Int),.int .u8 (d.letter:Int),c]):=λ i b e=>by
 by_cases l:i<ds.length
 ·rw[au_ l] at e;obtain⟨a,h1,f,g,k⟩:=h i b e;exact⟨a,by rw[au_ (by omega)];exact h1,by rw[au_ (by omega)];exact f,by rw[au_ (by omega)];exact g,k⟩
 ·have m:i=ds.length:=by
   have:=(as_.1 e).1
   simp at this;omega
  subst m;rw[ar_ l_,Nat.sub_self] at e;simp only[aa_,ag_] at e;subst e;refine⟨c,?_,?_,?_,hc⟩
  ·rw[ar_ (by omega),show 3*ds.length-xs.length=0 by omega];rfl
  ·rw[ar_ (by omega),show 3*ds.length+1-xs.length=1 by omega];rfl
  ·rw[ar_ (by omega),show 3*ds.length+2-xs.length=2 by omega];rfl
def SchV (w:World) (P:Nat->Prop) (s:BA) (ds:List PD) (t:PT) (sv rv:Value):Prop:=
 ∃ xs,w.ownsRow 0 132 3 sv ds.length xs/\(∀ g,sv.ownBlock=some g->P g)/\zd6 w P s ds xs/\TyV w P t rv
def ziv (w:World) (bp:Nat) (s:BA) (et:TypeId) (ex:Value) (e:Ending) (w':World):Prop:=
 ∃ (sv rv ev:Value),e=.returned (.tuple #[.agg #[sv,rv],ev])/\(∃ a n c,sv=.slice a n c)/\IfV rv/\Fr w w' (· = bp)/\
 match z1_ s with
 | .ok (ds,t)=>ev=.nilIface/\SchV w' (λ g=>w.heap.size<=g) s ds t sv rv
 | .error k=>yd_ w' w.heap.size ev (k:Int) (.iface et ex)
theorem zfe {s:BA}{ds:List PD}{j:Nat}(h:y5_ s 6 0=zah ds (y5_ s (6-ds.length) j)) (hl:ds.length<=6) (hn:¬ (ds.length<6/\atD s j=true)) :
 z1_ s=match pT s j with | .error k=>.error k | .ok (t,k)=>if k<s.size then .error k else .ok (ds,t):=by
 unfold z1_;rw[h]
 by_cases b:ds.length<6
 ·have a:atD s j=false:=by
   cases hb:atD s j with
   | false=>rfl
   | true=>exact absurd ⟨b,hb⟩ hn
  rw[show 6-ds.length=(5-ds.length)+1 by omega,zbs];unfold atD at a
  by_cases hc:z5_ (bt s j)=true/\j+1<s.size
  ·have c:bt s (j+1)≠61:=λ e=>by rw[hc.1,decide_eq_true hc.2,decide_eq_true e] at a;cases a
   rw[if_pos hc,if_neg c,zlu (by simpa[z5_] using hc.1)];simp only;rw[if_pos hc.2]
  ·rw[if_neg hc];simp only
   cases pT s j with
   | error k=>rfl
   | ok r=>rfl
 ·rw[show 6-ds.length=0 by omega,y5_,zah,bc_];simp only
  cases pT s j with
  | error k=>rfl
  | ok r=>rfl
structure SMm (w:World) (bp:Nat) (s:BA) (j:Nat) (sv:Value) (ds:List PD) (xs:List Value) (W:World):Prop where
 A:AM w bp s j (w.heap.size+1) [sv,.nilIface] 85 132 3 sv ds.length xs W
 D:zd6 W (λ g=>w.heap.size+1+1<=g/\sv.ownBlock≠some g) s ds xs
 R:Blk W w.heap.size [.slice none 0 0,.nilIface] 85
section
variable {w W W':World} {bp:Nat} {s:BA} {j j':Nat} {sv:Value} {ds:List PD} {xs:List Value}
theorem SMm.call (M:SMm w bp s j sv ds xs W) (h:PAt W' bp s j') (a:Fr W W' (· = bp)):SMm w bp s j' sv ds xs W':=by
 have h1:=M.A.lt;exact⟨M.A.call h a,M.D.fr a (λ g hg e=>by omega),a.blk M.R (by omega)⟩
theorem SMm.alloc (M:SMm w bp s j sv ds xs W) (o:Obj):SMm w bp s j sv ds xs (W.alloc o):=M.call (Blk.alloc M.A.here o) ((Fr.refl W _).alloc o)
theorem SMm.still (M:SMm w bp s j sv ds xs W) (a:zd_ W W'):SMm w bp s j sv ds xs W':=M.call (M.A.here.still a) ((Fr.refl W _).still a)
theorem SMm.item (M:SMm w bp s j sv ds xs W){o:Obj}{k:World}{f c:Value}{d:PD}(hg:(W.alloc o).grownBy k sv.ownBlock) (ho:k.ownsRow (w.heap.size+1+1) 132 3 f (ds.length+1) (xs++[.int .i64 (d.place:Int),.int .u8 (d.letter:Int),c]))
 (hl:f.ownBlock=sv.ownBlock\/f.ownBlock=some (W.alloc o).heap.size) (n:vn_ W (λ g=>w.heap.size+1+1<=g/\sv.ownBlock≠some g) s d.body c) :
 SMm w bp s j f (ds++[d]) (xs++[.int .i64 (d.place:Int),.int .u8 (d.letter:Int),c]) (k.setCell ⟨w.heap.size+1,0,none⟩ f):=by
 obtain⟨h1,h,m⟩:=M.A.item ((Fr.refl W _).alloc o) hg ho hl 0
 have off:∀ g,(w.heap.size+1+1<=g/\sv.ownBlock≠some g)/\g<W.heap.size->¬ (sv.ownBlock=some g\/g=w.heap.size+1):=λ g hg e=>by
  rcases e with e|e
  ·exact hg.1.2 e
  ·have:=hg.1.1;omega
 have l:∀ g,(w.heap.size+1+1<=g/\sv.ownBlock≠some g)/\g<W.heap.size->w.heap.size+1+1<=g/\f.ownBlock≠some g:=λ g hg=>⟨hg.1.1,λ e=>by
  rcases(m g e).2 with q|q
  ·exact hg.1.2 q
  ·have:=hg.2;omega⟩
 refine⟨?_,zd6.snoc (((M.D.mono (Q:=λ g=>(w.heap.size+1+1<=g/\sv.ownBlock≠some g)/\g<W.heap.size) (λ _ a b=>⟨b,a⟩)).fr h off).mono (λ g _ hg=>l g hg)) M.A.row.1 (((n.mono (Q:=λ g=>(w.heap.size+1+1<=g/\sv.ownBlock≠some g)/\g<W.heap.size) (λ _ a b=>⟨b,a⟩)).fr h off).mono (λ g _ hg=>l g hg)),h.blk M.R (λ e=>?_)⟩
 ·rw[ah_,am_];exact h1
 ·rcases e with e|e
  ·have:=M.A.row.lt _ e;omega
  ·omega
end
theorem zvz:Tryz.prog.underlying 81=some (.slice 132):=by kernel_rfl
theorem zyx:(Tryz.prog.info? 132).map (λ i=>(i.zero,i.size,i.bytes))=some (some (.agg #[.int .i64 0,.int .u8 0,.nilIface]),3,32):=by kernel_rfl
def zvp (w:World) (bp:Nat) (s:BA) (m:Nat) (W:World):Prop:=
 ∃ j sv ds xs,SMm w bp s j sv ds xs W/\j<=s.size/\ds.length<=6/\7-ds.length<=m/\y5_ s 6 0=zah ds (y5_ s (6-ds.length) j)
theorem Fr.pair (w:World) (b:Nat) (a c:Value):Fr w ((w.setCell ⟨b,0,none⟩ a).setCell ⟨b,1,none⟩ c) (λ g=>g=b):=
 ((Fr.refl w (λ g=>g=b)).setCell ⟨b,0,none⟩ a (λ _=>rfl)).setCell ⟨b,1,none⟩ c (λ _=>rfl)
theorem Blk.pair {w:World}{b t:Nat}{u0 d:Value}(h:Blk w b [u0,d] t) (a c:Value):Blk ((w.setCell ⟨b,0,none⟩ a).setCell ⟨b,1,none⟩ c) b [a,c] t:=(h.set 0 a).set 1 c
theorem vq_ {w W:World}{bp:Nat}{s:BA}{k lo:Nat}{a:Value}(hk:z1_ s=.error k) (c:yd_ W lo a (k:Int) (.iface et ex)) (d:Fr w W (· = bp)) (f:w.heap.size<lo) :
 ziv w bp s et ex (.returned (.tuple #[.agg #[.slice none 0 0,.nilIface],a])) ((W.setCell ⟨w.heap.size,0,none⟩ (.slice none 0 0)).setCell ⟨w.heap.size,1,none⟩ .nilIface):=by
 have b:=Fr.pair W w.heap.size (.slice none 0 0) .nilIface;refine⟨_,_,a,rfl,⟨_,_,_,rfl⟩,.inl rfl,d.trans b (λ x h e=>by omega),?_⟩;rw[hk];exact(c.fr b (λ g hg e=>by omega)).less (by omega)
theorem zlp {w:World}{bp:Nat}{s:BA}(h:PAt w bp s 0) (T:Gram w et ex) (H:bp≠0) (hs:s.size<=300) :
 Calls prog 50 #[.pointer (some ⟨bp,0,none⟩)] w (ziv w bp s et ex):=by
 obtain⟨f4,Z⟩:∃ P,H_ (P=ziv w bp s et ex):=⟨_,rfl⟩;rw[<- Z.o];have e3:=h.lt
 have b5:zvp w bp s 7 ((w.alloc (.cells #[.slice none 0 0,.nilIface] 85)).alloc (.cells #[.slice none 0 0,.nilIface] 85)):=by
  refine⟨0,.slice none 0 0,[],[],⟨⟨Blk.alloc (Blk.alloc h _) _,((Fr.refl w _).alloc _).alloc _,e3,by omega,by simp,?_,World.ownsRow_nil _ _ _ _⟩,λ i d e=>by simp at e,(Blk.new w #[.slice none 0 0,.nilIface] 85).alloc _⟩,ak_ _,by simp,by simp,(zhe _).symm⟩;have:=Blk.new (w.alloc (.cells #[.slice none 0 0,.nilIface] 85)) #[.slice none 0 0,.nilIface] 85
  simpa using this
 replace b5:=q_ b5;have f9:=World.block_lt_of_cell? w ⟨0,0,none⟩ T;replace T:=q_ T;clear h
 go_in
 go_wp2_with fail
 go_loopg [] 7 (λ m W=>zvp w bp s m W)
 case atStart=>exact b5.o
 case round=>
  clear b5;obtain⟨j,sv,ds,xs,M,U,d8,r,J⟩:=hrel;obtain⟨sa,sc,rfl⟩:=zo_ M.A.row;have b4:=M.A.fr.size;have f7:=M.A.hB;have s0:=M.A.b.c0;replace M:=q_ M
  by_cases h6:ds.length<6
  ·have d9:(ds.length:Int)<6:=by omega
   cases S:atD s j with
   | true=>
    have hd:z5_ (bt s j)=true/\j+1<s.size/\bt s (j+1)=61:=by
     unfold atD at S
     simpa[and_assoc] using S
    have b9:j+2<=s.size:=by omega
    rw[show 6-ds.length=(5-ds.length)+1 by omega,zbs,if_pos ⟨hd.1,hd.2.1⟩,if_pos hd.2.2] at J;replace S:=q_ S;obtain⟨x,hx⟩:∃ x,bt s j=x:=⟨_,rfl⟩;rw[hx] at J;replace hx:=q_ hx;clear hd
    cases n:vd_ s (j+2) with
    | error k=>
     have Y:=q_ (show z1_ s=.error k by unfold z1_;rw[J,n]);replace n:=q_ n
     go_wp2_with (first
      |(go_at_call 72;refine(jf_ M.o.A.here hs U).mono ?_;rintro e w1 ⟨rfl,V⟩;rw[S.o];have l:=M.o.still V;have I:=q_ (zhw l.A.here (T.o.fr l.A.fr (Ne.symm H)) H hs b9 (λ pb q e=>zeu e));have a8:=l.A.hB;replace l:=q_ l)
      |(go_at_call 73;refine I.o.mono ?_;rintro e w2 ⟨a,b,c,ev,rfl,a7,E,r⟩;rw[n.o] at r;obtain⟨⟨g,a3,rfl,u⟩,_⟩:=r;rcases a7 with rfl|⟨cT,cx,rfl⟩;have f:=(E.blk l.o.R (by omega)).alloc (.cells #[.int .i64 a,.int .u8 b,.nilIface] 132);have r0:=f.c0;have r1:=f.c1;have g0:=f.thaw 0;have g1:=f.thaw 1;replace f:=q_ f;replace E:=q_ E;replace u:=q_ u;rotate_left;have f:=(E.blk l.o.R (by omega)).alloc (.cells #[.int .i64 a,.int .u8 b,.iface cT cx] 132);have r0:=f.c0;have r1:=f.c1;have g0:=f.thaw 0;have g1:=f.thaw 1;replace f:=q_ f;replace E:=q_ E;replace u:=q_ u))
     all_goals
      have B:=Blk.pair f.o (.slice none 0 0) .nilIface;have K:=B.c0;have L:=B.c1;refine bodyPost_ret (v:=.tuple #[.agg #[.slice none 0 0,.nilIface],.iface 139 (.pointer (some ⟨g,0,none⟩))]) (by simp[results,results50,go_sem,K,L]) rfl ?_;rw[Z.o];exact vq_ Y.o (lo:=w1.heap.size) ⟨g,a3,rfl,u.o.alloc _⟩ ((l.o.A.fr.trans E.o u_).alloc _) (by omega)
    | ok a4=>
     obtain⟨pb,j2⟩:=a4;rw[n] at J;simp only at J
     by_cases a5:bt s j2=59
     ·rw[if_pos a5] at J;replace J:=q_ J;replace n:=q_ n;replace a5:=q_ a5;obtain⟨ti,e4,e6,e7,e8⟩:=info_parts zyx
      go_wp2_with (first
       |(go_at_call 72;refine(jf_ M.o.A.here hs U).mono ?_;rintro e w1 ⟨rfl,V⟩;rw[S.o];have l:=M.o.still V;have I:=q_ (zhw l.A.here (T.o.fr l.A.fr (Ne.symm H)) H hs b9 (λ pb q e=>zeu e));have a8:=l.A.hB;replace l:=q_ l)
       |(go_at_call 73;refine I.o.mono ?_;rintro e w2 ⟨a,b,c,ev,rfl,a7,E,r⟩;rw[n.o] at r;simp only[] at r;rw[if_pos a5.o,hx.o] at r;obtain⟨rfl,h2,e9,rfl,rfl,F⟩:=r;obtain⟨cT,cx,rfl⟩:=F.iface;have M2:=(l.o.call h2 E).alloc (.cells #[.int .i64 (j:Int),.int .u8 (x:Int),.iface cT cx] 132);have f1:=q_ ((F.mono (Q:=λ g=>w.heap.size+1+1<=g/\(Value.slice sa ds.length sc).ownBlock≠some g) (λ g _ hg=>⟨by omega,λ e=>by have:=l.o.A.row.lt g e;omega⟩)).fr ((Fr.refl w2 (λ _=>False)).alloc (.cells #[.int .i64 (j:Int),.int .u8 (x:Int),.iface cT cx] 132)) u_);have N2:=Blk.new w2 #[.int .i64 (j:Int),.int .u8 (x:Int),.iface cT cx] 132;have t0:=M2.A.b.c0;obtain⟨n0,n1,n2⟩:=N2.d3;have f8:=(l.o.call h2 E).A.hB;replace M2:=q_ M2;clear h2 F N2 a7 E)
       |(at_builtin;go_must (refine wpList_append_own_at _ rfl _ _ 81 rfl (w.heap.size+1+1) 132 ti _ 3 32 zvz e4 e6 e7 e8 rfl (by decide) (.slice sa ds.length sc) ds.length xs rfl ?hown _ 1 1 [.int .i64 (j:Int),.int .u8 (x:Int),.iface cT cx] rfl rfl (z7_ _ #[.int .i64 (j:Int),.int .u8 (x:Int),.iface cT cx] _ _ ?nn) ?one ?b1 ?b2 ?b3 ?_)
         case hown=>exact World.ownsRow.alloc M2.o.A.row _
         case nn=>simp
         case one=>simp[Value.oneCell']
         case b1=>unfold maxLen;omega
         case b2=>omega
         case b3=>simp;omega
         intro v5 w5 d1 b8 f0 d7
         have C:=M2.o.item (d:=⟨x,j,pb⟩) b8 d1 d7 f1.o
         have B5:=M2.o.A.itemCell ((Fr.refl _ _).alloc _) b8
         have e5:=B5.c0
         have f5:=B5.thaw 0
         obtain⟨g5,f6,rfl⟩:=zh_ d1 (by omega)
         clear b8 d7 f0 d1 B5
         replace C:=q_ C))
      go_roundg (7-(ds.length+1))
      case measure=>omega
      case rel=>exact⟨j2+1,_,ds++[⟨x,j,pb⟩],_,C.o,e9,by rw[ah_,am_];omega,by rw[ah_,am_];omega,by rw[ah_,am_,show 6-(ds.length+1)=5-ds.length by omega];exact J.o⟩
     ·rw[if_neg a5] at J;have Y:=q_ (show z1_ s=.error j2 by unfold z1_;rw[J]);replace n:=q_ n;replace a5:=q_ a5
      go_wp2_with (first
       |(go_at_call 72;refine(jf_ M.o.A.here hs U).mono ?_;rintro e w1 ⟨rfl,V⟩;rw[S.o];have l:=M.o.still V;have I:=q_ (zhw l.A.here (T.o.fr l.A.fr (Ne.symm H)) H hs b9 (λ pb q e=>zeu e));have a8:=l.A.hB;replace l:=q_ l)
       |(go_at_call 73;refine I.o.mono ?_;rintro e w2 ⟨a,b,c,ev,rfl,a7,E,r⟩;rw[n.o] at r;simp only[] at r;rw[if_neg a5.o] at r;obtain⟨⟨g,a3,rfl,u⟩,_⟩:=r;rcases a7 with rfl|⟨cT,cx,rfl⟩;have f:=(E.blk l.o.R (by omega)).alloc (.cells #[.int .i64 a,.int .u8 b,.nilIface] 132);have r0:=f.c0;have r1:=f.c1;have g0:=f.thaw 0;have g1:=f.thaw 1;replace f:=q_ f;replace E:=q_ E;replace u:=q_ u;rotate_left;have f:=(E.blk l.o.R (by omega)).alloc (.cells #[.int .i64 a,.int .u8 b,.iface cT cx] 132);have r0:=f.c0;have r1:=f.c1;have g0:=f.thaw 0;have g1:=f.thaw 1;replace f:=q_ f;replace E:=q_ E;replace u:=q_ u))
      all_goals
       have B:=Blk.pair f.o (.slice none 0 0) .nilIface;have K:=B.c0;have L:=B.c1;refine bodyPost_ret (v:=.tuple #[.agg #[.slice none 0 0,.nilIface],.iface 139 (.pointer (some ⟨g,0,none⟩))]) (by simp[results,results50,go_sem,K,L]) rfl ?_;rw[Z.o];exact vq_ Y.o (lo:=w1.heap.size) ⟨g,a3,rfl,u.o.alloc _⟩ ((l.o.A.fr.trans E.o u_).alloc _) (by omega)
   | false=>
    have a6:=q_ (zfe J d8 (by rw[S];exact λ e=>absurd e.2 (by decide)));replace S:=q_ S;clear J;obtain⟨R_,e2⟩:∃ a4,pT s j=a4:=⟨_,rfl⟩;have b7:=(xz_ (s:=s) U)
    cases n:pT s j with
    | error k=>
     have Y:=q_ (show z1_ s=.error k by rw[a6.o,n]);replace n:=q_ n
     go_wp2_with (first
      |(go_at_call 72;refine(jf_ M.o.A.here hs U).mono ?_;rintro e w1 ⟨rfl,V⟩;rw[S.o];have l:=M.o.still V;have I:=q_ (zb6 hs _ j l_ U _ bp et ex l.A.here (T.o.fr l.A.fr (Ne.symm H)) H);have a8:=l.A.hB;replace l:=q_ l)
      |(go_at_call 74;refine I.o.mono ?_;rintro e G ⟨v,ev,_,rfl,y,r⟩;rw[n.o] at r;obtain⟨⟨g,a3,rfl,u⟩,_⟩:=r;have f:=y.blk l.o.R (by omega);have r0:=f.c0;have r1:=f.c1;have g0:=f.thaw 0;have g1:=f.thaw 1;replace f:=q_ f;replace y:=q_ y;replace u:=q_ u))
     have B:=Blk.pair f.o (.slice none 0 0) .nilIface;have K:=B.c0;have L:=B.c1;refine bodyPost_ret (v:=.tuple #[.agg #[.slice none 0 0,.nilIface],.iface 139 (.pointer (some ⟨g,0,none⟩))]) (by simp[results,results50,go_sem,K,L]) rfl ?_;rw[Z.o];have b4:=l.o.A.hB;exact vq_ Y.o (lo:=wr.heap.size) ⟨g,by have:=((Fr.refl wr (λ _=>False)).still V).size;omega,rfl,u.o⟩ (l.o.A.fr.trans y.o u_) (by omega)
    | ok a4=>
     obtain⟨t,k⟩:=a4;have hk:=b7.1 t k n
     by_cases a9:k<s.size
     ·have Y:=q_ (show z1_ s=.error k by rw[a6.o,n];simp only;rw[if_pos a9])
      have d0:(k:Int)<(s.size:Int):=by omega
      replace n:=q_ n
      go_wp2_with (first
       |(go_at_call 72;refine(jf_ M.o.A.here hs U).mono ?_;rintro e w1 ⟨rfl,V⟩;rw[S.o];have l:=M.o.still V;have I:=q_ (zb6 hs _ j l_ U _ bp et ex l.A.here (T.o.fr l.A.fr (Ne.symm H)) H);have a8:=l.A.hB;replace l:=q_ l)
       |(go_at_call 74;refine I.o.mono ?_;rintro e G ⟨v,ev,_,rfl,y,r⟩;rw[n.o] at r;obtain⟨rfl,X,F⟩:=r;obtain⟨N,O,rfl⟩:=F.iface;have z:=l.o.call X y;have c0:=z.A.here.c0;have c1:=z.A.here.c1;have hV:=q_ (F.mono (Q:=λ g=>w.heap.size+1+1<=g) (λ g _ hg=>by omega));have d6:=y.size;replace z:=q_ z;clear y X F))
      go_quiet (fail)
      have p:=z.o.still (zd_.drewN G nq);generalize a0:G.drewN nq=W4 at p⊢
      have f2:W4.heap.size=G.heap.size:=by rw[<- a0];rfl
      clear a0;have b6:=q_ (x3_ p.A.here (T.o.fr p.A.fr (Ne.symm H)));replace p:=q_ p
      go_wp2_with (go_at_call 75;refine b6.o.mono ?_;rintro e w5 ⟨v5,rfl,⟨g,a3,rfl,u⟩,a1⟩;have f:=a1.blk p.o.R id;have r0:=f.c0;have r1:=f.c1;have g0:=f.thaw 0;have g1:=f.thaw 1;replace f:=q_ f;replace a1:=q_ a1;replace u:=q_ u)
      have B:=Blk.pair f.o (.slice none 0 0) .nilIface;have K:=B.c0;have L:=B.c1;refine bodyPost_ret (v:=.tuple #[.agg #[.slice none 0 0,.nilIface],.iface 139 (.pointer (some ⟨g,0,none⟩))]) (by simp[results,results50,go_sem,K,L]) rfl ?_;rw[Z.o];have b4:=p.o.A.hB;exact vq_ Y.o (lo:=W4.heap.size) ⟨g,a3,rfl,u.o⟩ (p.o.A.fr.trans a1.o v_) (by omega)
     ·have d2:=q_ (show z1_ s=.ok (ds,t) by rw[a6.o,n];simp only;rw[if_neg a9])
      have d0:¬ ((k:Int)<(s.size:Int)):=by omega
      replace n:=q_ n
      go_wp2_with (first
       |(go_at_call 72;refine(jf_ M.o.A.here hs U).mono ?_;rintro e w1 ⟨rfl,V⟩;rw[S.o];have l:=M.o.still V;have I:=q_ (zb6 hs _ j l_ U _ bp et ex l.A.here (T.o.fr l.A.fr (Ne.symm H)) H);have a8:=l.A.hB;replace l:=q_ l)
       |(go_at_call 74;refine I.o.mono ?_;rintro e G ⟨v,ev,_,rfl,y,r⟩;rw[n.o] at r;obtain⟨rfl,X,F⟩:=r;obtain⟨N,O,rfl⟩:=F.iface;have z:=l.o.call X y;have c0:=z.A.here.c0;have c1:=z.A.here.c1;have hV:=q_ (F.mono (Q:=λ g=>w.heap.size+1+1<=g) (λ g _ hg=>by omega));have d6:=y.size;replace z:=q_ z;clear y X F))
      go_quiet (fail)
      have p:=z.o.still (zd_.drewN G nq);have V4:=hV.o.fr ((Fr.refl G (λ _=>False)).still (zd_.drewN G nq)) u_;generalize a0:G.drewN nq=W4 at p V4⊢;clear a0;have C:=p.A.put 1 (.iface N O);have a2:Fr W4 (W4.setCell ⟨w.heap.size+1,1,none⟩ (.iface N O)) (λ g=>g=w.heap.size+1):=(Fr.refl W4 (λ g=>g=w.heap.size+1)).setCell ⟨w.heap.size+1,1,none⟩ _ (λ _=>rfl);have f:=a2.blk p.R (by omega);have k1:=p.A.b.cell 1;have kg:=p.A.b.thaw 1;have e0:=C.b.cell 0;have e1:=C.b.cell 1;have r0:=f.cell 0;have r1:=f.cell 1;have g0:=f.thaw 0;have g1:=f.thaw 1;simp only[aj_,al_,aa_,ab_] at k1 e0 e1 r0 r1;have D5:=p.D.fr a2 (λ g hg e=>by omega);have V5:=q_ (V4.fr a2 (λ g hg e=>by omega));replace C:=q_ C;replace p:=q_ p;replace D5:=q_ D5;replace f:=q_ f;clear a2 V4
      go_wp2_with fail
      have B:=Blk.pair f.o (.slice sa ds.length sc) (.iface N O);have K:=B.c0;have L:=B.c1;refine bodyPost_ret (v:=.tuple #[.agg #[.slice sa ds.length sc,.iface N O],.nilIface]) (by simp[results,results50,go_sem,K,L]) rfl ?_;rw[Z.o];have h4:=Fr.pair (W4.setCell ⟨w.heap.size+1,1,none⟩ (.iface N O)) w.heap.size (.slice sa ds.length sc) (.iface N O);refine⟨_,_,_,rfl,⟨_,_,_,rfl⟩,.inr ⟨_,_,rfl⟩,C.o.fr.trans h4 (λ f3 hy e=>by omega),?_⟩;rw[d2.o];refine⟨rfl,xs,yq_ (za_ C.o.row h4 (λ g hg e=>by have:=C.o.row.lt g hg;omega)),λ g hg=>by have:=C.o.row.lt g hg;omega,(D5.o.fr h4 (λ g hg e=>by omega)).mono (λ g _ hg=>by have:=hg.1;omega),(V5.o.fr h4 (λ g hg e=>by omega)).mono (λ g _ hg=>by omega)⟩
  ·have d9:¬ ((ds.length:Int)<6):=by omega
   have a6:=q_ (zfe J d8 (λ e=>h6 e.1));have I:=q_ (zb6 hs _ j l_ U _ bp et ex M.o.A.here (T.o.fr M.o.A.fr (Ne.symm H)) H);have l:=M;clear J;obtain⟨R_,e2⟩:∃ a4,pT s j=a4:=⟨_,rfl⟩;have b7:=(xz_ (s:=s) U)
   cases n:pT s j with
   | error k=>
    have Y:=q_ (show z1_ s=.error k by rw[a6.o,n]);replace n:=q_ n
    go_wp2_with (first
     |(go_at_call 74;refine I.o.mono ?_;rintro e G ⟨v,ev,_,rfl,y,r⟩;rw[n.o] at r;obtain⟨⟨g,a3,rfl,u⟩,_⟩:=r;have f:=y.blk l.o.R (by omega);have r0:=f.c0;have r1:=f.c1;have g0:=f.thaw 0;have g1:=f.thaw 1;replace f:=q_ f;replace y:=q_ y;replace u:=q_ u))
    have B:=Blk.pair f.o (.slice none 0 0) .nilIface;have K:=B.c0;have L:=B.c1;refine bodyPost_ret (v:=.tuple #[.agg #[.slice none 0 0,.nilIface],.iface 139 (.pointer (some ⟨g,0,none⟩))]) (by simp[results,results50,go_sem,K,L]) rfl ?_;rw[Z.o];have b4:=l.o.A.hB;exact vq_ Y.o (lo:=wr.heap.size) ⟨g,by omega,rfl,u.o⟩ (l.o.A.fr.trans y.o u_) (by omega)
   | ok a4=>
    obtain⟨t,k⟩:=a4;have hk:=b7.1 t k n
    by_cases a9:k<s.size
    ·have Y:=q_ (show z1_ s=.error k by rw[a6.o,n];simp only;rw[if_pos a9])
     have d0:(k:Int)<(s.size:Int):=by omega
     replace n:=q_ n
     go_wp2_with (first
      |(go_at_call 74;refine I.o.mono ?_;rintro e G ⟨v,ev,_,rfl,y,r⟩;rw[n.o] at r;obtain⟨rfl,X,F⟩:=r;obtain⟨N,O,rfl⟩:=F.iface;have z:=l.o.call X y;have c0:=z.A.here.c0;have c1:=z.A.here.c1;have hV:=q_ (F.mono (Q:=λ g=>w.heap.size+1+1<=g) (λ g _ hg=>by omega));have d6:=y.size;replace z:=q_ z;clear y X F))
     go_quiet (fail)
     have p:=z.o.still (zd_.drewN G nq);generalize a0:G.drewN nq=W4 at p⊢
     have f2:W4.heap.size=G.heap.size:=by rw[<- a0];rfl
     clear a0;have b6:=q_ (x3_ p.A.here (T.o.fr p.A.fr (Ne.symm H)));replace p:=q_ p
     go_wp2_with (go_at_call 75;refine b6.o.mono ?_;rintro e w5 ⟨v5,rfl,⟨g,a3,rfl,u⟩,a1⟩;have f:=a1.blk p.o.R id;have r0:=f.c0;have r1:=f.c1;have g0:=f.thaw 0;have g1:=f.thaw 1;replace f:=q_ f;replace a1:=q_ a1;replace u:=q_ u)
     have B:=Blk.pair f.o (.slice none 0 0) .nilIface;have K:=B.c0;have L:=B.c1;refine bodyPost_ret (v:=.tuple #[.agg #[.slice none 0 0,.nilIface],.iface 139 (.pointer (some ⟨g,0,none⟩))]) (by simp[results,results50,go_sem,K,L]) rfl ?_;rw[Z.o];have b4:=p.o.A.hB;exact vq_ Y.o (lo:=W4.heap.size) ⟨g,a3,rfl,u.o⟩ (p.o.A.fr.trans a1.o v_) (by omega)
    ·have d2:=q_ (show z1_ s=.ok (ds,t) by rw[a6.o,n];simp only;rw[if_neg a9])
     have d0:¬ ((k:Int)<(s.size:Int)):=by omega
     replace n:=q_ n
     go_wp2_with (first
      |(go_at_call 74;refine I.o.mono ?_;rintro e G ⟨v,ev,_,rfl,y,r⟩;rw[n.o] at r;obtain⟨rfl,X,F⟩:=r;obtain⟨N,O,rfl⟩:=F.iface;have z:=l.o.call X y;have c0:=z.A.here.c0;have c1:=z.A.here.c1;have hV:=q_ (F.mono (Q:=λ g=>w.heap.size+1+1<=g) (λ g _ hg=>by omega));have d6:=y.size;replace z:=q_ z;clear y X F))
     go_quiet (fail)
     have p:=z.o.still (zd_.drewN G nq);have V4:=hV.o.fr ((Fr.refl G (λ _=>False)).still (zd_.drewN G nq)) u_;generalize a0:G.drewN nq=W4 at p V4⊢;clear a0;have C:=p.A.put 1 (.iface N O);have a2:Fr W4 (W4.setCell ⟨w.heap.size+1,1,none⟩ (.iface N O)) (λ g=>g=w.heap.size+1):=(Fr.refl W4 (λ g=>g=w.heap.size+1)).setCell ⟨w.heap.size+1,1,none⟩ _ (λ _=>rfl);have f:=a2.blk p.R (by omega);have k1:=p.A.b.cell 1;have kg:=p.A.b.thaw 1;have e0:=C.b.cell 0;have e1:=C.b.cell 1;have r0:=f.cell 0;have r1:=f.cell 1;have g0:=f.thaw 0;have g1:=f.thaw 1;simp only[aj_,al_,aa_,ab_] at k1 e0 e1 r0 r1;have D5:=p.D.fr a2 (λ g hg e=>by omega);have V5:=q_ (V4.fr a2 (λ g hg e=>by omega));replace C:=q_ C;replace p:=q_ p;replace D5:=q_ D5;replace f:=q_ f;clear a2 V4
     go_wp2_with fail
     have B:=Blk.pair f.o (.slice sa ds.length sc) (.iface N O);have K:=B.c0;have L:=B.c1;refine bodyPost_ret (v:=.tuple #[.agg #[.slice sa ds.length sc,.iface N O],.nilIface]) (by simp[results,results50,go_sem,K,L]) rfl ?_;rw[Z.o];have h4:=Fr.pair (W4.setCell ⟨w.heap.size+1,1,none⟩ (.iface N O)) w.heap.size (.slice sa ds.length sc) (.iface N O);refine⟨_,_,_,rfl,⟨_,_,_,rfl⟩,.inr ⟨_,_,rfl⟩,C.o.fr.trans h4 (λ f3 hy e=>by omega),?_⟩;rw[d2.o];refine⟨rfl,xs,yq_ (za_ C.o.row h4 (λ g hg e=>by have:=C.o.row.lt g hg;omega)),λ g hg=>by have:=C.o.row.lt g hg;omega,(D5.o.fr h4 (λ g hg e=>by omega)).mono (λ g _ hg=>by have:=hg.1;omega),(V5.o.fr h4 (λ g hg e=>by omega)).mono (λ g _ hg=>by omega)⟩
end Go.Proofs.YtiifagiebikmdaaGreatDoor
