import Derived.Test.YtiifagiebikmdaaGreatDoorW19
import Derived.Test.YtiifagiebikmdaaGreatDoorW03
import Derived.Test.YtiifagiebikmdaaGreatDoorW00
import Derived.Test.YtiifagiebikmdaaGreatDoorA00
set_option maxHeartbeats 16000000
set_option maxRecDepth 100000
set_option linter.unusedSimpArgs false
open Go.Proofs.Tryz
namespace Go.Proofs.YtiifagiebikmdaaGreatDoor
open Go.RowKit
variable {i c:Nat}{et:TypeId}{ex:Value}
def zn0 (w:World) (bp:Nat) (s:BA) (i:Nat) (e:Ending) (w':World):Prop:=
 ∃ k g,k=(pD s i 0).getD s.size/\i<=k/\k<=s.size/\w.heap.size<=g/\e=.returned (.pointer (some ⟨g,0,none⟩))/\Blk w' g [.int .i64 (i:Int),.string (s.extract i k),.nilIface] 153/\Fr w w' (· = bp)/\PAt w' bp s k
def zxs (w:World) (bp:Nat) (s:BA) (i:Nat) (n:Nat) (ov:Value) (W:World):Prop:=
 ∃ k o:Nat,ov=.int .i64 (o:Int)/\pD s i 0=pD s k o/\i<=k/\o<=k/\k<=s.size/\PAt W bp s k/\Fr w W (· = bp)/\s.size-k<=n
theorem zl6 (h:zcv c=true):c=40\/c=91\/c=123\/c=60:=by
 simp only[zcv,ax_,beq_iff_eq] at h;omega
theorem zky (h:zae c=true):c=41\/c=93\/c=125\/c=62:=by
 simp only[zae,ax_,beq_iff_eq] at h;omega
theorem zh2 (h:zcv c=false) (a:zae c=false):c≠40/\c≠91/\c≠123/\c≠60/\c≠41/\c≠93/\c≠125/\c≠62:=by
 refine⟨?_,?_,?_,?_,?_,?_,?_,?_⟩<;>(rintro rfl;first|(revert h;decide)|(revert a;decide))
theorem zjl {w:World}{bp:Nat}{s:BA}(h:PAt w bp s i) (hs:s.size<=300) (N:i<=s.size) :
 Calls prog 172 #[.pointer (some ⟨bp,0,none⟩)] w (zn0 w bp s i):=by
 obtain⟨I,B⟩:∃ P,H_ (P=zn0 w bp s i):=⟨_,rfl⟩;rw[<- B.o];have a1:=h.lt;have H:=q_ (show zxs w bp s i (s.size-i) (.int .i64 0) w from⟨i,0,rfl,rfl,l_,ak_ _,N,h,Fr.refl _ _,l_⟩);replace h:=q_ h
 go_in
 go_wp2_with (go_at_call 103;refine(yj_ h.o).mono ?_;rintro e w' ⟨rfl,F⟩;rw[F];clear F)
 go_loopg [4] (s.size-i) (λ n V W=>zxs w bp s i n V W)
 case atStart=>exact H.o
 case round=>
  clear H;obtain⟨k,o,rfl,x,O,a5,R,h1,v,hn⟩:=hrel;have c0:=h1.c0;have c1:=h1.c1;replace x:=q_ x;have t:bp<wr.heap.size:=h1.lt
  have a2:(i:Int)<=(k:Int):=by omega
  have a3:(k:Int)<=(s.size:Int):=by omega
  replace v:=q_ v;replace h1:=q_ h1
  have C:H_ (∀ W,zd_ wr W->(pD s i 0).getD s.size=k->I (.returned (.pointer (some ⟨W.heap.size,0,none⟩))) (W.alloc (.cells #[.int .i64 (i:Int),.string (s.extract i k),.nilIface] 153))):=q_ (λ W q he=>by
   rw[B.o]
   have D:=v.o.still q
   exact⟨k,W.heap.size,he.symm,O,R,D.size,rfl,Blk.new W _ _,D.alloc _,Blk.alloc (h1.o.still q) _⟩)
  by_cases hk:k<s.size
  ·have Q:(k:Int)<(s.size:Int):=by omega
   obtain⟨c,hc⟩:∃ c,bt s k=c:=⟨_,rfl⟩
   have a0:((s[k]'hk).toNat:Int)=(c:Int):=by rw[<- hc,j5_ s k hk]
   have d:=zq0 o hk;rw[hc,<- x.o] at d;replace hc:=q_ hc;have f1:=h1.o.thaw 1
   by_cases l:o=0/\(c=44\/c=41)
   ·rw[if_pos l] at d;have z:=q_ (show(pD s i 0).getD s.size=k by rw[d];rfl);clear d;obtain⟨rfl,M⟩:=l
    rcases M with rfl|rfl
    all_goals
     go_wp2_with fail
     go_quiet (fail)
     go_wp2_with fail
     go_quiet (fail)
     go_wp2_with fail
     refine zx_ 13 (λ W=>W.cell? ⟨bp,0,none⟩=some (.string s)/\W.cell? ⟨bp,1,none⟩=some (.int .i64 (k:Int))) (by kernel_rfl) ?_;refine ta_ 0 rfl (by kernel_rfl) (λ _ _ _ h=>h) (by rintro W ⟨h1,a⟩;go_simp<;>rfl) ?_;refine ta_ 1 rfl (by kernel_rfl) (λ _ _ _ h=>h) (by rintro W ⟨h1,a⟩;go_simp<;>rfl) ?_;refine ta_ 2 rfl (by kernel_rfl) (λ _ _ _ h=>h) (by rintro W ⟨h1,a⟩;go_simp<;>rfl) ?_;refine ta_ 3 rfl (by kernel_rfl) (λ _ _ _ h=>h) (by rintro W ⟨h1,a⟩;go_simp<;>rfl) ?_;refine ta_ 4 rfl (by kernel_rfl) (λ _ _ _ h=>h) (by rintro W ⟨h1,a⟩;go_simp<;>rfl) ?_;refine ta_ 5 rfl (by kernel_rfl) (λ _ _ _ h=>h) (by rintro W ⟨h1,a⟩;go_simp<;>rfl) ?_;refine ta_ 6 rfl (by kernel_rfl) (λ _ _ _ h=>h) (by rintro W ⟨h1,a⟩;go_simp<;>rfl) ?_;refine ta_ 7 rfl (by kernel_rfl) (λ _ _ _ h=>h) (by rintro W ⟨h1,a⟩;go_simp<;>rfl) ?_;refine ta_ 8 rfl (by kernel_rfl) (λ _ _ _ h=>h) (by rintro W ⟨h1,a⟩;go_simp<;>rfl) ?_;refine ta_ 9 rfl (by kernel_rfl) (λ _ _ _ h=>h) (by rintro W ⟨h1,a⟩;go_simp<;>rfl) ?_;refine ta_ 10 rfl (by kernel_rfl) (λ _ _ _ h=>h) (by rintro W ⟨h1,a⟩;go_simp<;>rfl) ?_;refine ta_ 11 rfl (by kernel_rfl) (λ _ _ _ h=>h) (by rintro W ⟨h1,a⟩;go_simp<;>rfl) ?_;refine ze_ 12 rfl (by kernel_rfl) (λ _=>⟨c0,c1⟩) (λ K b=>?_);go_simp;refine b _ _ ?_;clear b K;refine ze_ 13 rfl (by kernel_rfl) (λ _=>⟨(World.cell?_alloc_past _ _ _ (by exact t)).trans c0,(World.cell?_alloc_past _ _ _ (by exact t)).trans c1⟩) (λ K b=>?_);go_simp;refine b _ _ ?_;clear b K;refine zq_ (by kernel_rfl) (λ y=>absurd y (by decide)) ?_ _
     go_wp2_with fail
     try go_ret
     exact C.o (wr.drewN _) (zd_.drewN _ _) z.o
   ·rw[if_neg l] at d;replace d:=q_ d
    have m:H_ (∀ (A:Int) (W:World),A=(zbz c o:Nat)->zd_ wr W->zxs w bp s i (s.size-(k+1)) (.int .i64 A) (W.setCell ⟨bp,1,none⟩ (.int .i64 ((k:Int)+1)))):=q_ (λ A W S q=>by
     have a:=h1.o.still q
     exact⟨k+1,zbz c o,by rw[S],d.o,by omega,by unfold zbz;split<;>(try split)<;>omega,hk,a.inc,(v.o.still q).setCell _ _ (λ _=>rfl),l_⟩)
    replace l:=q_ l;cases ho:zcv c<;>cases f:zae c
    case true.true=>exact(zh1 ho f).elim
    case false.false=>
     have g:=q_ (by simp[zbz,ho,f]:zbz c o=o);obtain⟨m1,m2,m3,m4,m5,m6,m7,m8⟩:=zh2 ho f;clear ho f
     have X:((c:Int)==40)=false:=by simp;omega
     have Y:((c:Int)==91)=false:=by simp;omega
     have Z:((c:Int)==123)=false:=by simp;omega
     have e4:((c:Int)==60)=false:=by simp;omega
     have e5:((c:Int)==41)=false:=by simp;omega
     have e6:((c:Int)==93)=false:=by simp;omega
     have e7:((c:Int)==125)=false:=by simp;omega
     have e8:((c:Int)==62)=false:=by simp;omega
     by_cases r:o=0
     ·subst r
      have e9:((c:Int)==44)=false:=by have:=l.o;simp;omega
      go_wp2_with fail
      go_quiet (fail)
      go_wp2_with fail
      go_quiet (fail)
      go_wp2_with fail
      go_roundg (s.size-(k+1))
      case measure=>omega
      case rel=>exact m.o _ _ (by rw[g.o]<;>omega) (by first|exact zd_.drewN _ _|exact(zd_.drewN _ _).trans (zd_.drewN _ _)|exact((zd_.drewN _ _).trans (zd_.drewN _ _)).trans (zd_.drewN _ _))
     ·have G:((o:Int)==0)=false:=by simp;omega
      go_wp2_with fail
      go_quiet (fail)
      go_wp2_with fail
      go_quiet (fail)
      go_wp2_with fail
      go_roundg (s.size-(k+1))
      case measure=>omega
      case rel=>exact m.o _ _ (by rw[g.o]<;>omega) (by first|exact zd_.drewN _ _|exact(zd_.drewN _ _).trans (zd_.drewN _ _)|exact((zd_.drewN _ _).trans (zd_.drewN _ _)).trans (zd_.drewN _ _))
    case true.false=>
     have g:=q_ (by simp[zbz,ho]:zbz c o=o+1);have u:=zl6 ho;clear ho f
     rcases u with rfl|rfl|rfl|rfl
     all_goals
      by_cases r:o=0
      ·subst r
       go_wp2_with fail
       go_quiet (fail)
       go_wp2_with fail
       go_quiet (fail)
       go_wp2_with fail
       go_roundg (s.size-(k+1))
       case measure=>omega
       case rel=>exact m.o _ _ (by rw[g.o]<;>omega) (by first|exact zd_.drewN _ _|exact(zd_.drewN _ _).trans (zd_.drewN _ _)|exact((zd_.drewN _ _).trans (zd_.drewN _ _)).trans (zd_.drewN _ _))
      ·have G:((o:Int)==0)=false:=by simp;omega
       have U:(o:Int)<=300:=by omega
       go_wp2_with fail
       go_quiet (fail)
       go_wp2_with fail
       go_quiet (fail)
       go_wp2_with fail
       go_roundg (s.size-(k+1))
       case measure=>omega
       case rel=>exact m.o _ _ (by rw[g.o]<;>omega) (by first|exact zd_.drewN _ _|exact(zd_.drewN _ _).trans (zd_.drewN _ _)|exact((zd_.drewN _ _).trans (zd_.drewN _ _)).trans (zd_.drewN _ _))
    case false.true=>
     have g:=q_ (by simp[zbz,ho,f]:zbz c o=o-1);have u:=zky f;clear ho f
     by_cases r:o=0
     ·subst r
      have J:c=93\/c=125\/c=62:=by have:=l.o;omega
      clear u
      rcases J with rfl|rfl|rfl
      all_goals
       go_wp2_with fail
       go_quiet (fail)
       go_wp2_with fail
       go_quiet (fail)
       go_wp2_with fail
       go_roundg (s.size-(k+1))
       case measure=>omega
       case rel=>exact m.o _ _ (by rw[g.o]<;>omega) (by first|exact zd_.drewN _ _|exact(zd_.drewN _ _).trans (zd_.drewN _ _)|exact((zd_.drewN _ _).trans (zd_.drewN _ _)).trans (zd_.drewN _ _))
     ·have G:((o:Int)==0)=false:=by simp;omega
      have U:(o:Int)<=300:=by omega
      have a4:max ((o:Int)-1) 0=(o:Int)-1:=by omega
      rcases u with rfl|rfl|rfl|rfl
      all_goals
       go_wp2_with fail
       go_quiet (fail)
       go_wp2_with fail
       go_quiet (fail)
       go_wp2_with fail
       go_roundg (s.size-(k+1))
       case measure=>omega
       case rel=>exact m.o _ _ (by rw[g.o]<;>omega) (by first|exact zd_.drewN _ _|exact(zd_.drewN _ _).trans (zd_.drewN _ _)|exact((zd_.drewN _ _).trans (zd_.drewN _ _)).trans (zd_.drewN _ _))
  ·have E:k=s.size:=by omega
   have z:=q_ (show(pD s i 0).getD s.size=k by rw[x.o,zvh (by omega),Option.getD_none];exact E.symm)
   have Q:¬ ((k:Int)<(s.size:Int)):=by omega
   clear E
   go_wp2_with fail
   go_quiet (fail)
   go_wp2_with fail
   refine zx_ 13 (λ W=>W.cell? ⟨bp,0,none⟩=some (.string s)/\W.cell? ⟨bp,1,none⟩=some (.int .i64 (k:Int))) (by kernel_rfl) ?_;refine ta_ 0 rfl (by kernel_rfl) (λ _ _ _ h=>h) (by rintro W ⟨h1,a⟩;go_simp<;>rfl) ?_;refine ta_ 1 rfl (by kernel_rfl) (λ _ _ _ h=>h) (by rintro W ⟨h1,a⟩;go_simp<;>rfl) ?_;refine ta_ 2 rfl (by kernel_rfl) (λ _ _ _ h=>h) (by rintro W ⟨h1,a⟩;go_simp<;>rfl) ?_;refine ta_ 3 rfl (by kernel_rfl) (λ _ _ _ h=>h) (by rintro W ⟨h1,a⟩;go_simp<;>rfl) ?_;refine ta_ 4 rfl (by kernel_rfl) (λ _ _ _ h=>h) (by rintro W ⟨h1,a⟩;go_simp<;>rfl) ?_;refine ta_ 5 rfl (by kernel_rfl) (λ _ _ _ h=>h) (by rintro W ⟨h1,a⟩;go_simp<;>rfl) ?_;refine ta_ 6 rfl (by kernel_rfl) (λ _ _ _ h=>h) (by rintro W ⟨h1,a⟩;go_simp<;>rfl) ?_;refine ta_ 7 rfl (by kernel_rfl) (λ _ _ _ h=>h) (by rintro W ⟨h1,a⟩;go_simp<;>rfl) ?_;refine ta_ 8 rfl (by kernel_rfl) (λ _ _ _ h=>h) (by rintro W ⟨h1,a⟩;go_simp<;>rfl) ?_;refine ta_ 9 rfl (by kernel_rfl) (λ _ _ _ h=>h) (by rintro W ⟨h1,a⟩;go_simp<;>rfl) ?_;refine ta_ 10 rfl (by kernel_rfl) (λ _ _ _ h=>h) (by rintro W ⟨h1,a⟩;go_simp<;>rfl) ?_;refine ta_ 11 rfl (by kernel_rfl) (λ _ _ _ h=>h) (by rintro W ⟨h1,a⟩;go_simp<;>rfl) ?_;refine ze_ 12 rfl (by kernel_rfl) (λ _=>⟨c0,c1⟩) (λ K b=>?_);go_simp;refine b _ _ ?_;clear b K;refine ze_ 13 rfl (by kernel_rfl) (λ _=>⟨(World.cell?_alloc_past _ _ _ (by exact t)).trans c0,(World.cell?_alloc_past _ _ _ (by exact t)).trans c1⟩) (λ K b=>?_);go_simp;refine b _ _ ?_;clear b K;refine zq_ (by kernel_rfl) (λ y=>absurd y (by decide)) ?_ _
   go_wp2_with fail
   try go_ret
   exact C.o (wr.drewN _) (zd_.drewN _ _) z.o
open Go.RowKit
theorem Fr.four (w:World) (b:Nat) (a d e f:Value):Fr w ((((w.setCell ⟨b,0,none⟩ a).setCell ⟨b,1,none⟩ d).setCell ⟨b,2,none⟩ e).setCell ⟨b,3,none⟩ f) (λ g=>g=b):=
 ((((Fr.refl w (λ g=>g=b)).setCell ⟨b,0,none⟩ a (λ _=>rfl)).setCell ⟨b,1,none⟩ d (λ _=>rfl)).setCell ⟨b,2,none⟩ e (λ _=>rfl)).setCell ⟨b,3,none⟩ f (λ _=>rfl)
theorem Blk.four {w:World}{b t:Nat}{u0 g u2 l:Value}(h:Blk w b [u0,g,u2,l] t) (a d e f:Value):Blk ((((w.setCell ⟨b,0,none⟩ a).setCell ⟨b,1,none⟩ d).setCell ⟨b,2,none⟩ e).setCell ⟨b,3,none⟩ f) b [a,d,e,f] t:=
 (((h.set 0 a).set 1 d).set 2 e).set 3 f
def zix (w:World) (bp:Nat) (s:BA) (i:Nat) (et:TypeId) (ex:Value) (e:Ending) (w':World):Prop:=
 ∃ (a b:Int) (c d ev:Value),e=.returned (.tuple #[.agg #[.int .i64 a,.int .u8 b,c,d],ev])/\IfV c/\(∃ q,d=.pointer q)/\Fr w w' (· = bp)/\
  ((∃ f j,ev=.nilIface/\PAt w' bp s j/\j<=s.size/\FldV w' (λ g=>w.heap.size<=g) s f (.int .i64 a) (.int .u8 b) c d/\(ye_ s i=.ok (f,j)\/(ye_ s i=.error s.size/\j=s.size)))\/
   (∃ k,ye_ s i=.error k/\yd_ w' w.heap.size ev (k:Int) (.iface et ex)/\∃ j,j<=s.size/\PAt w' bp s j))
theorem zdh {w W:World}{bp:Nat}{s:BA}{k j lo:Nat}{a:Value}(hk:ye_ s i=.error k) (d:yd_ W lo a (k:Int) (.iface et ex)) (f:Fr w W (· = bp)) (o:w.heap.size<lo) (m:bp<w.heap.size) (h:PAt W bp s j) (l:j<=s.size) :
 zix w bp s i et ex (.returned (.tuple #[.agg #[.int .i64 0,.int .u8 0,.nilIface,.pointer none],a])) ((((W.setCell ⟨w.heap.size,0,none⟩ (.int .i64 0)).setCell ⟨w.heap.size,1,none⟩ (.int .u8 0)).setCell ⟨w.heap.size,2,none⟩ .nilIface).setCell ⟨w.heap.size,3,none⟩ (.pointer none)):=by
 have b:=Fr.four W w.heap.size (.int .i64 0) (.int .u8 0) .nilIface (.pointer none);exact⟨0,0,.nilIface,.pointer none,a,rfl,.inl rfl,⟨_,rfl⟩,f.trans b (λ x q e=>by omega),.inr ⟨k,hk,(d.fr b (λ g hg e=>by omega)).less (by omega),j,l,b.blk h (by omega)⟩⟩
theorem zoh {w:World}{bp:Nat}{s:BA}(h:PAt w bp s i) (hG:Gram w et ex) (A:bp≠0) (hs:s.size<=300) (hi:i<=s.size) :
 Calls prog 161 #[.pointer (some ⟨bp,0,none⟩)] w (zix w bp s i et ex):=by
 obtain⟨e8,Q_⟩:∃ P,H_ (P=zix w bp s i et ex):=⟨_,rfl⟩;rw[<- Q_.o];have d1:=h.lt;have h0:=q_ (show PAt (w.alloc (.cells #[.int .i64 0,.int .u8 0,.nilIface,.pointer none] 149)) bp s i from Blk.alloc h _);have F0:=q_ (show Fr w (w.alloc (.cells #[.int .i64 0,.int .u8 0,.nilIface,.pointer none] 149)) (λ x=>x=bp) from(Fr.refl w _).alloc _);have B0:=q_ (Blk.new w #[.int .i64 0,.int .u8 0,.nilIface,.pointer none] 149);have b6:=q_ (by simp:(w.alloc (.cells #[.int .i64 0,.int .u8 0,.nilIface,.pointer none] 149)).heap.size=w.heap.size+1);have G0:=q_ (hG.fr F0.o (Ne.symm A));have a1:=q_ hG;clear h hG;obtain⟨x,l⟩:∃ x,bt s i=x:=⟨_,rfl⟩
 cases z:zi_ x with
 | false=>
  have a9:=q_ (show ye_ s i=.error i by unfold ye_;rw[l,z];rfl);replace z:=q_ (show zi_ (bt s i)=false by rw[l];exact z);replace l:=q_ l
  go_in
  go_wp2_with (first
   |(go_at_call 162;refine(xy_ h0.o G0.o A hs hi).mono ?_;rintro e w1 ⟨a,b,ev,rfl,m,u⟩;obtain⟨g,a4,rfl,R,h1⟩:∃ g,(w.alloc (.cells #[.int .i64 0,.int .u8 0,.nilIface,.pointer none] 149)).heap.size<=g/\ev=.iface 139 (.pointer (some ⟨g,0,none⟩))/\Blk w1 g [.int .i64 (i:Int),.iface et ex] 141/\PAt w1 bp s i:=(by rcases u with⟨D,_⟩|⟨_,⟨g,d,f,q3⟩,Y⟩;(exact absurd (z.o.symm.trans D) (by decide));exact⟨g,d,f,q3,Y⟩);have y:=(m.blk B0.o (by omega)).alloc (.cells #[.int .i64 a,.int .u8 b] 146);obtain⟨r0,r1,r2,r3⟩:=y.d4;obtain⟨g0,g1,g2,g3⟩:=y.t4;replace y:=q_ y;replace m:=q_ m;replace R:=q_ R;replace h1:=q_ h1))
  have S2:=Blk.four y.o (.int .i64 0) (.int .u8 0) (.nilIface) (.pointer none);obtain⟨q0,d,f,q3⟩:=S2.d4;refine bodyPost_ret (v:=.tuple #[.agg #[.int .i64 0,.int .u8 0,.nilIface,.pointer none],.iface 139 (.pointer (some ⟨g,0,none⟩))]) (by simp[results,results161,go_sem,q0,d,f,q3]) rfl ?_;rw[Q_.o];exact zdh a9.o (lo:=(w.alloc (.cells #[.int .i64 0,.int .u8 0,.nilIface,.pointer none] 149)).heap.size) ⟨g,a4,rfl,R.o.alloc _⟩ ((F0.o.trans m.o u_).alloc _) (by rw[b6.o];omega) d1 (Blk.alloc h1.o _) hi
 | true=>
  have b4:i+1<=s.size:=zj_ (xc_ (by rw[l];exact z))
  by_cases F:bt s (i+1)=58
  case neg=>
   have a9:=q_ (show ye_ s i=.error (i+1) by unfold ye_;rw[l,z,if_pos rfl,if_neg F]);replace z:=q_ (show zi_ (bt s i)=true by rw[l];exact z);replace l:=q_ l;replace F:=q_ F
   go_in
   go_wp2_with (first
    |(go_at_call 162;refine(xy_ h0.o G0.o A hs hi).mono ?_;rintro e w1 ⟨a,b,ev,rfl,m,u⟩;obtain⟨rfl,rfl,rfl,h1⟩:a=(i:Int)/\b=(x:Int)/\ev=.nilIface/\PAt w1 bp s (i+1):=(by rcases u with⟨_,d,f,q3,Y,_⟩|⟨D,_⟩;(exact⟨d,f.trans (by rw[l.o]),q3,Y⟩);exact absurd (z.o.symm.trans D) (by decide));have P1:=Blk.alloc h1 (.cells #[.int .i64 (i:Int),.int .u8 (x:Int)] 146);have B:=(F0.o.trans m u_).alloc (.cells #[.int .i64 (i:Int),.int .u8 (x:Int)] 146);have H:=a1.o.fr B (Ne.symm A);have N:=Blk.new w1 #[.int .i64 (i:Int),.int .u8 (x:Int)] 146;have y:=(m.blk B0.o (by omega)).alloc (.cells #[.int .i64 (i:Int),.int .u8 (x:Int)] 146);have a5:=m.size;have a7:=q_ ((by simp):(w1.alloc (.cells #[.int .i64 (i:Int),.int .u8 (x:Int)] 146)).heap.size=w1.heap.size+1);rw[b6.o] at a5;replace P1:=q_ (show PAt _ bp s (i+1) from P1);replace B:=q_ B;replace H:=q_ H;replace N:=q_ N;replace y:=q_ y;clear m h1 u)
    |(go_at_call 105;refine(y1_ 58 P1.o H.o A hs b4 rfl (by decide)).mono ?_;rintro e U ⟨v2,rfl,q,hE⟩;obtain⟨g,a4,rfl,R,I⟩:∃ g,(w1.alloc (.cells #[.int .i64 (i:Int),.int .u8 (x:Int)] 146)).heap.size<=g/\v2=.iface 139 (.pointer (some ⟨g,0,none⟩))/\Blk U g [.int .i64 ((i+1:Nat):Int),.iface et ex] 141/\PAt U bp s (i+1):=(by rcases hE with⟨D,_⟩|⟨_,⟨g,d,f,q3⟩,Y⟩;(exact absurd D F.o);exact⟨g,d,f,q3,Y⟩);have C:=q.blk y.o (by omega);obtain⟨r0,r1,r2,r3⟩:=C.d4;obtain⟨g0,g1,g2,g3⟩:=C.t4;replace C:=q_ C;replace q:=q_ q;replace R:=q_ R;replace I:=q_ I))
   have S2:=Blk.four C.o (.int .i64 0) (.int .u8 0) (.nilIface) (.pointer none);obtain⟨q0,d,f,q3⟩:=S2.d4;refine bodyPost_ret (v:=.tuple #[.agg #[.int .i64 0,.int .u8 0,.nilIface,.pointer none],.iface 139 (.pointer (some ⟨g,0,none⟩))]) (by simp[results,results161,go_sem,q0,d,f,q3]) rfl ?_;rw[Q_.o];exact zdh a9.o (lo:=(w1.alloc (.cells #[.int .i64 (i:Int),.int .u8 (x:Int)] 146)).heap.size) ⟨g,a4,rfl,R.o⟩ (B.o.trans q.o u_) (by rw[a7.o];omega) d1 I.o b4
  case pos=>
  have b7:i+2<=s.size:=zj_ (s:=s) (i:=i+1) (by omega);have d0:=xz_ (s:=s) b7
  cases S:pT s (i+2) with
  | error k=>
   have a9:=q_ (show ye_ s i=.error k by unfold ye_;rw[l,z,if_pos rfl,if_pos F,S]);replace z:=q_ (show zi_ (bt s i)=true by rw[l];exact z);replace l:=q_ l;replace F:=q_ F;replace S:=q_ S;clear d0
   go_in
   go_wp2_with (first
    |(go_at_call 162;refine(xy_ h0.o G0.o A hs hi).mono ?_;rintro e w1 ⟨a,b,ev,rfl,m,u⟩;obtain⟨rfl,rfl,rfl,h1⟩:a=(i:Int)/\b=(x:Int)/\ev=.nilIface/\PAt w1 bp s (i+1):=(by rcases u with⟨_,d,f,q3,Y,_⟩|⟨D,_⟩;(exact⟨d,f.trans (by rw[l.o]),q3,Y⟩);exact absurd (z.o.symm.trans D) (by decide));have P1:=Blk.alloc h1 (.cells #[.int .i64 (i:Int),.int .u8 (x:Int)] 146);have B:=(F0.o.trans m u_).alloc (.cells #[.int .i64 (i:Int),.int .u8 (x:Int)] 146);have H:=a1.o.fr B (Ne.symm A);have N:=Blk.new w1 #[.int .i64 (i:Int),.int .u8 (x:Int)] 146;have y:=(m.blk B0.o (by omega)).alloc (.cells #[.int .i64 (i:Int),.int .u8 (x:Int)] 146);have a5:=m.size;have a7:=q_ ((by simp):(w1.alloc (.cells #[.int .i64 (i:Int),.int .u8 (x:Int)] 146)).heap.size=w1.heap.size+1);rw[b6.o] at a5;replace P1:=q_ (show PAt _ bp s (i+1) from P1);replace B:=q_ B;replace H:=q_ H;replace N:=q_ N;replace y:=q_ y;clear m h1 u)
    |(go_at_call 105;refine(y1_ 58 P1.o H.o A hs b4 rfl (by decide)).mono ?_;rintro e U ⟨v2,rfl,q,hE⟩;obtain⟨rfl,I⟩:v2=.nilIface/\PAt U bp s (i+2):=(by rcases hE with⟨_,d,f,_⟩|⟨D,_⟩;(exact⟨d,f⟩);exact absurd F.o D);have b5:=q.size;rw[a7.o] at b5;have C:=q.blk y.o (by omega);have Z:=q.blk N.o (by omega);have M:=B.o.trans q u_;have G2:=q_ (a1.o.fr M (Ne.symm A));replace C:=q_ C;replace Z:=q_ Z;replace M:=q_ M;replace I:=q_ I;clear q hE)
    |(go_at_call 74;refine(zb6 hs _ (i+2) l_ b7 U bp et ex I.o G2.o A).mono ?_;rintro e E ⟨v3,d7,_,rfl,G,u⟩;rw[S.o] at u;obtain⟨⟨g,a4,rfl,R⟩,j3,d9,h3⟩:=u;have X:=G.blk C.o (by omega);obtain⟨r0,r1,r2,r3⟩:=X.d4;obtain⟨g0,g1,g2,g3⟩:=X.t4;replace X:=q_ X;replace G:=q_ G;replace R:=q_ R;replace h3:=q_ h3))
   have S2:=Blk.four X.o (.int .i64 0) (.int .u8 0) (.nilIface) (.pointer none);obtain⟨q0,d,f,q3⟩:=S2.d4;refine bodyPost_ret (v:=.tuple #[.agg #[.int .i64 0,.int .u8 0,.nilIface,.pointer none],.iface 139 (.pointer (some ⟨g,0,none⟩))]) (by simp[results,results161,go_sem,q0,d,f,q3]) rfl ?_;rw[Q_.o];exact zdh a9.o (lo:=U.heap.size) ⟨g,a4,rfl,R.o⟩ (M.o.trans G.o u_) (by omega) d1 h3.o d9
  | ok r=>
  obtain⟨t,j⟩:=r;have hj:=d0.1 t j S;clear d0
  by_cases a0:bt s j=61
  case neg=>
   have d6:=q_ (show ye_ s i=.ok (⟨x,i,t,none⟩,j) by unfold ye_;rw[l,z,if_pos rfl,if_pos F,S];simp only;rw[if_neg a0]);replace z:=q_ (show zi_ (bt s i)=true by rw[l];exact z);replace l:=q_ l;replace F:=q_ F;replace S:=q_ S;replace a0:=q_ a0
   go_in
   go_wp2_with (first
    |(go_at_call 162;refine(xy_ h0.o G0.o A hs hi).mono ?_;rintro e w1 ⟨a,b,ev,rfl,m,u⟩;obtain⟨rfl,rfl,rfl,h1⟩:a=(i:Int)/\b=(x:Int)/\ev=.nilIface/\PAt w1 bp s (i+1):=(by rcases u with⟨_,d,f,q3,Y,_⟩|⟨D,_⟩;(exact⟨d,f.trans (by rw[l.o]),q3,Y⟩);exact absurd (z.o.symm.trans D) (by decide));have P1:=Blk.alloc h1 (.cells #[.int .i64 (i:Int),.int .u8 (x:Int)] 146);have B:=(F0.o.trans m u_).alloc (.cells #[.int .i64 (i:Int),.int .u8 (x:Int)] 146);have H:=a1.o.fr B (Ne.symm A);have N:=Blk.new w1 #[.int .i64 (i:Int),.int .u8 (x:Int)] 146;have y:=(m.blk B0.o (by omega)).alloc (.cells #[.int .i64 (i:Int),.int .u8 (x:Int)] 146);have a5:=m.size;have a7:=q_ ((by simp):(w1.alloc (.cells #[.int .i64 (i:Int),.int .u8 (x:Int)] 146)).heap.size=w1.heap.size+1);rw[b6.o] at a5;replace P1:=q_ (show PAt _ bp s (i+1) from P1);replace B:=q_ B;replace H:=q_ H;replace N:=q_ N;replace y:=q_ y;clear m h1 u)
    |(go_at_call 105;refine(y1_ 58 P1.o H.o A hs b4 rfl (by decide)).mono ?_;rintro e U ⟨v2,rfl,q,hE⟩;obtain⟨rfl,I⟩:v2=.nilIface/\PAt U bp s (i+2):=(by rcases hE with⟨_,d,f,_⟩|⟨D,_⟩;(exact⟨d,f⟩);exact absurd F.o D);have b5:=q.size;rw[a7.o] at b5;have C:=q.blk y.o (by omega);have Z:=q.blk N.o (by omega);have M:=B.o.trans q u_;have G2:=q_ (a1.o.fr M (Ne.symm A));replace C:=q_ C;replace Z:=q_ Z;replace M:=q_ M;replace I:=q_ I;clear q hE)
    |(go_at_call 74;refine(zb6 hs _ (i+2) l_ b7 U bp et ex I.o G2.o A).mono ?_;rintro e E ⟨v3,d7,b9,rfl,G,u⟩;rw[S.o] at u;obtain⟨rfl,h3,a6⟩:=u;obtain⟨J,K,rfl⟩:∃ T x,v3=.iface T x:=(by cases a6<;>exact⟨_,_,rfl⟩);have e6:=G.size;have X:=G.blk C.o (by omega);have L3:=G.blk Z.o (by omega);have F3:=M.o.trans G u_;have l0:=L3.c0;have l1:=L3.c1;have V:=(Fr.refl E (λ _=>False)).alloc (.cells #[.int .i64 (i:Int),.int .u8 (x:Int),.iface J K,.pointer none] 149);have a8:(E.alloc (.cells #[.int .i64 (i:Int),.int .u8 (x:Int),.iface J K,.pointer none] 149)).heap.size=E.heap.size+1:=(by simp);have D4:=V.blk X id;have E4:=Blk.new E #[.int .i64 (i:Int),.int .u8 (x:Int),.iface J K,.pointer none] 149;have F4:=F3.trans V v_;have P4:=V.blk h3 id;have V4:=q_ ((a6.mono (Q:=λ g=>E.heap.size≠g/\w.heap.size<g/\w1.heap.size<g) (λ g a4 R=>by omega)).fr V u_);replace D4:=q_ D4;replace E4:=q_ E4;replace F4:=q_ F4;replace P4:=q_ (show PAt _ bp s j from P4);replace a8:=q_ a8;clear b9 G h3 a6 X L3 F3 V)
    |(go_at_call 106;refine(zes 61 P4.o hs hj.2 rfl (by decide) a0.o).mono ?_;rintro e w5 ⟨rfl,O,h5⟩;have D5:=O.blk D4.o (by omega);have E5:=O.blk E4.o (by omega);obtain⟨r0,r1,r2,r3⟩:=D5.d4;obtain⟨g0,g1,g2,g3⟩:=D5.t4;obtain⟨e0,e1,e2,e3⟩:=E5.d4;replace D5:=q_ D5;replace E5:=q_ E5;replace O:=q_ O;replace h5:=q_ h5))
   have S2:=Blk.four D5.o (.int .i64 (i:Int)) (.int .u8 (x:Int)) (.iface J K) (.pointer none);obtain⟨q0,d,f,q3⟩:=S2.d4;refine bodyPost_ret (v:=.tuple #[.agg #[.int .i64 (i:Int),.int .u8 (x:Int),.iface J K,.pointer none],.nilIface]) (by simp[results,results161,go_sem,q0,d,f,q3]) rfl ?_;rw[Q_.o];have h4:=Fr.four w5 w.heap.size (.int .i64 (i:Int)) (.int .u8 (x:Int)) (.iface J K) (.pointer none);refine⟨(i:Int),(x:Int),.iface J K,.pointer none,.nilIface,rfl,.inr ⟨_,_,rfl⟩,⟨_,rfl⟩,(F4.o.trans O.o u_).trans h4 (λ d8 hy e=>by omega),.inl ⟨⟨x,i,t,none⟩,j,rfl,h4.blk h5.o (by omega),hj.2,⟨rfl,rfl,?_,rfl⟩,.inl d6.o⟩⟩;exact((V4.o.fr O.o (λ g hg e=>by omega)).fr h4 (λ g hg e=>by omega)).mono (λ g _ hg=>by omega)
  case pos=>
   have e5:j+1<=s.size:=zj_ (s:=s) (i:=j) (by omega);have d6:=q_ (show ye_ s i=(match pD s (j+1) 0 with|none=>.error s.size|some e=>.ok (⟨x,i,t,some (j+1,e)⟩,e)) by unfold ye_;rw[l,z,if_pos rfl,if_pos F,S];simp only;rw[if_pos a0];cases pD s (j+1) 0<;>rfl);replace z:=q_ (show zi_ (bt s i)=true by rw[l];exact z);replace l:=q_ l;replace F:=q_ F;replace S:=q_ S;replace a0:=q_ a0
   go_in
   go_wp2_with (first
    |(go_at_call 162;refine(xy_ h0.o G0.o A hs hi).mono ?_;rintro e w1 ⟨a,b,ev,rfl,m,u⟩;obtain⟨rfl,rfl,rfl,h1⟩:a=(i:Int)/\b=(x:Int)/\ev=.nilIface/\PAt w1 bp s (i+1):=(by rcases u with⟨_,d,f,q3,Y,_⟩|⟨D,_⟩;(exact⟨d,f.trans (by rw[l.o]),q3,Y⟩);exact absurd (z.o.symm.trans D) (by decide));have P1:=Blk.alloc h1 (.cells #[.int .i64 (i:Int),.int .u8 (x:Int)] 146);have B:=(F0.o.trans m u_).alloc (.cells #[.int .i64 (i:Int),.int .u8 (x:Int)] 146);have H:=a1.o.fr B (Ne.symm A);have N:=Blk.new w1 #[.int .i64 (i:Int),.int .u8 (x:Int)] 146;have y:=(m.blk B0.o (by omega)).alloc (.cells #[.int .i64 (i:Int),.int .u8 (x:Int)] 146);have a5:=m.size;have a7:=q_ ((by simp):(w1.alloc (.cells #[.int .i64 (i:Int),.int .u8 (x:Int)] 146)).heap.size=w1.heap.size+1);rw[b6.o] at a5;replace P1:=q_ (show PAt _ bp s (i+1) from P1);replace B:=q_ B;replace H:=q_ H;replace N:=q_ N;replace y:=q_ y;clear m h1 u)
    |(go_at_call 105;refine(y1_ 58 P1.o H.o A hs b4 rfl (by decide)).mono ?_;rintro e U ⟨v2,rfl,q,hE⟩;obtain⟨rfl,I⟩:v2=.nilIface/\PAt U bp s (i+2):=(by rcases hE with⟨_,d,f,_⟩|⟨D,_⟩;(exact⟨d,f⟩);exact absurd F.o D);have b5:=q.size;rw[a7.o] at b5;have C:=q.blk y.o (by omega);have Z:=q.blk N.o (by omega);have M:=B.o.trans q u_;have G2:=q_ (a1.o.fr M (Ne.symm A));replace C:=q_ C;replace Z:=q_ Z;replace M:=q_ M;replace I:=q_ I;clear q hE)
    |(go_at_call 74;refine(zb6 hs _ (i+2) l_ b7 U bp et ex I.o G2.o A).mono ?_;rintro e E ⟨v3,d7,b9,rfl,G,u⟩;rw[S.o] at u;obtain⟨rfl,h3,a6⟩:=u;obtain⟨J,K,rfl⟩:∃ T x,v3=.iface T x:=(by cases a6<;>exact⟨_,_,rfl⟩);have e6:=G.size;have X:=G.blk C.o (by omega);have L3:=G.blk Z.o (by omega);have F3:=M.o.trans G u_;have l0:=L3.c0;have l1:=L3.c1;have V:=(Fr.refl E (λ _=>False)).alloc (.cells #[.int .i64 (i:Int),.int .u8 (x:Int),.iface J K,.pointer none] 149);have a8:(E.alloc (.cells #[.int .i64 (i:Int),.int .u8 (x:Int),.iface J K,.pointer none] 149)).heap.size=E.heap.size+1:=(by simp);have D4:=V.blk X id;have E4:=Blk.new E #[.int .i64 (i:Int),.int .u8 (x:Int),.iface J K,.pointer none] 149;have F4:=F3.trans V v_;have P4:=V.blk h3 id;have V4:=q_ ((a6.mono (Q:=λ g=>E.heap.size≠g/\w.heap.size<g/\w1.heap.size<g) (λ g a4 R=>by omega)).fr V u_);replace D4:=q_ D4;replace E4:=q_ E4;replace F4:=q_ F4;replace P4:=q_ (show PAt _ bp s j from P4);replace a8:=q_ a8;clear b9 G h3 a6 X L3 F3 V)
    |(go_at_call 106;refine(zcp 61 P4.o hs hj.2 rfl (by decide) a0.o).mono ?_;rintro e w5 ⟨rfl,O,h5⟩;have e7:=O.size;rw[a8.o] at e7;have D5:=O.blk D4.o (by omega);have E5:=q_ (O.blk E4.o (by omega));replace D5:=q_ D5;replace O:=q_ O;replace h5:=q_ h5)
    |(go_at_call 172;refine(zjl h5.o hs e5).mono ?_;rintro e w6 ⟨k6,q6,d2,e9,e4,f0,rfl,b8,a2,h6⟩;have f1:=a2.size;have D6:=a2.blk D5.o (by omega);have E6:=a2.blk E5.o (by omega);have d3:=E6.cell 3;have dg:=E6.thaw 3;have E7:=E6.set 3 (.pointer (some ⟨q6,0,none⟩));have a3:Fr w6 (w6.setCell ⟨E.heap.size,3,none⟩ (.pointer (some ⟨q6,0,none⟩))) (λ g=>g=E.heap.size):=(Fr.refl w6 (λ g=>g=E.heap.size)).setCell ⟨E.heap.size,3,none⟩ _ (λ _=>rfl);have D7:=a3.blk D6 (by omega);have r0:=D7.cell 0;have r1:=D7.cell 1;have r2:=D7.cell 2;have r3:=D7.cell 3;obtain⟨g0,g1,g2,g3⟩:=D7.t4;have e0:=E7.cell 0;have e1:=E7.cell 1;have e2:=E7.cell 2;have e3:=E7.cell 3;simp only[aj_,al_,aa_,ab_] at d3 r0 r1 r2 r3 e0 e1 e2 e3;replace D7:=q_ D7;replace E7:=q_ E7;replace a3:=q_ a3;replace a2:=q_ a2;replace h6:=q_ h6;replace b8:=q_ b8;replace d2:=q_ d2;clear D6 E6))
   have S2:=Blk.four D7.o (.int .i64 (i:Int)) (.int .u8 (x:Int)) (.iface J K) (.pointer (some ⟨q6,0,none⟩));obtain⟨q0,d,f,q3⟩:=S2.d4;refine bodyPost_ret (v:=.tuple #[.agg #[.int .i64 (i:Int),.int .u8 (x:Int),.iface J K,.pointer (some ⟨q6,0,none⟩)],.nilIface]) (by simp[results,results161,go_sem,q0,d,f,q3]) rfl ?_;rw[Q_.o];have h4:=Fr.four (w6.setCell ⟨E.heap.size,3,none⟩ (.pointer (some ⟨q6,0,none⟩))) w.heap.size (.int .i64 (i:Int)) (.int .u8 (x:Int)) (.iface J K) (.pointer (some ⟨q6,0,none⟩));have V7:=((((V4.o.fr O.o (λ g hg e=>by omega)).fr a2.o (λ g hg e=>by omega)).fr a3.o (λ g hg e=>by omega)).fr h4 (λ g hg e=>by omega)).mono (Q:=λ g=>w.heap.size<=g) (λ g _ hg=>by omega);have P7:=h4.blk (a3.o.blk h6.o (by omega)) (by omega);have B7:=h4.blk (a3.o.blk b8.o (by omega)) (by omega);refine⟨(i:Int),(x:Int),.iface J K,.pointer (some ⟨q6,0,none⟩),.nilIface,rfl,.inr ⟨_,_,rfl⟩,⟨_,rfl⟩,(((F4.o.trans O.o u_).trans a2.o u_).trans a3.o (λ d8 hy e=>by omega)).trans h4 (λ d8 hy e=>by omega),.inl ⟨⟨x,i,t,some (j+1,k6)⟩,k6,rfl,P7,e4,⟨rfl,rfl,V7,?_⟩,?_⟩⟩
   ·exact⟨q6,.nilIface,by omega,rfl,.inl rfl,B7⟩
   ·have hk:=d2.o;rw[d6.o]
    cases hd:pD s (j+1) 0 with
    | none=>rw[hd] at hk;exact .inr ⟨rfl,hk⟩
    | some e=>rw[hd] at hk;simp only[Option.getD_some] at hk;subst hk;exact .inl rfl
open Go.RowKit
theorem TyV.iface {w:World}{P:Nat->Prop}{t:PT}{v:Value}(h:TyV w P t v):∃ T x,v=.iface T x:=by
 cases h<;>exact⟨_,_,rfl⟩
def znz (w:World) (bp:Nat) (s:BA) (i:Nat) (et:TypeId) (ex:Value) (e:Ending) (w':World):Prop:=
 ∃ v ev,IfV v/\e=.returned (.tuple #[v,ev])/\Fr w w' (· = bp)/\
 match ys_ s i with
 | .ok (fs,j)=>ev=.nilIface/\PAt w' bp s j/\vn_ w' (λ g=>w.heap.size<=g) s (.recd fs) v
 | .error k=>yd_ w' w.heap.size ev (k:Int) (.iface et ex)/\∃ j,j<=s.size/\PAt w' bp s j
section
variable {w W W2:World} {bp:Nat} {s:BA} {j b0:Nat} {L:List Value} {T ET:TypeId} {k:Nat} {sv v5:Value} {n:Nat} {xs:List Value}
theorem zz2 {fs:List PF}{ys:List Value}(b:Fr W W2 (λ g=>sv.ownBlock=some g\/g=b0)) (hn:∀ g,v5.ownBlock=some g->b0+1<=g/\(sv.ownBlock=some g\/W.heap.size<=g)) (h:vu_ W (λ g=>b0+1<=g/\sv.ownBlock≠some g) s fs ys):vu_ W2 (λ g=>b0+1<=g/\v5.ownBlock≠some g) s fs ys:=
 ((h.mono (Q:=λ g=>(b0+1<=g/\sv.ownBlock≠some g)/\g<W.heap.size) (λ _ h1 a=>⟨a,h1⟩)).fr b (λ g hg e=>by
   rcases e with e|e
   ·exact hg.1.2 e
   ·have:=hg.1.1;omega)).mono (λ g _ hg=>⟨hg.1.1,λ e=>by
   rcases(hn g e).2 with q|q
   ·exact hg.1.2 q
   ·have:=hg.2;omega⟩)
theorem zys {f:PF}{a b c d:Value}(m:Fr W W2 (λ g=>sv.ownBlock=some g\/g=b0)) (hn:∀ g,v5.ownBlock=some g->b0+1<=g/\(sv.ownBlock=some g\/W.heap.size<=g)) (h:FldV W (λ g=>b0+1<=g/\sv.ownBlock≠some g) s f a b c d):FldV W2 (λ g=>b0+1<=g/\v5.ownBlock≠some g) s f a b c d:=
 ((h.mono (Q:=λ g=>(b0+1<=g/\sv.ownBlock≠some g)/\g<W.heap.size) (λ _ h1 l=>⟨l,h1⟩)).fr m (λ g hg e=>by
   rcases e with e|e
   ·exact hg.1.2 e
   ·have:=hg.1.1;omega)).mono (λ g _ hg=>⟨hg.1.1,λ e=>by
   rcases(hn g e).2 with q|q
   ·exact hg.1.2 q
   ·have:=hg.2;omega⟩)
end
structure RF (w:World) (bp:Nat) (s:BA) (j b0:Nat) (p:Int) (sv:Value) (fs:List PF) (xs:List Value) (W:World):Prop where
 A:AM w bp s j b0 [.int .i64 p,sv] 211 149 4 sv fs.length xs W
 F:vu_ W (λ g=>b0+1<=g/\sv.ownBlock≠some g) s fs xs
section
variable {w W W':World} {bp:Nat} {s:BA} {j j' b0:Nat} {p:Int} {sv:Value} {fs:List PF} {xs:List Value}
theorem RF.call (M:RF w bp s j b0 p sv fs xs W) (h:PAt W' bp s j') (a:Fr W W' (· = bp)):RF w bp s j' b0 p sv fs xs W':=by
 have h1:=M.A.lt;have b:=M.A.w0;exact⟨M.A.call h a,M.F.fr a (λ g hg e=>by omega)⟩
theorem RF.alloc (M:RF w bp s j b0 p sv fs xs W) (o:Obj):RF w bp s j b0 p sv fs xs (W.alloc o):=M.call (Blk.alloc M.A.here o) ((Fr.refl W _).alloc o)
theorem RF.still (M:RF w bp s j b0 p sv fs xs W) (a:zd_ W W'):RF w bp s j b0 p sv fs xs W':=M.call (M.A.here.still a) ((Fr.refl W _).still a)
theorem RF.item (M:RF w bp s j b0 p sv fs xs W){o:Obj}{e:World}{v5 a b c d:Value}{f:PF}(hg:(W.alloc o).grownBy e sv.ownBlock) (ho:e.ownsRow (b0+1) 149 4 v5 (fs.length+1) (xs++[a,b,c,d]))
 (hl:v5.ownBlock=sv.ownBlock\/v5.ownBlock=some (W.alloc o).heap.size) (m:FldV W (λ g=>b0+1<=g/\sv.ownBlock≠some g) s f a b c d) :
 RF w bp s j b0 p v5 (fs++[f]) (xs++[a,b,c,d]) (e.setCell ⟨b0,1,none⟩ v5):=by
 obtain⟨h1,h,l⟩:=M.A.item ((Fr.refl W _).alloc o) hg ho hl 1;refine⟨?_,(zz2 h l M.F).snoc M.A.row.1 (zys h l m)⟩;rw[ah_,am_];exact h1
theorem RF.body (M:RF w bp s j b0 p sv fs xs W) (q:Nat) (a:p=(q:Int)):vn_ W (λ g=>w.heap.size<=g) s (.recd fs) (.iface 211 (.agg #[.int .i64 p,sv])):=by
 subst a;have:=M.A.w0;exact .recd q (yq_ M.A.row) (λ g e=>by have:=M.A.row.lt g e;omega) (M.F.mono (λ g _ hg=>by have:=hg.1;omega))
end
def zzd (w:World) (bp:Nat) (s:BA) (i b0:Nat) (p:Int) (m:Nat) (W:World):Prop:=
 ∃ j sv fs xs,RF w bp s j b0 p sv fs xs W/\j<=s.size/\i+fs.length<=j/\s.size+1-j<=m/\xn_ s i=v1_ fs (xn_ s j)
theorem zfa:Tryz.prog.underlying 143=some (.slice 149):=by kernel_rfl
theorem znk:(Tryz.prog.info? 149).map (λ i=>(i.zero,i.size,i.bytes))=some (some (.agg #[.int .i64 0,.int .u8 0,.nilIface,.pointer none]),4,40):=by kernel_rfl
theorem zlq {w:World}{bp:Nat}{s:BA}{p:Nat}(h:PAt w bp s i) (N:Gram w et ex) (Y:bp≠0) (hs:s.size<=300) (hi:i<=s.size) :
 Calls prog 136 #[.pointer (some ⟨bp,0,none⟩),.int .i64 (p:Int)] w (znz w bp s i et ex):=by
 obtain⟨f1,J⟩:∃ P,H_ (P=znz w bp s i et ex):=⟨_,rfl⟩;rw[<- J.o];have e2:=h.lt;have f6:=World.block_lt_of_cell? w ⟨0,0,none⟩ N;replace N:=q_ N;have u:=q_ (y1_ 40 (c:=40) h N.o Y hs hi rfl (by decide));clear h
 by_cases t:bt s i=40
 case neg=>
  have H:=q_ (show ys_ s i=.error i by unfold ys_;rw[if_neg t]);replace t:=q_ t
  go_in
  go_wp2_with (go_at_call 105;refine u.o.mono ?_;rintro e w1 ⟨v1,rfl,q,v⟩;obtain⟨g,a3,rfl,D,h1⟩:∃ g,w.heap.size<=g/\v1=.iface 139 (.pointer (some ⟨g,0,none⟩))/\Blk w1 g [.int .i64 (i:Int),.iface et ex] 141/\PAt w1 bp s i:=(by rcases v with⟨Z,_⟩|⟨_,⟨g,q1,q2,q3⟩,q4⟩;(exact absurd Z t.o);exact⟨g,q1,q2,q3,q4⟩);replace q:=q_ q;replace D:=q_ D;replace h1:=q_ h1)
  try go_ret
  rw[J.o];refine⟨.nilIface,_,.inl rfl,rfl,q.o,?_⟩;rw[H.o];exact⟨⟨g,a3,rfl,D.o⟩,i,hi,h1.o⟩
 case pos=>
 have b4:i+1<=s.size:=zj_ (s:=s) (i:=i) (by omega)
 by_cases B:bt s (i+1)=41
 case pos=>
  have H:=q_ (show ys_ s i=.ok ([],i+2) by unfold ys_;rw[if_pos t,if_pos B]);replace t:=q_ t;replace B:=q_ B
  go_in
  go_wp2_with (first
   |(go_at_call 105;refine u.o.mono ?_;rintro e w1 ⟨v1,rfl,q,v⟩;obtain⟨rfl,h1⟩:v1=.nilIface/\PAt w1 bp s (i+1):=(by rcases v with⟨_,q1,q2,_⟩|⟨Z,_⟩;(exact⟨q1,q2⟩);exact absurd t.o Z);have b6:=q.size;replace q:=q_ q;replace h1:=q_ h1)
   |(go_at_call 106;refine(zcp 41 (Blk.alloc h1.o (.cells #[.int .i64 (p:Int),.slice none 0 0] 211)) hs b4 rfl (by decide) B.o).mono ?_;rintro e w2 ⟨rfl,l,r⟩;have B2:=l.blk (Blk.new w1 #[.int .i64 (p:Int),.slice none 0 0] 211) (by omega);have c0:=B2.c0;have c1:=B2.c1;replace l:=q_ l;replace r:=q_ r;replace B2:=q_ B2))
  try go_ret
  rw[J.o];refine⟨.iface 211 (.agg #[.int .i64 (p:Int),.slice none 0 0]),.nilIface,.inr ⟨_,_,rfl⟩,rfl,(q.o.alloc _).trans l.o u_,?_⟩;rw[H.o];exact⟨rfl,r.o,.recd p (World.ownsRow_nil _ _ _ _) (λ g e=>by simp[Value.ownBlock] at e) (λ i f e=>by simp at e)⟩
 case neg=>
  have H:=q_ (show ys_ s i=xn_ s (i+1) by unfold ys_;rw[if_pos t,if_neg B]);replace t:=q_ t;replace B:=q_ B
  go_in
  go_wp2_with (first
   |(go_at_call 105;refine u.o.mono ?_;rintro e w1 ⟨v1,rfl,q,v⟩;obtain⟨rfl,h1⟩:v1=.nilIface/\PAt w1 bp s (i+1):=(by rcases v with⟨_,q1,q2,_⟩|⟨Z,_⟩;(exact⟨q1,q2⟩);exact absurd t.o Z);have b6:=q.size;replace q:=q_ q;replace h1:=q_ h1;clear u)
   |(go_at_call 106;refine(zes 41 (Blk.alloc h1.o (.cells #[.int .i64 (p:Int),.slice none 0 0] 211)) hs b4 rfl (by decide) B.o).mono ?_;rintro e w2 ⟨rfl,l,r⟩;have a0:zzd w bp s (i+1) w1.heap.size (p:Int) (s.size+1) w2:=⟨i+1,.slice none 0 0,[],[],⟨⟨r,(q.o.alloc _).trans l u_,e2,b6,(by have:=l.size;simp at this;omega),l.blk (Blk.new w1 #[.int .i64 (p:Int),.slice none 0 0] 211) (by omega),World.ownsRow_nil _ _ _ _⟩,(λ i f e=>by simp at e)⟩,b4,(by simp),(by omega),(zhd _).symm⟩;replace a0:=q_ a0;obtain⟨b0,b9⟩:∃ b,b=w1.heap.size:=⟨_,rfl⟩;rw[<- b9] at a0⊢;clear l r h1 q b9 b6))
  go_loopg [] (s.size+1) (λ m W=>zzd w bp s (i+1) b0 (p:Int) m W)
  case atStart=>exact a0.o
  case round=>
   clear a0;obtain⟨j,sv,fs,xs,M,hj,f7,v,O⟩:=hrel;obtain⟨sa,sc,rfl⟩:=zo_ M.A.row
   have f4:fs.length<=300:=by omega
   have hC:=q_ (zoh M.A.here (N.o.fr M.A.fr (Ne.symm Y)) Y hs hj);have d9:=M.A.fr.size;have f2:=M.A.hB;have g0:=M.A.w0;have e1:=q_ (x4_ (s:=s) hj);have a7:=q_ (zea s j hj);obtain⟨ti,e4,e6,e7,e8⟩:=info_parts znk;replace M:=q_ M;replace O:=q_ O
   go_wp2_with (first
    |(go_at_call 161;refine hC.o.mono ?_;rintro e w2 ⟨a,b,c,d,ev,rfl,b8,⟨R,rfl⟩,l,v⟩;replace l:=q_ l;rcases v with⟨f,E,rfl,r,a4,hv,a6⟩|⟨k,hk,⟨g,a3,rfl,D⟩,j3,d0,h3⟩
      obtain⟨S,U,rfl⟩:=hv.2.2.1.iface
      have I:=(M.o.call r l.o).alloc (.cells #[.int .i64 a,.int .u8 b,.iface S U,.pointer R] 149)
      have b7:=(hv.mono (Q:=λ g=>b0+1<=g/\(Value.slice sa fs.length sc).ownBlock≠some g) (λ g _ hg=>⟨by omega,λ e=>by have:=M.o.A.row.lt g e;omega⟩)).fr ((Fr.refl w2 (λ _=>False)).alloc (.cells #[.int .i64 a,.int .u8 b,.iface S U,.pointer R] 149)) u_
      have N1:=Blk.new w2 #[.int .i64 a,.int .u8 b,.iface S U,.pointer R] 149
      have t1:=I.A.b.c1
      obtain⟨n0,n1,n2,n3⟩:=N1.d4
      have f3:=(M.o.call r l.o).A.hB
      replace I:=q_ I
      replace b7:=q_ b7
      replace a6:=q_ a6
      clear r hv N1 b8
      rotate_left
      replace hk:=q_ hk
      replace D:=q_ D
      replace h3:=q_ h3
      rcases b8 with rfl|⟨cT,cx,rfl⟩)
    |(at_builtin;go_must (refine wpList_append_own_at _ rfl _ _ 143 rfl (b0+1) 149 ti _ 4 40 zfa e4 e6 e7 e8 rfl (by decide) (.slice sa fs.length sc) fs.length xs rfl ?hown _ 1 1 [.int .i64 a,.int .u8 b,.iface S U,.pointer R] rfl rfl (z7_ _ #[.int .i64 a,.int .u8 b,.iface S U,.pointer R] _ _ ?nn) ?one ?b1 ?b2 ?b3 ?_)
      case hown=>exact World.ownsRow.alloc I.o.A.row _
      case nn=>simp
      case one=>simp[Value.oneCell']
      case b1=>unfold maxLen;omega
      case b2=>omega
      case b3=>simp;omega
      intro v5 w5 b5 a9 f0 d1
      have V:=I.o.item a9 b5 d1 b7.o
      have B5:=I.o.A.itemCell ((Fr.refl _ _).alloc _) a9
      have e5:=B5.c1
      have f5:=B5.thaw 1
      obtain⟨g5,a8,rfl⟩:=zh_ b5 (by omega)
      clear a9 d1 f0 b5 B5
      replace V:=q_ V)
    |(go_at_call 106;refine(zfi 44 V.o.A.here hs a4 rfl (by decide)).mono ?_;rintro e w6 ⟨tb,rfl,a1,hT⟩;replace a1:=q_ a1;rcases hT with⟨G,rfl,X,e9⟩|⟨G,rfl,X⟩<;>replace G:=q_ G<;>replace X:=q_ X))
   ·
    try go_ret
    rw[J.o];refine⟨.nilIface,_,.inl rfl,rfl,(M.o.A.fr.trans l.o u_).alloc _,?_⟩;rw[H.o,O.o,a7.o,hk.o];exact⟨⟨g,ai_ d9 a3,rfl,D.o.alloc _⟩,j3,d0,Blk.alloc h3.o _⟩
   ·
    try go_ret
    rw[J.o];refine⟨.nilIface,_,.inl rfl,rfl,(M.o.A.fr.trans l.o u_).alloc _,?_⟩;rw[H.o,O.o,a7.o,hk.o];exact⟨⟨g,ai_ d9 a3,rfl,D.o.alloc _⟩,j3,d0,Blk.alloc h3.o _⟩
   ·have x:=V.o.call X.o a1.o;replace x:=q_ x
    have d7:H_ (xn_ s (i+1)=v1_ (fs++[f]) (xn_ s (E+1))/\j<E):=q_ (by
     rcases a6.o with a5|⟨d6,rfl⟩
     ·have:=(e1.o.1 f E a5)
      rw[O.o,a7.o,a5]
      simp only
      rw[if_neg (by rw[G.o];decide),if_pos G.o,zdd]
      exact⟨rfl,by omega⟩
     ·have:=G.o
      rw[zf5 l_] at this
      exact absurd this (by decide))
    have f9:=d7.o.2
    go_roundg (s.size+1-(E+1))
    case measure=>omega
    case rel=>exact⟨E+1,_,fs++[f],_,x.o,e9,by rw[ah_,am_];omega,l_,d7.o.1⟩
   ·have x:=V.o.call X.o a1.o;replace x:=q_ x;have u0:=x.o.A.b.c0;have u1:=x.o.A.b.c1;have e3:zd_ w6 w6.drew:=zd_.drew w6;have F:=x.o.still e3;have e0:=q_ (y1_ (c:=41) 41 F.A.here (N.o.fr F.A.fr (Ne.symm Y)) Y hs a4 rfl (by decide));replace F:=q_ F;refine zx_ 5 (λ W=>W.cell? ⟨b0,0,none⟩=some (.int .i64 (p:Int))/\W.cell? ⟨b0,1,none⟩=some (.slice (some ⟨g5,0,none⟩) (fs.length+1) a8)) (by kernel_rfl) ?_;refine ta_ 0 rfl (by kernel_rfl) (λ _ _ _ h=>h) (by rintro W ⟨h1,r⟩;go_simp<;>rfl) ?_;refine ta_ 1 rfl (by kernel_rfl) (λ _ _ _ h=>h) (by rintro W ⟨h1,r⟩;go_simp<;>rfl) ?_;refine ta_ 2 rfl (by kernel_rfl) (λ _ _ _ h=>h) (by rintro W ⟨h1,r⟩;go_simp<;>rfl) ?_;refine ze_ 3 rfl (by kernel_rfl) (λ _=>⟨u0,u1⟩) (λ K C=>?_);go_simp;refine e0.o.mono ?_;rintro e w8 ⟨v8,rfl,a2,u⟩;refine C _ _ ?_;clear C K
    have z:∃ j8,j8<=s.size/\RF w bp s j8 b0 (p:Int) (.slice (some ⟨g5,0,none⟩) (fs.length+1) a8) (fs++[f]) (xs++[.int .i64 a,.int .u8 b,.iface S U,.pointer R]) w8:=by
     rcases u with⟨_,_,y,d2⟩|⟨_,_,y⟩
     ·exact⟨E+1,d2,F.o.call y a2⟩
     ·exact⟨E,a4,F.o.call y a2⟩
    obtain⟨j8,f8,z⟩:=z;have x0:=z.A.b.c0;have x1:=z.A.b.c1;refine ze_ 4 rfl (by kernel_rfl) (λ _=>⟨x0,x1⟩) (λ K C=>?_);go_simp;refine C _ _ ?_;clear C K;refine ze_ 5 rfl (by kernel_rfl) (λ _=>⟨x0,x1⟩) (λ K C=>?_);go_simp;refine C _ _ ?_;clear C K;refine zq_ (by kernel_rfl) (λ v=>absurd v (by decide)) ?_ _;replace z:=q_ z;replace u:=q_ u;replace a2:=q_ a2;clear x0 x1 u0 u1
    go_wp2_with fail
    try go_ret
    rw[J.o];refine⟨.iface 211 (.agg #[.int .i64 (p:Int),(.slice (some ⟨g5,0,none⟩) (fs.length+1) a8)]),v8,.inr ⟨_,_,rfl⟩,rfl,z.o.A.fr,?_⟩;rw[H.o,O.o,a7.o];have d8:=F.o.A.fr.size
    rcases a6.o with a5|⟨d6,rfl⟩
    ·rw[a5];simp only
     rcases u.o with⟨hb,rfl,y,d2⟩|⟨hb,hF,y⟩
     ·rw[if_pos hb];exact⟨rfl,y,z.o.body p rfl⟩
     ·rw[if_neg hb,if_neg G.o];exact⟨hF.less d8,E,a4,y⟩
    ·rw[d6]
     rcases u.o with⟨hb,_⟩|⟨hb,hF,y⟩
     ·rw[zf5 l_] at hb;exact absurd hb (by decide)
     ·exact⟨hF.less d8,_,l_,y⟩
open Go.RowKit
def zld (w:World) (bp:Nat) (s:BA) (i:Nat) (et:TypeId) (ex:Value) (e:Ending) (w':World):Prop:=
 ∃ v ev,IfV v/\e=.returned (.tuple #[v,ev])/\Fr w w' (· = bp)/\
 match vc_ s i with
 | .ok ((l,o),j)=>ev=.nilIface/\PAt w' bp s j/\vn_ w' (λ g=>w.heap.size<=g) s (.enum l o) v
 | .error k=>yd_ w' w.heap.size ev (k:Int) (.iface et ex)/\∃ j,j<=s.size/\PAt w' bp s j
theorem zcn (l:List (Nat×Nat)) (c p:Nat):yp_ (l++[(c,p)])=yp_ l++[.int .i64 (p:Int),.int .u8 (c:Int)]:=by
 simp[yp_]
theorem AM.put {w W:World}{bp:Nat}{s:BA}{j b0:Nat}{L:List Value}{T ET:TypeId}{k:Nat}{sv:Value}{n:Nat}{xs:List Value}(M:AM w bp s j b0 L T ET k sv n xs W) (c:Nat) (v:Value) :
 AM w bp s j b0 (L.set c v) T ET k sv n xs (W.setCell ⟨b0,c,none⟩ v):=by
 have h1:=M.lt;have d:=M.w0;have a:Fr W (W.setCell ⟨b0,c,none⟩ v) (λ g=>g=b0):=(Fr.refl W (λ g=>g=b0)).setCell ⟨b0,c,none⟩ v (λ _=>rfl);exact⟨a.blk M.here (by omega),M.fr.trans a (λ x f e=>by omega),M.lt,M.w0,ai_ M.hB a.size,M.b.set c v,za_ M.row a (λ g hg e=>by have:=M.row.lt g hg;omega)⟩
def zzk (w:World) (bp:Nat) (s:BA) (i b0:Nat) (p:Int) (m:Nat) (W:World):Prop:=
 ∃ j sv l,AM w bp s j b0 [.int .i64 p,sv,.pointer none] 216 146 2 sv l.length (yp_ l) W/\j<=s.size/\i+l.length<=j/\s.size+1-j<=m/\vc_ s i=zei s l (zcu s j)
theorem zbo:Tryz.prog.underlying 213=some (.slice 146):=by kernel_rfl
theorem zrw:(Tryz.prog.info? 146).map (λ i=>(i.zero,i.size,i.bytes))=some (some (.agg #[.int .i64 0,.int .u8 0]),2,16):=by kernel_rfl
theorem zks {w W:World}{bp:Nat}{s:BA}{j b0 x y p:Nat}{l:List (Nat×Nat)}{sv u:Value}{o:Option (Nat×Nat)}{L:List Value}(M:AM w bp s j b0 L 216 146 2 sv (l.length+1) (yp_ l++[.int .i64 (y:Int),.int .u8 (x:Int)]) W) (hu:UnkV W (λ g=>w.heap.size<=g) o u) :
 vn_ W (λ g=>w.heap.size<=g) s (.enum (l++[(x,y)]) o) (.iface 216 (.agg #[.int .i64 (p:Int),sv,u])):=by
 have:=M.w0;refine .enum p ?_ (λ g e=>by have:=M.row.lt g e;omega) hu;rw[zcn,ah_,am_];exact yq_ M.row
theorem zqu {w:World}{bp:Nat}{s:BA}{p:Nat}(h:PAt w bp s i) (hG:Gram w et ex) (a4:bp≠0) (hs:s.size<=300) (hi:i<=s.size) :
 Calls prog 137 #[.pointer (some ⟨bp,0,none⟩),.int .i64 (p:Int)] w (zld w bp s i et ex):=by
 obtain⟨g1,Q_⟩:∃ P,H_ (P=zld w bp s i et ex):=⟨_,rfl⟩;rw[<- Q_.o];have f3:=h.lt;have g6:=World.block_lt_of_cell? w ⟨0,0,none⟩ hG;replace hG:=q_ hG;have Y:=q_ (y1_ 40 (c:=40) h hG.o a4 hs hi rfl (by decide));clear h
 by_cases b4:bt s i=40
 case neg=>
  have e1:=q_ (show vc_ s i=.error i by unfold vc_;rw[if_neg b4]);replace b4:=q_ b4
  go_in
  go_wp2_with (go_at_call 105;refine Y.o.mono ?_;rintro e w1 ⟨v1,rfl,b5,r⟩;obtain⟨g,d1,rfl,a2,h1⟩:∃ g,w.heap.size<=g/\v1=.iface 139 (.pointer (some ⟨g,0,none⟩))/\Blk w1 g [.int .i64 (i:Int),.iface et ex] 141/\PAt w1 bp s i:=(by rcases r with⟨F,_⟩|⟨_,⟨g,G,d,q3⟩,U⟩;(exact absurd F b4.o);exact⟨g,G,d,q3,U⟩);replace b5:=q_ b5;replace a2:=q_ a2;replace h1:=q_ h1)
  try go_ret
  rw[Q_.o];refine⟨.nilIface,_,.inl rfl,rfl,b5.o,?_⟩;rw[e1.o];exact⟨⟨g,d1,rfl,a2.o⟩,i,hi,h1.o⟩
 case pos=>
  have f6:i+1<=s.size:=zj_ (s:=s) (i:=i) (by omega);have e1:=q_ (show vc_ s i=zei s [] (zcu s (i+1)) by rw[znd,if_pos b4]);replace b4:=q_ b4
  go_in
  go_wp2_with (go_at_call 105;refine Y.o.mono ?_;rintro e w1 ⟨v1,rfl,b5,r⟩;obtain⟨rfl,h1⟩:v1=.nilIface/\PAt w1 bp s (i+1):=(by rcases r with⟨_,G,d,_⟩|⟨F,_⟩;(exact⟨G,d⟩);exact absurd b4.o F);have f7:=b5.size;have e9:=q_ (⟨i+1,.slice none 0 0,[],⟨Blk.alloc h1 _,b5.alloc _,f3,f7,(by simp),Blk.new w1 _ _,World.ownsRow_nil _ _ _ _⟩,f6,(by simp),(by omega),e1.o⟩:zzk w bp s i w1.heap.size (p:Int) (s.size+1) (w1.alloc (.cells #[.int .i64 (p:Int),.slice none 0 0,.pointer none] 216)));clear b5 r h1 Y)
  obtain⟨b0,f2⟩:∃ b,b=w1.heap.size:=⟨_,rfl⟩;rw[<- f2] at e9⊢;clear f2
  go_loopg [] (s.size+1) (λ m W=>zzk w bp s i b0 (p:Int) m W)
  case atStart=>exact e9.o
  case round=>
   clear e9 e1;obtain⟨j,sv,l,M,hj,g7,r,I⟩:=hrel;obtain⟨sa,sc,rfl⟩:=zo_ M.row
   have g4:l.length<=300:=by omega
   have hC:=q_ (xy_ M.here (hG.o.fr M.fr (Ne.symm a4)) a4 hs hj);have f9:=M.fr.size;have g3:=M.hB;have g9:=M.w0;rw[zcg] at I;obtain⟨ti,d7,d8,d9,e0⟩:=info_parts zrw;replace M:=q_ M;obtain⟨x,Z⟩:∃ x,bt s j=x:=⟨_,rfl⟩
   cases a1:zi_ x with
   | false=>
    have b7:=q_ (show vc_ s i=.error j by rw[I,Z,a1];rfl);replace a1:=q_ (show zi_ (bt s j)=false by rw[Z];exact a1);replace Z:=q_ Z;clear I
    go_wp2_with (first
     |(go_at_call 162;refine hC.o.mono ?_;rintro e V ⟨a,b,X,rfl,v,r⟩;obtain⟨g,d1,rfl,a2,u⟩:∃ g,wr.heap.size<=g/\X=.iface 139 (.pointer (some ⟨g,0,none⟩))/\Blk V g [.int .i64 (j:Int),.iface et ex] 141/\PAt V bp s j:=(by rcases r with⟨F,_⟩|⟨_,⟨g,G,d,q3⟩,U⟩;(exact absurd (a1.o.symm.trans F) (by decide));exact⟨g,G,d,q3,U⟩);replace v:=q_ v;replace a2:=q_ a2;replace u:=q_ u))
    try go_ret
    rw[Q_.o];refine⟨.nilIface,_,.inl rfl,rfl,(M.o.fr.trans v.o u_).alloc _,?_⟩;rw[b7.o];exact⟨⟨g,ai_ f9 d1,rfl,a2.o.alloc _⟩,j,hj,Blk.alloc u.o _⟩
   | true=>
   have a7:j+1<=s.size:=zj_ (xc_ (by rw[Z];exact a1));rw[Z,a1,if_pos rfl] at I;replace a1:=q_ (show zi_ (bt s j)=true by rw[Z];exact a1);replace Z:=q_ Z;obtain⟨e2,y⟩:∃ e2,bt s (j+1)=e2:=⟨_,rfl⟩;rw[y] at I
   by_cases f1:e2=44
   case pos=>
    subst f1;rw[if_pos rfl] at I;replace I:=q_ I;have b8:j+1+1<=s.size:=zj_ (s:=s) (i:=j+1) (by omega);replace y:=q_ y
    go_wp2_with (first
     |(go_at_call 162;refine hC.o.mono ?_;rintro e V ⟨a,b,X,rfl,v,r⟩;obtain⟨rfl,rfl,rfl,u⟩:a=(j:Int)/\b=(x:Int)/\X=.nilIface/\PAt V bp s (j+1):=(by rcases r with⟨_,G,d,q3,U,_⟩|⟨F,_⟩;(exact⟨G,d.trans (by rw[Z.o]),q3,U⟩);exact absurd (a1.o.symm.trans F) (by decide));have t:=(M.o.call u v).alloc (.cells #[.int .i64 (j:Int),.int .u8 (x:Int)] 146);have O:=Blk.new V #[.int .i64 (j:Int),.int .u8 (x:Int)] 146;have t1:=t.b.c1;have n0:=O.c0;have n1:=O.c1;have e6:=(M.o.call u v).hB;replace t:=q_ t;clear u v O r)
     |(at_builtin;go_must (refine wpList_append_own_at _ rfl _ _ 213 rfl (b0+1) 146 ti _ 2 16 zbo d7 d8 d9 e0 rfl (by decide) (.slice sa l.length sc) l.length (yp_ l) rfl ?hown _ 1 1 [.int .i64 (j:Int),.int .u8 (x:Int)] rfl rfl (z7_ _ #[.int .i64 (j:Int),.int .u8 (x:Int)] _ _ ?nn) ?one ?b1 ?b2 ?b3 ?_)
       case hown=>exact World.ownsRow.alloc t.o.row _
       case nn=>simp
       case one=>simp[Value.oneCell']
       case b1=>unfold maxLen;omega
       case b2=>omega
       case b3=>simp;omega
       intro v5 w5 S R b9 a3
       have f:=(t.o.item ((Fr.refl _ _).alloc _) R S a3 1).1
       have J:=t.o.itemCell ((Fr.refl _ _).alloc _) R
       have e5:=J.c1
       have f5:=J.thaw 1
       obtain⟨g5,a0,rfl⟩:=zh_ S (by omega)
       clear R a3 b9 S J
       replace f:=q_ f)
     |(go_at_call 106;refine(yr_ f.o.here hs a7 y.o (by decide) (by decide)).mono ?_;rintro e w6 ⟨rfl,E,C⟩;have A:=q_ (f.o.call C E);clear E C))
    go_roundg (s.size+1-(j+2))
    case measure=>omega
    case rel=>
     refine⟨j+2,.slice (some ⟨g5,0,none⟩) (l.length+1) a0,l++[(x,j)],?_,b8,by rw[ah_,am_];omega,l_,I.o⟩;rw[zcn,ah_,am_];exact A.o
   case neg=>
   rw[if_neg f1] at I
   by_cases f0:e2=33
   case neg=>
    have b7:=q_ (show vc_ s i=if bt s (j+1)=41 then .ok ((l++[(x,j)],none),j+2) else .error (j+1) by rw[I];unfold finE;rw[y,if_neg f0]);replace y:=q_ y;clear I
    go_wp2_with (first
     |(go_at_call 162;refine hC.o.mono ?_;rintro e V ⟨a,b,X,rfl,v,r⟩;obtain⟨rfl,rfl,rfl,u⟩:a=(j:Int)/\b=(x:Int)/\X=.nilIface/\PAt V bp s (j+1):=(by rcases r with⟨_,G,d,q3,U,_⟩|⟨F,_⟩;(exact⟨G,d.trans (by rw[Z.o]),q3,U⟩);exact absurd (a1.o.symm.trans F) (by decide));have t:=(M.o.call u v).alloc (.cells #[.int .i64 (j:Int),.int .u8 (x:Int)] 146);have O:=Blk.new V #[.int .i64 (j:Int),.int .u8 (x:Int)] 146;have t1:=t.b.c1;have n0:=O.c0;have n1:=O.c1;have e6:=(M.o.call u v).hB;replace t:=q_ t;clear u v O r)
     |(at_builtin;go_must (refine wpList_append_own_at _ rfl _ _ 213 rfl (b0+1) 146 ti _ 2 16 zbo d7 d8 d9 e0 rfl (by decide) (.slice sa l.length sc) l.length (yp_ l) rfl ?hown _ 1 1 [.int .i64 (j:Int),.int .u8 (x:Int)] rfl rfl (z7_ _ #[.int .i64 (j:Int),.int .u8 (x:Int)] _ _ ?nn) ?one ?b1 ?b2 ?b3 ?_)
       case hown=>exact World.ownsRow.alloc t.o.row _
       case nn=>simp
       case one=>simp[Value.oneCell']
       case b1=>unfold maxLen;omega
       case b2=>omega
       case b3=>simp;omega
       intro v5 w5 S R b9 a3
       have f:=(t.o.item ((Fr.refl _ _).alloc _) R S a3 1).1
       have J:=t.o.itemCell ((Fr.refl _ _).alloc _) R
       have e5:=J.c1
       have f5:=J.thaw 1
       obtain⟨g5,a0,rfl⟩:=zh_ S (by omega)
       clear R a3 b9 S J
       replace f:=q_ f)
     |(go_at_call 106;refine(yw_ f.o.here hs a7 y.o (by omega) (by decide)).mono ?_;rintro e w6 ⟨rfl,E,C⟩;have a9:=f.o.call C E;clear f;have f:=q_ a9;clear a9 E C))
    have u0:=f.o.b.cell 0;have u1:=f.o.b.cell 1;have u2:=f.o.b.cell 2;simp only[aj_,al_,aa_,ab_] at u0 u1 u2;obtain⟨wd,d6⟩:∃ W,W=(w6).drew:=⟨_,rfl⟩;have d0:zd_ (w6) wd:=d6▸zd_.drew _;have B:=f.o.call (f.o.here.still d0) ((Fr.refl _ _).still d0);have e4:=q_ (y1_ (c:=41) 41 B.here (hG.o.fr B.fr (Ne.symm a4)) a4 hs a7 rfl (by decide));replace B:=q_ B;refine zx_ 5 (λ W=>W.cell? ⟨b0,0,none⟩=some (.int .i64 (p:Int))/\W.cell? ⟨b0,1,none⟩=some (.slice (some ⟨g5,0,none⟩) (l.length+1) a0)/\W.cell? ⟨b0,2,none⟩=some (.pointer none)) (by kernel_rfl) ?_;refine ta_ 0 rfl (by kernel_rfl) (λ _ _ _ h=>h) (by rintro W ⟨h1,u,h3⟩;go_simp<;>rfl) ?_;refine ta_ 1 rfl (by kernel_rfl) (λ _ _ _ h=>h) (by rintro W ⟨h1,u,h3⟩;go_simp<;>rfl) ?_;refine ta_ 2 rfl (by kernel_rfl) (λ _ _ _ h=>h) (by rintro W ⟨h1,u,h3⟩;go_simp<;>rfl) ?_;refine ze_ 3 rfl (by kernel_rfl) (λ _=>⟨u0,u1,u2⟩) (λ K D=>?_);go_simp;rw[<- d6];refine e4.o.mono ?_;rintro e w8 ⟨v8,rfl,a5,Y⟩;refine D _ _ ?_;clear D K
    have N:∃ j8,j8<=s.size/\AM w bp s j8 b0 [.int .i64 (p:Int),(.slice (some ⟨g5,0,none⟩) (l.length+1) a0),.pointer none] 216 146 2 (.slice (some ⟨g5,0,none⟩) (l.length+1) a0) (l.length+1) (yp_ l++[.int .i64 (j:Int),.int .u8 (x:Int)]) w8:=by
     rcases Y with⟨_,_,Q,d2⟩|⟨_,_,Q⟩
     ·exact⟨_,d2,B.o.call Q a5⟩
     ·exact⟨_,a7,B.o.call Q a5⟩
    obtain⟨j8,f4,N⟩:=N;obtain⟨x0,x1,x2⟩:=N.b.d3;refine ze_ 4 rfl (by kernel_rfl) (λ _=>⟨x0,x1,x2⟩) (λ K D=>?_);go_simp;refine D _ _ ?_;clear D K;refine ze_ 5 rfl (by kernel_rfl) (λ _=>⟨x0,x1,x2⟩) (λ K D=>?_);go_simp;refine D _ _ ?_;clear D K;refine zq_ (by kernel_rfl) (λ r=>absurd r (by decide)) ?_ _;replace N:=q_ N;replace Y:=q_ Y;replace a5:=q_ a5;clear x0 x1 x2 u0 u1 u2
    go_wp2_with fail
    try go_ret
    rw[Q_.o];refine⟨.iface 216 (.agg #[.int .i64 (p:Int),(.slice (some ⟨g5,0,none⟩) (l.length+1) a0),.pointer none]),v8,.inr ⟨_,_,rfl⟩,rfl,N.o.fr,?_⟩;have e8:=B.o.fr.size;have g0:=B.o.w0;rw[b7.o]
    rcases Y.o with⟨hb,rfl,Q,d2⟩|⟨hb,hF,Q⟩
    ·rw[if_pos hb];exact⟨rfl,Q,zks N.o rfl⟩
    ·rw[if_neg hb];exact⟨hF.less e8,_,a7,Q⟩
   case pos=>
   subst f0;have b8:j+1+1<=s.size:=zj_ (s:=s) (i:=j+1) (by omega)
   have g8:(33:Nat)≠44:=by decide
   obtain⟨d,a6⟩:∃ q,q=j+1+1:=⟨_,rfl⟩;obtain⟨z,hz⟩:∃ z,bt s (d)=z:=⟨_,rfl⟩
   cases a8:zi_ z with
   | false=>
    have b7:=q_ (show vc_ s i=.error d by rw[I];unfold finE;rw[y,if_pos rfl,show j+1+1=d from a6.symm,hz,a8];rfl);rw[<- a6] at b8;replace a6:=q_ a6;replace a8:=q_ (show zi_ (bt s (d))=false by rw[hz];exact a8);replace y:=q_ y;replace hz:=q_ hz;clear I
    go_wp2_with (first
     |(go_at_call 162;refine hC.o.mono ?_;rintro e V ⟨a,b,X,rfl,v,r⟩;obtain⟨rfl,rfl,rfl,u⟩:a=(j:Int)/\b=(x:Int)/\X=.nilIface/\PAt V bp s (j+1):=(by rcases r with⟨_,G,d,q3,U,_⟩|⟨F,_⟩;(exact⟨G,d.trans (by rw[Z.o]),q3,U⟩);exact absurd (a1.o.symm.trans F) (by decide));have t:=(M.o.call u v).alloc (.cells #[.int .i64 (j:Int),.int .u8 (x:Int)] 146);have O:=Blk.new V #[.int .i64 (j:Int),.int .u8 (x:Int)] 146;have t1:=t.b.c1;have n0:=O.c0;have n1:=O.c1;have e6:=(M.o.call u v).hB;replace t:=q_ t;clear u v O r)
     |(at_builtin;go_must (refine wpList_append_own_at _ rfl _ _ 213 rfl (b0+1) 146 ti _ 2 16 zbo d7 d8 d9 e0 rfl (by decide) (.slice sa l.length sc) l.length (yp_ l) rfl ?hown _ 1 1 [.int .i64 (j:Int),.int .u8 (x:Int)] rfl rfl (z7_ _ #[.int .i64 (j:Int),.int .u8 (x:Int)] _ _ ?nn) ?one ?b1 ?b2 ?b3 ?_)
       case hown=>exact World.ownsRow.alloc t.o.row _
       case nn=>simp
       case one=>simp[Value.oneCell']
       case b1=>unfold maxLen;omega
       case b2=>omega
       case b3=>simp;omega
       intro v5 w5 S R b9 a3
       have f:=(t.o.item ((Fr.refl _ _).alloc _) R S a3 1).1
       have J:=t.o.itemCell ((Fr.refl _ _).alloc _) R
       have e5:=J.c1
       have f5:=J.thaw 1
       obtain⟨g5,a0,rfl⟩:=zh_ S (by omega)
       clear R a3 b9 S J
       replace f:=q_ f)
     |(go_at_call 106;refine(yr_ f.o.here hs a7 y.o (by decide) (by decide)).mono ?_;rintro e w6 ⟨rfl,E,C⟩;have A:=f.o.call C E;rw[<- a6.o] at A;have e3:=q_ (xy_ A.here (hG.o.fr A.fr (Ne.symm a4)) a4 hs b8);replace A:=q_ A;clear E C)
     |(go_at_call 106;refine(yw_ f.o.here hs a7 y.o (by omega) (by decide)).mono ?_;rintro e w6 ⟨rfl,E,C⟩;have a9:=f.o.call C E;clear f;have f:=q_ a9;clear a9 E C)
     |(go_at_call 162;refine e3.o.mono ?_;rintro e H ⟨a,b,X,rfl,b6,r⟩;obtain⟨g,d1,rfl,a2,h7⟩:∃ g,w6.heap.size<=g/\X=.iface 139 (.pointer (some ⟨g,0,none⟩))/\Blk H g [.int .i64 (d:Int),.iface et ex] 141/\PAt H bp s d:=(by rcases r with⟨F,_⟩|⟨_,⟨g,G,d,q3⟩,U⟩;(exact absurd (a8.o.symm.trans F) (by decide));exact⟨g,G,d,q3,U⟩);replace b6:=q_ b6;replace a2:=q_ a2;replace h7:=q_ h7))
    try go_ret
    rw[Q_.o];refine⟨.nilIface,_,.inl rfl,rfl,(A.o.fr.trans b6.o u_).alloc _,?_⟩;rw[b7.o];have f8:=A.o.fr.size;exact⟨⟨g,ai_ f8 d1,rfl,a2.o.alloc _⟩,_,b8,Blk.alloc h7.o _⟩
   | true=>
    have e7:d+1<=s.size:=zj_ (xc_ (by rw[hz];exact a8));have b7:=q_ (show vc_ s i=if bt s (d+1)=41 then .ok ((l++[(x,j)],some (z,d)),d+1+1) else .error (d+1) by rw[I];unfold finE;rw[y,if_pos rfl,show j+1+1=d from a6.symm,hz,a8,if_pos rfl,show j+1+2=d+1 by omega,show j+1+3=d+1+1 by omega]);rw[<- a6] at b8;replace a6:=q_ a6;replace a8:=q_ (show zi_ (bt s (d))=true by rw[hz];exact a8);replace y:=q_ y;replace hz:=q_ hz;clear I
    go_wp2_with (first
     |(go_at_call 162;refine hC.o.mono ?_;rintro e V ⟨a,b,X,rfl,v,r⟩;obtain⟨rfl,rfl,rfl,u⟩:a=(j:Int)/\b=(x:Int)/\X=.nilIface/\PAt V bp s (j+1):=(by rcases r with⟨_,G,d,q3,U,_⟩|⟨F,_⟩;(exact⟨G,d.trans (by rw[Z.o]),q3,U⟩);exact absurd (a1.o.symm.trans F) (by decide));have t:=(M.o.call u v).alloc (.cells #[.int .i64 (j:Int),.int .u8 (x:Int)] 146);have O:=Blk.new V #[.int .i64 (j:Int),.int .u8 (x:Int)] 146;have t1:=t.b.c1;have n0:=O.c0;have n1:=O.c1;have e6:=(M.o.call u v).hB;replace t:=q_ t;clear u v O r)
     |(at_builtin;go_must (refine wpList_append_own_at _ rfl _ _ 213 rfl (b0+1) 146 ti _ 2 16 zbo d7 d8 d9 e0 rfl (by decide) (.slice sa l.length sc) l.length (yp_ l) rfl ?hown _ 1 1 [.int .i64 (j:Int),.int .u8 (x:Int)] rfl rfl (z7_ _ #[.int .i64 (j:Int),.int .u8 (x:Int)] _ _ ?nn) ?one ?b1 ?b2 ?b3 ?_)
       case hown=>exact World.ownsRow.alloc t.o.row _
       case nn=>simp
       case one=>simp[Value.oneCell']
       case b1=>unfold maxLen;omega
       case b2=>omega
       case b3=>simp;omega
       intro v5 w5 S R b9 a3
       have f:=(t.o.item ((Fr.refl _ _).alloc _) R S a3 1).1
       have J:=t.o.itemCell ((Fr.refl _ _).alloc _) R
       have e5:=J.c1
       have f5:=J.thaw 1
       obtain⟨g5,a0,rfl⟩:=zh_ S (by omega)
       clear R a3 b9 S J
       replace f:=q_ f)
     |(go_at_call 106;refine(yr_ f.o.here hs a7 y.o (by decide) (by decide)).mono ?_;rintro e w6 ⟨rfl,E,C⟩;have A:=f.o.call C E;rw[<- a6.o] at A;have e3:=q_ (xy_ A.here (hG.o.fr A.fr (Ne.symm a4)) a4 hs b8);replace A:=q_ A;clear E C)
     |(go_at_call 106;refine(yw_ f.o.here hs a7 y.o (by omega) (by decide)).mono ?_;rintro e w6 ⟨rfl,E,C⟩;have a9:=f.o.call C E;clear f;have f:=q_ a9;clear a9 E C)
     |(go_at_call 162;refine e3.o.mono ?_;rintro e H ⟨a,b,X,rfl,b6,r⟩;obtain⟨rfl,rfl,rfl,h7⟩:a=(d:Int)/\b=(z:Int)/\X=.nilIface/\PAt H bp s (d+1):=(by rcases r with⟨_,G,d,q3,U,_⟩|⟨F,_⟩;(exact⟨G,d.trans (by rw[hz.o]),q3,U⟩);exact absurd (a8.o.symm.trans F) (by decide));have M7:=(A.o.call h7 b6).alloc (.cells #[.int .i64 (d:Int),.int .u8 (z:Int)] 146);have N7:=Blk.new H #[.int .i64 (d:Int),.int .u8 (z:Int)] 146;have k2:=M7.b.cell 2;have kg:=M7.b.thaw 2;simp only[aj_,al_,aa_,ab_] at k2;have g2:=(A.o.call h7 b6).hB;have M8:=M7.put 2 (.pointer (some ⟨H.heap.size,0,none⟩));have N8:=q_ (Blk.other N7 (a:=⟨b0,2,none⟩) (.pointer (some ⟨H.heap.size,0,none⟩)) (by show ¬ (H.heap.size=b0);omega));replace M8:=q_ M8;clear h7 b6 N7 r M7))
    have u0:=M8.o.b.cell 0;have u1:=M8.o.b.cell 1;have u2:=M8.o.b.cell 2;simp only[aj_,al_,aa_,ab_] at u0 u1 u2;obtain⟨wd,d6⟩:∃ W,W=((H.alloc (.cells #[.int .i64 (d:Int),.int .u8 (z:Int)] 146)).setCell ⟨b0,2,none⟩ (.pointer (some ⟨H.heap.size,0,none⟩))).drew:=⟨_,rfl⟩;have d0:zd_ ((H.alloc (.cells #[.int .i64 (d:Int),.int .u8 (z:Int)] 146)).setCell ⟨b0,2,none⟩ (.pointer (some ⟨H.heap.size,0,none⟩))) wd:=d6▸zd_.drew _;have B:=M8.o.call (M8.o.here.still d0) ((Fr.refl _ _).still d0);have e4:=q_ (y1_ (c:=41) 41 B.here (hG.o.fr B.fr (Ne.symm a4)) a4 hs e7 rfl (by decide));replace B:=q_ B;refine zx_ 5 (λ W=>W.cell? ⟨b0,0,none⟩=some (.int .i64 (p:Int))/\W.cell? ⟨b0,1,none⟩=some (.slice (some ⟨g5,0,none⟩) (l.length+1) a0)/\W.cell? ⟨b0,2,none⟩=some (.pointer (some ⟨H.heap.size,0,none⟩))) (by kernel_rfl) ?_;refine ta_ 0 rfl (by kernel_rfl) (λ _ _ _ h=>h) (by rintro W ⟨h1,u,h3⟩;go_simp<;>rfl) ?_;refine ta_ 1 rfl (by kernel_rfl) (λ _ _ _ h=>h) (by rintro W ⟨h1,u,h3⟩;go_simp<;>rfl) ?_;refine ta_ 2 rfl (by kernel_rfl) (λ _ _ _ h=>h) (by rintro W ⟨h1,u,h3⟩;go_simp<;>rfl) ?_;refine ze_ 3 rfl (by kernel_rfl) (λ _=>⟨u0,u1,u2⟩) (λ K D=>?_);go_simp;rw[<- d6];refine e4.o.mono ?_;rintro e w8 ⟨v8,rfl,a5,Y⟩;refine D _ _ ?_;clear D K
    have N:∃ j8,j8<=s.size/\AM w bp s j8 b0 [.int .i64 (p:Int),(.slice (some ⟨g5,0,none⟩) (l.length+1) a0),.pointer (some ⟨H.heap.size,0,none⟩)] 216 146 2 (.slice (some ⟨g5,0,none⟩) (l.length+1) a0) (l.length+1) (yp_ l++[.int .i64 (j:Int),.int .u8 (x:Int)]) w8:=by
     rcases Y with⟨_,_,Q,d2⟩|⟨_,_,Q⟩
     ·exact⟨_,d2,B.o.call Q a5⟩
     ·exact⟨_,e7,B.o.call Q a5⟩
    obtain⟨j8,f4,N⟩:=N;obtain⟨x0,x1,x2⟩:=N.b.d3;refine ze_ 4 rfl (by kernel_rfl) (λ _=>⟨x0,x1,x2⟩) (λ K D=>?_);go_simp;refine D _ _ ?_;clear D K;refine ze_ 5 rfl (by kernel_rfl) (λ _=>⟨x0,x1,x2⟩) (λ K D=>?_);go_simp;refine D _ _ ?_;clear D K;refine zq_ (by kernel_rfl) (λ r=>absurd r (by decide)) ?_ _;replace N:=q_ N;replace Y:=q_ Y;replace a5:=q_ a5;clear x0 x1 x2 u0 u1 u2
    go_wp2_with fail
    try go_ret
    rw[Q_.o];refine⟨.iface 216 (.agg #[.int .i64 (p:Int),(.slice (some ⟨g5,0,none⟩) (l.length+1) a0),.pointer (some ⟨H.heap.size,0,none⟩)]),v8,.inr ⟨_,_,rfl⟩,rfl,N.o.fr,?_⟩;have e8:=B.o.fr.size;have g0:=B.o.w0;rw[b7.o]
    rcases Y.o with⟨hb,rfl,Q,d2⟩|⟨hb,hF,Q⟩
    ·rw[if_pos hb];have hN:Blk w8 H.heap.size [.int .i64 (d:Int),.int .u8 (z:Int)] 146:=a5.o.blk (((Fr.refl _ (λ _=>False)).still d0).blk N8.o id) (by have:=M.o.lt;omega);exact⟨rfl,Q,zks N.o ⟨H.heap.size,by omega,rfl,hN⟩⟩
    ·rw[if_neg hb];exact⟨hF.less e8,_,e7,Q⟩
end Go.Proofs.YtiifagiebikmdaaGreatDoor
