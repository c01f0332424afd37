import Derived.Test.YthmjjpkjgjklmaaGreatDoorW14
import Derived.Test.YthmjjpkjgjklmaaGreatDoorW02
import Derived.Test.YthmjjpkjgjklmaaGreatDoorW00
import Derived.Test.YthmjjpkjgjklmaaGreatDoorA00
set_option maxHeartbeats 16000000
set_option maxRecDepth 100000
set_option linter.unusedSimpArgs false
open Go.Proofs.Tryz
namespace Go.Proofs.YthmjjpkjgjklmaaGreatDoor
open Go.RowKit
variable {i c:Nat}{et:TypeId}{ex:Value}
def zo8 (w:World) (bp:Nat) (s:BA) (i:Nat) (e:Ending) (w':World):Prop:=
 ∃ k g,k=(pD s i 0).getD s.size/\i<=k/\k<=s.size/\w.heap.size<=g/\e=.returned (.pointer (some ⟨g,0,none⟩))/\Blk w' g [.int .i64 (i:Int),.string (s.extract i k),.nilIface] 224/\Fr w w' (· = bp)/\PAt w' bp s k
def zy5 (w:World) (bp:Nat) (s:BA) (i:Nat) (n:Nat) (ov:Value) (W:World):Prop:=
 ∃ k o:Nat,ov=.int .i64 (o:Int)/\pD s i 0=pD s k o/\i<=k/\o<=k/\k<=s.size/\PAt W bp s k/\Fr w W (· = bp)/\s.size-k<=n
theorem zmx (h:zmy c=true):c=40\/c=91\/c=123\/c=60:=by
 simp only[zmy,au_,beq_iff_eq] at h;omega
theorem zlr (h:zgg c=true):c=41\/c=93\/c=125\/c=62:=by
 simp only[zgg,au_,beq_iff_eq] at h;omega
theorem zim (h:zmy c=false) (h2:zgg c=false):c≠40/\c≠91/\c≠123/\c≠60/\c≠41/\c≠93/\c≠125/\c≠62:=by
 refine⟨?_,?_,?_,?_,?_,?_,?_,?_⟩<;>(rintro rfl;first|(revert h;decide)|(revert h2;decide))
theorem zj5 {w:World}{bp:Nat}{s:BA}(h:PAt w bp s i) (hs:s.size<=300) (hi:i<=s.size) :
 Calls prog 268 #[.pointer (some ⟨bp,0,none⟩)] w (zo8 w bp s i):=by
 obtain⟨POST,Q_⟩:∃ P,H_ (P=zo8 w bp s i):=⟨_,rfl⟩;rw[<- Q_.o];have hbp:=h.lt;have start:=q_ (show zy5 w bp s i (s.size-i) (.int .i64 0) w from⟨i,0,rfl,rfl,l_,aj_ _,hi,h,Fr.refl _ _,l_⟩);replace h:=q_ h
 go_in
 go_wp2_with (go_at_call 153;refine(yl_ h.o).mono ?_;rintro e w' ⟨rfl,hw'⟩;rw[hw'];clear hw')
 go_loopg [4] (s.size-i) (λ n ov W=>zy5 w bp s i n ov W)
 case atStart=>exact start.o
 case round=>
  clear start;obtain⟨k,o,rfl,hpd,hik,hok,hkl,h1,hf1,hn⟩:=hrel;have c0:=h1.c0;have c1:=h1.c1;replace hpd:=q_ hpd;have hbw:bp<wr.heap.size:=h1.lt
  have hik':(i:Int)<=(k:Int):=by omega
  have hkl':(k:Int)<=(s.size:Int):=by omega
  replace hf1:=q_ hf1;replace h1:=q_ h1
  have fin:H_ (∀ W,ze_ wr W->(pD s i 0).getD s.size=k->POST (.returned (.pointer (some ⟨W.heap.size,0,none⟩))) (W.alloc (.cells #[.int .i64 (i:Int),.string (s.extract i k),.nilIface] 224))):=q_ (λ W hW he=>by
   rw[Q_.o]
   have hF:=hf1.o.still hW
   exact⟨k,W.heap.size,he.symm,hik,hkl,hF.size,rfl,Blk.new W _ _,hF.alloc _,Blk.alloc (h1.o.still hW) _⟩)
  by_cases hk:k<s.size
  ·have hk':(k:Int)<(s.size:Int):=by omega
   obtain⟨c,hc⟩:∃ c,bt s k=c:=⟨_,rfl⟩
   have hbk:((s[k]'hk).toNat:Int)=(c:Int):=by rw[<- hc,zbh s k hk]
   have hS:=zxz o hk;rw[hc,<- hpd.o] at hS;replace hc:=q_ hc;have f1:=h1.o.thaw 1
   by_cases hstop:o=0/\(c=44\/c=41)
   ·rw[if_pos hstop] at hS;have hpe:=q_ (show(pD s i 0).getD s.size=k by rw[hS];rfl);clear hS;obtain⟨rfl,hcc⟩:=hstop
    rcases hcc with rfl|rfl
    all_goals
     go_wp2_with fail
     go_quiet (fail)
     go_wp2_with fail
     go_quiet (fail)
     go_wp2_with fail
     refine yp_ 13 (λ W=>W.cell? ⟨bp,0,none⟩=some (.string s)/\W.cell? ⟨bp,1,none⟩=some (.int .i64 (k:Int))) (by kernel_rfl) ?_;refine ta_ 0 rfl (by kernel_rfl) (λ _ _ _ h=>h) (by rintro W ⟨h1,h2⟩;go_simp<;>rfl) ?_;refine ta_ 1 rfl (by kernel_rfl) (λ _ _ _ h=>h) (by rintro W ⟨h1,h2⟩;go_simp<;>rfl) ?_;refine ta_ 2 rfl (by kernel_rfl) (λ _ _ _ h=>h) (by rintro W ⟨h1,h2⟩;go_simp<;>rfl) ?_;refine ta_ 3 rfl (by kernel_rfl) (λ _ _ _ h=>h) (by rintro W ⟨h1,h2⟩;go_simp<;>rfl) ?_;refine ta_ 4 rfl (by kernel_rfl) (λ _ _ _ h=>h) (by rintro W ⟨h1,h2⟩;go_simp<;>rfl) ?_;refine ta_ 5 rfl (by kernel_rfl) (λ _ _ _ h=>h) (by rintro W ⟨h1,h2⟩;go_simp<;>rfl) ?_;refine ta_ 6 rfl (by kernel_rfl) (λ _ _ _ h=>h) (by rintro W ⟨h1,h2⟩;go_simp<;>rfl) ?_;refine ta_ 7 rfl (by kernel_rfl) (λ _ _ _ h=>h) (by rintro W ⟨h1,h2⟩;go_simp<;>rfl) ?_;refine ta_ 8 rfl (by kernel_rfl) (λ _ _ _ h=>h) (by rintro W ⟨h1,h2⟩;go_simp<;>rfl) ?_;refine ta_ 9 rfl (by kernel_rfl) (λ _ _ _ h=>h) (by rintro W ⟨h1,h2⟩;go_simp<;>rfl) ?_;refine ta_ 10 rfl (by kernel_rfl) (λ _ _ _ h=>h) (by rintro W ⟨h1,h2⟩;go_simp<;>rfl) ?_;refine ta_ 11 rfl (by kernel_rfl) (λ _ _ _ h=>h) (by rintro W ⟨h1,h2⟩;go_simp<;>rfl) ?_;refine zg_ 12 rfl (by kernel_rfl) (λ _=>⟨c0,c1⟩) (λ K hK=>?_);go_simp;refine hK _ _ ?_;clear hK K;refine zg_ 13 rfl (by kernel_rfl) (λ _=>⟨(World.cell?_alloc_past _ _ _ (by exact hbw)).trans c0,(World.cell?_alloc_past _ _ _ (by exact hbw)).trans c1⟩) (λ K hK=>?_);go_simp;refine hK _ _ ?_;clear hK K;refine yc_ (by kernel_rfl) (λ hm=>absurd hm (by decide)) ?_ _
     go_wp2_with fail
     try go_ret
     exact fin.o (wr.drewN _) (ze_.drewN _ _) hpe.o
   ·rw[if_neg hstop] at hS;replace hS:=q_ hS
    have hpost:H_ (∀ (o':Int) (W:World),o'=(zf7 c o:Nat)->ze_ wr W->zy5 w bp s i (s.size-(k+1)) (.int .i64 o') (W.setCell ⟨bp,1,none⟩ (.int .i64 ((k:Int)+1)))):=q_ (λ o' W ho' hW=>by
     have h2:=h1.o.still hW
     exact⟨k+1,zf7 c o,by rw[ho'],hS.o,by omega,by unfold zf7;split<;>(try split)<;>omega,hk,h2.inc,(hf1.o.still hW).setCell _ _ (λ _=>rfl),l_⟩)
    replace hstop:=q_ hstop;cases ho:zmy c<;>cases hcl:zgg c
    case true.true=>exact(zvz ho hcl).elim
    case false.false=>
     have hlv:=q_ (by simp[zf7,ho,hcl]:zf7 c o=o);obtain⟨m1,m2,m3,m4,m5,m6,m7,m8⟩:=zim ho hcl;clear ho hcl
     have e1:((c:Int)==40)=false:=by simp;omega
     have e2:((c:Int)==91)=false:=by simp;omega
     have e3:((c:Int)==123)=false:=by simp;omega
     have e4:((c:Int)==60)=false:=by simp;omega
     have e5:((c:Int)==41)=false:=by simp;omega
     have e6:((c:Int)==93)=false:=by simp;omega
     have e7:((c:Int)==125)=false:=by simp;omega
     have e8:((c:Int)==62)=false:=by simp;omega
     by_cases ho0:o=0
     ·subst ho0
      have e9:((c:Int)==44)=false:=by have:=hstop.o;simp;omega
      go_wp2_with fail
      go_quiet (fail)
      go_wp2_with fail
      go_quiet (fail)
      go_wp2_with fail
      go_roundg (s.size-(k+1))
      case measure=>omega
      case rel=>exact hpost.o _ _ (by rw[hlv.o]<;>omega) (by first|exact ze_.drewN _ _|exact(ze_.drewN _ _).trans (ze_.drewN _ _)|exact((ze_.drewN _ _).trans (ze_.drewN _ _)).trans (ze_.drewN _ _))
     ·have n0:((o:Int)==0)=false:=by simp;omega
      go_wp2_with fail
      go_quiet (fail)
      go_wp2_with fail
      go_quiet (fail)
      go_wp2_with fail
      go_roundg (s.size-(k+1))
      case measure=>omega
      case rel=>exact hpost.o _ _ (by rw[hlv.o]<;>omega) (by first|exact ze_.drewN _ _|exact(ze_.drewN _ _).trans (ze_.drewN _ _)|exact((ze_.drewN _ _).trans (ze_.drewN _ _)).trans (ze_.drewN _ _))
    case true.false=>
     have hlv:=q_ (by simp[zf7,ho]:zf7 c o=o+1);have hc4:=zmx ho;clear ho hcl
     rcases hc4 with rfl|rfl|rfl|rfl
     all_goals
      by_cases ho0:o=0
      ·subst ho0
       go_wp2_with fail
       go_quiet (fail)
       go_wp2_with fail
       go_quiet (fail)
       go_wp2_with fail
       go_roundg (s.size-(k+1))
       case measure=>omega
       case rel=>exact hpost.o _ _ (by rw[hlv.o]<;>omega) (by first|exact ze_.drewN _ _|exact(ze_.drewN _ _).trans (ze_.drewN _ _)|exact((ze_.drewN _ _).trans (ze_.drewN _ _)).trans (ze_.drewN _ _))
      ·have n0:((o:Int)==0)=false:=by simp;omega
       have hob:(o:Int)<=300:=by omega
       go_wp2_with fail
       go_quiet (fail)
       go_wp2_with fail
       go_quiet (fail)
       go_wp2_with fail
       go_roundg (s.size-(k+1))
       case measure=>omega
       case rel=>exact hpost.o _ _ (by rw[hlv.o]<;>omega) (by first|exact ze_.drewN _ _|exact(ze_.drewN _ _).trans (ze_.drewN _ _)|exact((ze_.drewN _ _).trans (ze_.drewN _ _)).trans (ze_.drewN _ _))
    case false.true=>
     have hlv:=q_ (by simp[zf7,ho,hcl]:zf7 c o=o-1);have hc4:=zlr hcl;clear ho hcl
     by_cases ho0:o=0
     ·subst ho0
      have hc3:c=93\/c=125\/c=62:=by have:=hstop.o;omega
      clear hc4
      rcases hc3 with rfl|rfl|rfl
      all_goals
       go_wp2_with fail
       go_quiet (fail)
       go_wp2_with fail
       go_quiet (fail)
       go_wp2_with fail
       go_roundg (s.size-(k+1))
       case measure=>omega
       case rel=>exact hpost.o _ _ (by rw[hlv.o]<;>omega) (by first|exact ze_.drewN _ _|exact(ze_.drewN _ _).trans (ze_.drewN _ _)|exact((ze_.drewN _ _).trans (ze_.drewN _ _)).trans (ze_.drewN _ _))
     ·have n0:((o:Int)==0)=false:=by simp;omega
      have hob:(o:Int)<=300:=by omega
      have hmx:max ((o:Int)-1) 0=(o:Int)-1:=by omega
      rcases hc4 with rfl|rfl|rfl|rfl
      all_goals
       go_wp2_with fail
       go_quiet (fail)
       go_wp2_with fail
       go_quiet (fail)
       go_wp2_with fail
       go_roundg (s.size-(k+1))
       case measure=>omega
       case rel=>exact hpost.o _ _ (by rw[hlv.o]<;>omega) (by first|exact ze_.drewN _ _|exact(ze_.drewN _ _).trans (ze_.drewN _ _)|exact((ze_.drewN _ _).trans (ze_.drewN _ _)).trans (ze_.drewN _ _))
  ·have hke:k=s.size:=by omega
   have hpe:=q_ (show(pD s i 0).getD s.size=k by rw[hpd.o,zzr (by omega),Option.getD_none];exact hke.symm)
   have hk':¬ ((k:Int)<(s.size:Int)):=by omega
   clear hke
   go_wp2_with fail
   go_quiet (fail)
   go_wp2_with fail
   refine yp_ 13 (λ W=>W.cell? ⟨bp,0,none⟩=some (.string s)/\W.cell? ⟨bp,1,none⟩=some (.int .i64 (k:Int))) (by kernel_rfl) ?_;refine ta_ 0 rfl (by kernel_rfl) (λ _ _ _ h=>h) (by rintro W ⟨h1,h2⟩;go_simp<;>rfl) ?_;refine ta_ 1 rfl (by kernel_rfl) (λ _ _ _ h=>h) (by rintro W ⟨h1,h2⟩;go_simp<;>rfl) ?_;refine ta_ 2 rfl (by kernel_rfl) (λ _ _ _ h=>h) (by rintro W ⟨h1,h2⟩;go_simp<;>rfl) ?_;refine ta_ 3 rfl (by kernel_rfl) (λ _ _ _ h=>h) (by rintro W ⟨h1,h2⟩;go_simp<;>rfl) ?_;refine ta_ 4 rfl (by kernel_rfl) (λ _ _ _ h=>h) (by rintro W ⟨h1,h2⟩;go_simp<;>rfl) ?_;refine ta_ 5 rfl (by kernel_rfl) (λ _ _ _ h=>h) (by rintro W ⟨h1,h2⟩;go_simp<;>rfl) ?_;refine ta_ 6 rfl (by kernel_rfl) (λ _ _ _ h=>h) (by rintro W ⟨h1,h2⟩;go_simp<;>rfl) ?_;refine ta_ 7 rfl (by kernel_rfl) (λ _ _ _ h=>h) (by rintro W ⟨h1,h2⟩;go_simp<;>rfl) ?_;refine ta_ 8 rfl (by kernel_rfl) (λ _ _ _ h=>h) (by rintro W ⟨h1,h2⟩;go_simp<;>rfl) ?_;refine ta_ 9 rfl (by kernel_rfl) (λ _ _ _ h=>h) (by rintro W ⟨h1,h2⟩;go_simp<;>rfl) ?_;refine ta_ 10 rfl (by kernel_rfl) (λ _ _ _ h=>h) (by rintro W ⟨h1,h2⟩;go_simp<;>rfl) ?_;refine ta_ 11 rfl (by kernel_rfl) (λ _ _ _ h=>h) (by rintro W ⟨h1,h2⟩;go_simp<;>rfl) ?_;refine zg_ 12 rfl (by kernel_rfl) (λ _=>⟨c0,c1⟩) (λ K hK=>?_);go_simp;refine hK _ _ ?_;clear hK K;refine zg_ 13 rfl (by kernel_rfl) (λ _=>⟨(World.cell?_alloc_past _ _ _ (by exact hbw)).trans c0,(World.cell?_alloc_past _ _ _ (by exact hbw)).trans c1⟩) (λ K hK=>?_);go_simp;refine hK _ _ ?_;clear hK K;refine yc_ (by kernel_rfl) (λ hm=>absurd hm (by decide)) ?_ _
   go_wp2_with fail
   try go_ret
   exact fin.o (wr.drewN _) (ze_.drewN _ _) hpe.o
open Go.RowKit
theorem Fr.four (w:World) (b:Nat) (v0 v1 v2 v3:Value):Fr w ((((w.setCell ⟨b,0,none⟩ v0).setCell ⟨b,1,none⟩ v1).setCell ⟨b,2,none⟩ v2).setCell ⟨b,3,none⟩ v3) (λ g=>g=b):=
 ((((Fr.refl w (λ g=>g=b)).setCell ⟨b,0,none⟩ v0 (λ _=>rfl)).setCell ⟨b,1,none⟩ v1 (λ _=>rfl)).setCell ⟨b,2,none⟩ v2 (λ _=>rfl)).setCell ⟨b,3,none⟩ v3 (λ _=>rfl)
theorem Blk.four {w:World}{b t:Nat}{u0 u1 u2 u3:Value}(h:Blk w b [u0,u1,u2,u3] t) (v0 v1 v2 v3:Value):Blk ((((w.setCell ⟨b,0,none⟩ v0).setCell ⟨b,1,none⟩ v1).setCell ⟨b,2,none⟩ v2).setCell ⟨b,3,none⟩ v3) b [v0,v1,v2,v3] t:=
 (((h.set 0 v0).set 1 v1).set 2 v2).set 3 v3
def zjd (w:World) (bp:Nat) (s:BA) (i:Nat) (et:TypeId) (ex:Value) (e:Ending) (w':World):Prop:=
 ∃ (a b:Int) (c d ev:Value),e=.returned (.tuple #[.agg #[.int .i64 a,.int .u8 b,c,d],ev])/\IfV c/\(∃ q,d=.pointer q)/\Fr w w' (· = bp)/\
  ((∃ f j,ev=.nilIface/\PAt w' bp s j/\j<=s.size/\FldV w' (λ g=>w.heap.size<=g) s f (.int .i64 a) (.int .u8 b) c d/\(xa_ s i=.ok (f,j)\/(xa_ s i=.error s.size/\j=s.size)))\/
   (∃ k,xa_ s i=.error k/\z9_ w' w.heap.size ev (k:Int) (.iface et ex)/\∃ j,j<=s.size/\PAt w' bp s j))
theorem zdn {w W:World}{bp:Nat}{s:BA}{k j lo:Nat}{ev:Value}(hk:xa_ s i=.error k) (hF:z9_ W lo ev (k:Int) (.iface et ex)) (hf:Fr w W (· = bp)) (hlo:w.heap.size<lo) (hbp:bp<w.heap.size) (h:PAt W bp s j) (hj:j<=s.size) :
 zjd w bp s i et ex (.returned (.tuple #[.agg #[.int .i64 0,.int .u8 0,.nilIface,.pointer none],ev])) ((((W.setCell ⟨w.heap.size,0,none⟩ (.int .i64 0)).setCell ⟨w.heap.size,1,none⟩ (.int .u8 0)).setCell ⟨w.heap.size,2,none⟩ .nilIface).setCell ⟨w.heap.size,3,none⟩ (.pointer none)):=by
 have h4:=Fr.four W w.heap.size (.int .i64 0) (.int .u8 0) .nilIface (.pointer none);exact⟨0,0,.nilIface,.pointer none,ev,rfl,.inl rfl,⟨_,rfl⟩,hf.trans h4 (λ x hx e=>by omega),.inr ⟨k,hk,(hF.fr h4 (λ g hg e=>by omega)).less (by omega),j,hj,h4.blk h (by omega)⟩⟩
theorem zpn {w:World}{bp:Nat}{s:BA}(h:PAt w bp s i) (hG:Gram w et ex) (hne:bp≠0) (hs:s.size<=300) (hi:i<=s.size) :
 Calls prog 246 #[.pointer (some ⟨bp,0,none⟩)] w (zjd w bp s i et ex):=by
 obtain⟨POST,Q_⟩:∃ P,H_ (P=zjd w bp s i et ex):=⟨_,rfl⟩;rw[<- Q_.o];have hbp:=h.lt;have h0:=q_ (show PAt (w.alloc (.cells #[.int .i64 0,.int .u8 0,.nilIface,.pointer none] 220)) bp s i from Blk.alloc h _);have F0:=q_ (show Fr w (w.alloc (.cells #[.int .i64 0,.int .u8 0,.nilIface,.pointer none] 220)) (λ x=>x=bp) from(Fr.refl w _).alloc _);have B0:=q_ (Blk.new w #[.int .i64 0,.int .u8 0,.nilIface,.pointer none] 220);have hz0:=q_ (by simp:(w.alloc (.cells #[.int .i64 0,.int .u8 0,.nilIface,.pointer none] 220)).heap.size=w.heap.size+1);have G0:=q_ (hG.fr F0.o (Ne.symm hne));have hGw:=q_ hG;clear h hG;obtain⟨x,hx⟩:∃ x,bt s i=x:=⟨_,rfl⟩
 cases hsm:zn_ x with
 | false=>
  have herr:=q_ (show xa_ s i=.error i by unfold xa_;rw[hx,hsm];rfl);replace hsm:=q_ (show zn_ (bt s i)=false by rw[hx];exact hsm);replace hx:=q_ hx
  go_in
  go_wp2_with (first
   |(go_at_call 247;refine(xx_ h0.o G0.o hne hs hi).mono ?_;rintro e w1 ⟨a,b,ev,rfl,hf1,hm⟩;obtain⟨g,hg1,rfl,hg2,h1⟩:∃ g,(w.alloc (.cells #[.int .i64 0,.int .u8 0,.nilIface,.pointer none] 220)).heap.size<=g/\ev=.iface 210 (.pointer (some ⟨g,0,none⟩))/\Blk w1 g [.int .i64 (i:Int),.iface et ex] 212/\PAt w1 bp s i:=(by rcases hm with⟨hq,_⟩|⟨_,⟨g,q1,q2,q3⟩,q4⟩;(exact absurd (hsm.o.symm.trans hq) (by decide));exact⟨g,q1,q2,q3,q4⟩);have D1:=(hf1.blk B0.o (by omega)).alloc (.cells #[.int .i64 a,.int .u8 b] 217);obtain⟨r0,r1,r2,r3⟩:=D1.d4;obtain⟨g0,g1,g2,g3⟩:=D1.t4;replace D1:=q_ D1;replace hf1:=q_ hf1;replace hg2:=q_ hg2;replace h1:=q_ h1))
  have S2:=Blk.four D1.o (.int .i64 0) (.int .u8 0) (.nilIface) (.pointer none);obtain⟨q0,q1,q2,q3⟩:=S2.d4;refine bodyPost_ret (v:=.tuple #[.agg #[.int .i64 0,.int .u8 0,.nilIface,.pointer none],.iface 210 (.pointer (some ⟨g,0,none⟩))]) (by simp[results,results246,go_sem,q0,q1,q2,q3]) rfl ?_;rw[Q_.o];exact zdn herr.o (lo:=(w.alloc (.cells #[.int .i64 0,.int .u8 0,.nilIface,.pointer none] 220)).heap.size) ⟨g,hg1,rfl,hg2.o.alloc _⟩ ((F0.o.trans hf1.o u_).alloc _) (by rw[hz0.o];omega) hbp (Blk.alloc h1.o _) hi
 | true=>
  have hlt:i+1<=s.size:=zl_ (ve_ (by rw[hx];exact hsm))
  by_cases h58:bt s (i+1)=58
  case neg=>
   have herr:=q_ (show xa_ s i=.error (i+1) by unfold xa_;rw[hx,hsm,if_pos rfl,if_neg h58]);replace hsm:=q_ (show zn_ (bt s i)=true by rw[hx];exact hsm);replace hx:=q_ hx;replace h58:=q_ h58
   go_in
   go_wp2_with (first
    |(go_at_call 247;refine(xx_ h0.o G0.o hne hs hi).mono ?_;rintro e w1 ⟨a,b,ev,rfl,hf1,hm⟩;obtain⟨rfl,rfl,rfl,h1⟩:a=(i:Int)/\b=(x:Int)/\ev=.nilIface/\PAt w1 bp s (i+1):=(by rcases hm with⟨_,q1,q2,q3,q4,_⟩|⟨hq,_⟩;(exact⟨q1,q2.trans (by rw[hx.o]),q3,q4⟩);exact absurd (hsm.o.symm.trans hq) (by decide));have P1:=Blk.alloc h1 (.cells #[.int .i64 (i:Int),.int .u8 (x:Int)] 217);have F1:=(F0.o.trans hf1 u_).alloc (.cells #[.int .i64 (i:Int),.int .u8 (x:Int)] 217);have G1:=hGw.o.fr F1 (Ne.symm hne);have L1:=Blk.new w1 #[.int .i64 (i:Int),.int .u8 (x:Int)] 217;have D1:=(hf1.blk B0.o (by omega)).alloc (.cells #[.int .i64 (i:Int),.int .u8 (x:Int)] 217);have hs1:=hf1.size;have hz1:=q_ ((by simp):(w1.alloc (.cells #[.int .i64 (i:Int),.int .u8 (x:Int)] 217)).heap.size=w1.heap.size+1);rw[hz0.o] at hs1;replace P1:=q_ (show PAt _ bp s (i+1) from P1);replace F1:=q_ F1;replace G1:=q_ G1;replace L1:=q_ L1;replace D1:=q_ D1;clear hf1 h1 hm)
    |(go_at_call 155;refine(y4_ 58 P1.o G1.o hne hs hlt rfl (by decide)).mono ?_;rintro e w2 ⟨v2,rfl,hf2,hE⟩;obtain⟨g,hg1,rfl,hg2,h2⟩:∃ g,(w1.alloc (.cells #[.int .i64 (i:Int),.int .u8 (x:Int)] 217)).heap.size<=g/\v2=.iface 210 (.pointer (some ⟨g,0,none⟩))/\Blk w2 g [.int .i64 ((i+1:Nat):Int),.iface et ex] 212/\PAt w2 bp s (i+1):=(by rcases hE with⟨hq,_⟩|⟨_,⟨g,q1,q2,q3⟩,q4⟩;(exact absurd hq h58.o);exact⟨g,q1,q2,q3,q4⟩);have D2:=hf2.blk D1.o (by omega);obtain⟨r0,r1,r2,r3⟩:=D2.d4;obtain⟨g0,g1,g2,g3⟩:=D2.t4;replace D2:=q_ D2;replace hf2:=q_ hf2;replace hg2:=q_ hg2;replace h2:=q_ h2))
   have S2:=Blk.four D2.o (.int .i64 0) (.int .u8 0) (.nilIface) (.pointer none);obtain⟨q0,q1,q2,q3⟩:=S2.d4;refine bodyPost_ret (v:=.tuple #[.agg #[.int .i64 0,.int .u8 0,.nilIface,.pointer none],.iface 210 (.pointer (some ⟨g,0,none⟩))]) (by simp[results,results246,go_sem,q0,q1,q2,q3]) rfl ?_;rw[Q_.o];exact zdn herr.o (lo:=(w1.alloc (.cells #[.int .i64 (i:Int),.int .u8 (x:Int)] 217)).heap.size) ⟨g,hg1,rfl,hg2.o⟩ (F1.o.trans hf2.o u_) (by rw[hz1.o];omega) hbp h2.o hlt
  case pos=>
  have hlt2:i+2<=s.size:=zl_ (s:=s) (i:=i+1) (by omega);have hbd:=v7_ (s:=s) hlt2
  cases hp:pT s (i+2) with
  | error k=>
   have herr:=q_ (show xa_ s i=.error k by unfold xa_;rw[hx,hsm,if_pos rfl,if_pos h58,hp]);replace hsm:=q_ (show zn_ (bt s i)=true by rw[hx];exact hsm);replace hx:=q_ hx;replace h58:=q_ h58;replace hp:=q_ hp;clear hbd
   go_in
   go_wp2_with (first
    |(go_at_call 247;refine(xx_ h0.o G0.o hne hs hi).mono ?_;rintro e w1 ⟨a,b,ev,rfl,hf1,hm⟩;obtain⟨rfl,rfl,rfl,h1⟩:a=(i:Int)/\b=(x:Int)/\ev=.nilIface/\PAt w1 bp s (i+1):=(by rcases hm with⟨_,q1,q2,q3,q4,_⟩|⟨hq,_⟩;(exact⟨q1,q2.trans (by rw[hx.o]),q3,q4⟩);exact absurd (hsm.o.symm.trans hq) (by decide));have P1:=Blk.alloc h1 (.cells #[.int .i64 (i:Int),.int .u8 (x:Int)] 217);have F1:=(F0.o.trans hf1 u_).alloc (.cells #[.int .i64 (i:Int),.int .u8 (x:Int)] 217);have G1:=hGw.o.fr F1 (Ne.symm hne);have L1:=Blk.new w1 #[.int .i64 (i:Int),.int .u8 (x:Int)] 217;have D1:=(hf1.blk B0.o (by omega)).alloc (.cells #[.int .i64 (i:Int),.int .u8 (x:Int)] 217);have hs1:=hf1.size;have hz1:=q_ ((by simp):(w1.alloc (.cells #[.int .i64 (i:Int),.int .u8 (x:Int)] 217)).heap.size=w1.heap.size+1);rw[hz0.o] at hs1;replace P1:=q_ (show PAt _ bp s (i+1) from P1);replace F1:=q_ F1;replace G1:=q_ G1;replace L1:=q_ L1;replace D1:=q_ D1;clear hf1 h1 hm)
    |(go_at_call 155;refine(y4_ 58 P1.o G1.o hne hs hlt rfl (by decide)).mono ?_;rintro e w2 ⟨v2,rfl,hf2,hE⟩;obtain⟨rfl,h2⟩:v2=.nilIface/\PAt w2 bp s (i+2):=(by rcases hE with⟨_,q1,q2,_⟩|⟨hq,_⟩;(exact⟨q1,q2⟩);exact absurd h58.o hq);have hs2:=hf2.size;rw[hz1.o] at hs2;have D2:=hf2.blk D1.o (by omega);have L2:=hf2.blk L1.o (by omega);have F2:=F1.o.trans hf2 u_;have G2:=q_ (hGw.o.fr F2 (Ne.symm hne));replace D2:=q_ D2;replace L2:=q_ L2;replace F2:=q_ F2;replace h2:=q_ h2;clear hf2 hE)
    |(go_at_call 101;refine(zca hs _ (i+2) l_ hlt2 w2 bp et ex h2.o G2.o hne).mono ?_;rintro e w3 ⟨v3,ev3,_,rfl,hf3,hm⟩;rw[hp.o] at hm;obtain⟨⟨g,hg1,rfl,hg2⟩,j3,hj3,h3⟩:=hm;have D3:=hf3.blk D2.o (by omega);obtain⟨r0,r1,r2,r3⟩:=D3.d4;obtain⟨g0,g1,g2,g3⟩:=D3.t4;replace D3:=q_ D3;replace hf3:=q_ hf3;replace hg2:=q_ hg2;replace h3:=q_ h3))
   have S2:=Blk.four D3.o (.int .i64 0) (.int .u8 0) (.nilIface) (.pointer none);obtain⟨q0,q1,q2,q3⟩:=S2.d4;refine bodyPost_ret (v:=.tuple #[.agg #[.int .i64 0,.int .u8 0,.nilIface,.pointer none],.iface 210 (.pointer (some ⟨g,0,none⟩))]) (by simp[results,results246,go_sem,q0,q1,q2,q3]) rfl ?_;rw[Q_.o];exact zdn herr.o (lo:=w2.heap.size) ⟨g,hg1,rfl,hg2.o⟩ (F2.o.trans hf3.o u_) (by omega) hbp h3.o hj3
  | ok r=>
  obtain⟨t,j⟩:=r;have hj:=hbd.1 t j hp;clear hbd
  by_cases h61:bt s j=61
  case neg=>
   have hres:=q_ (show xa_ s i=.ok (⟨x,i,t,none⟩,j) by unfold xa_;rw[hx,hsm,if_pos rfl,if_pos h58,hp];simp only;rw[if_neg h61]);replace hsm:=q_ (show zn_ (bt s i)=true by rw[hx];exact hsm);replace hx:=q_ hx;replace h58:=q_ h58;replace hp:=q_ hp;replace h61:=q_ h61
   go_in
   go_wp2_with (first
    |(go_at_call 247;refine(xx_ h0.o G0.o hne hs hi).mono ?_;rintro e w1 ⟨a,b,ev,rfl,hf1,hm⟩;obtain⟨rfl,rfl,rfl,h1⟩:a=(i:Int)/\b=(x:Int)/\ev=.nilIface/\PAt w1 bp s (i+1):=(by rcases hm with⟨_,q1,q2,q3,q4,_⟩|⟨hq,_⟩;(exact⟨q1,q2.trans (by rw[hx.o]),q3,q4⟩);exact absurd (hsm.o.symm.trans hq) (by decide));have P1:=Blk.alloc h1 (.cells #[.int .i64 (i:Int),.int .u8 (x:Int)] 217);have F1:=(F0.o.trans hf1 u_).alloc (.cells #[.int .i64 (i:Int),.int .u8 (x:Int)] 217);have G1:=hGw.o.fr F1 (Ne.symm hne);have L1:=Blk.new w1 #[.int .i64 (i:Int),.int .u8 (x:Int)] 217;have D1:=(hf1.blk B0.o (by omega)).alloc (.cells #[.int .i64 (i:Int),.int .u8 (x:Int)] 217);have hs1:=hf1.size;have hz1:=q_ ((by simp):(w1.alloc (.cells #[.int .i64 (i:Int),.int .u8 (x:Int)] 217)).heap.size=w1.heap.size+1);rw[hz0.o] at hs1;replace P1:=q_ (show PAt _ bp s (i+1) from P1);replace F1:=q_ F1;replace G1:=q_ G1;replace L1:=q_ L1;replace D1:=q_ D1;clear hf1 h1 hm)
    |(go_at_call 155;refine(y4_ 58 P1.o G1.o hne hs hlt rfl (by decide)).mono ?_;rintro e w2 ⟨v2,rfl,hf2,hE⟩;obtain⟨rfl,h2⟩:v2=.nilIface/\PAt w2 bp s (i+2):=(by rcases hE with⟨_,q1,q2,_⟩|⟨hq,_⟩;(exact⟨q1,q2⟩);exact absurd h58.o hq);have hs2:=hf2.size;rw[hz1.o] at hs2;have D2:=hf2.blk D1.o (by omega);have L2:=hf2.blk L1.o (by omega);have F2:=F1.o.trans hf2 u_;have G2:=q_ (hGw.o.fr F2 (Ne.symm hne));replace D2:=q_ D2;replace L2:=q_ L2;replace F2:=q_ F2;replace h2:=q_ h2;clear hf2 hE)
    |(go_at_call 101;refine(zca hs _ (i+2) l_ hlt2 w2 bp et ex h2.o G2.o hne).mono ?_;rintro e w3 ⟨v3,ev3,hI3,rfl,hf3,hm⟩;rw[hp.o] at hm;obtain⟨rfl,h3,hv3⟩:=hm;obtain⟨vT,vx,rfl⟩:∃ T x,v3=.iface T x:=(by cases hv3<;>exact⟨_,_,rfl⟩);have hs3:=hf3.size;have D3:=hf3.blk D2.o (by omega);have L3:=hf3.blk L2.o (by omega);have F3:=F2.o.trans hf3 u_;have l0:=L3.c0;have l1:=L3.c1;have A4:=(Fr.refl w3 (λ _=>False)).alloc (.cells #[.int .i64 (i:Int),.int .u8 (x:Int),.iface vT vx,.pointer none] 220);have hz4:(w3.alloc (.cells #[.int .i64 (i:Int),.int .u8 (x:Int),.iface vT vx,.pointer none] 220)).heap.size=w3.heap.size+1:=(by simp);have D4:=A4.blk D3 id;have E4:=Blk.new w3 #[.int .i64 (i:Int),.int .u8 (x:Int),.iface vT vx,.pointer none] 220;have F4:=F3.trans A4 v_;have P4:=A4.blk h3 id;have V4:=q_ ((hv3.mono (Q:=λ g=>w3.heap.size≠g/\w.heap.size<g/\w1.heap.size<g) (λ g hg1 hg2=>by omega)).fr A4 u_);replace D4:=q_ D4;replace E4:=q_ E4;replace F4:=q_ F4;replace P4:=q_ (show PAt _ bp s j from P4);replace hz4:=q_ hz4;clear hI3 hf3 h3 hv3 D3 L3 F3 A4)
    |(go_at_call 156;refine(ze4 61 P4.o hs hj.2 rfl (by decide) h61.o).mono ?_;rintro e w5 ⟨rfl,hf5,h5⟩;have D5:=hf5.blk D4.o (by omega);have E5:=hf5.blk E4.o (by omega);obtain⟨r0,r1,r2,r3⟩:=D5.d4;obtain⟨g0,g1,g2,g3⟩:=D5.t4;obtain⟨e0,e1,e2,e3⟩:=E5.d4;replace D5:=q_ D5;replace E5:=q_ E5;replace hf5:=q_ hf5;replace h5:=q_ h5))
   have S2:=Blk.four D5.o (.int .i64 (i:Int)) (.int .u8 (x:Int)) (.iface vT vx) (.pointer none);obtain⟨q0,q1,q2,q3⟩:=S2.d4;refine bodyPost_ret (v:=.tuple #[.agg #[.int .i64 (i:Int),.int .u8 (x:Int),.iface vT vx,.pointer none],.nilIface]) (by simp[results,results246,go_sem,q0,q1,q2,q3]) rfl ?_;rw[Q_.o];have h4:=Fr.four w5 w.heap.size (.int .i64 (i:Int)) (.int .u8 (x:Int)) (.iface vT vx) (.pointer none);refine⟨(i:Int),(x:Int),.iface vT vx,.pointer none,.nilIface,rfl,.inr ⟨_,_,rfl⟩,⟨_,rfl⟩,(F4.o.trans hf5.o u_).trans h4 (λ y hy e=>by omega),.inl ⟨⟨x,i,t,none⟩,j,rfl,h4.blk h5.o (by omega),hj.2,⟨rfl,rfl,?_,rfl⟩,.inl hres.o⟩⟩;exact((V4.o.fr hf5.o (λ g hg e=>by omega)).fr h4 (λ g hg e=>by omega)).mono (λ g _ hg=>by omega)
  case pos=>
   have hlt3:j+1<=s.size:=zl_ (s:=s) (i:=j) (by omega);have hres:=q_ (show xa_ s i=(match pD s (j+1) 0 with|none=>.error s.size|some e=>.ok (⟨x,i,t,some (j+1,e)⟩,e)) by unfold xa_;rw[hx,hsm,if_pos rfl,if_pos h58,hp];simp only;rw[if_pos h61];cases pD s (j+1) 0<;>rfl);replace hsm:=q_ (show zn_ (bt s i)=true by rw[hx];exact hsm);replace hx:=q_ hx;replace h58:=q_ h58;replace hp:=q_ hp;replace h61:=q_ h61
   go_in
   go_wp2_with (first
    |(go_at_call 247;refine(xx_ h0.o G0.o hne hs hi).mono ?_;rintro e w1 ⟨a,b,ev,rfl,hf1,hm⟩;obtain⟨rfl,rfl,rfl,h1⟩:a=(i:Int)/\b=(x:Int)/\ev=.nilIface/\PAt w1 bp s (i+1):=(by rcases hm with⟨_,q1,q2,q3,q4,_⟩|⟨hq,_⟩;(exact⟨q1,q2.trans (by rw[hx.o]),q3,q4⟩);exact absurd (hsm.o.symm.trans hq) (by decide));have P1:=Blk.alloc h1 (.cells #[.int .i64 (i:Int),.int .u8 (x:Int)] 217);have F1:=(F0.o.trans hf1 u_).alloc (.cells #[.int .i64 (i:Int),.int .u8 (x:Int)] 217);have G1:=hGw.o.fr F1 (Ne.symm hne);have L1:=Blk.new w1 #[.int .i64 (i:Int),.int .u8 (x:Int)] 217;have D1:=(hf1.blk B0.o (by omega)).alloc (.cells #[.int .i64 (i:Int),.int .u8 (x:Int)] 217);have hs1:=hf1.size;have hz1:=q_ ((by simp):(w1.alloc (.cells #[.int .i64 (i:Int),.int .u8 (x:Int)] 217)).heap.size=w1.heap.size+1);rw[hz0.o] at hs1;replace P1:=q_ (show PAt _ bp s (i+1) from P1);replace F1:=q_ F1;replace G1:=q_ G1;replace L1:=q_ L1;replace D1:=q_ D1;clear hf1 h1 hm)
    |(go_at_call 155;refine(y4_ 58 P1.o G1.o hne hs hlt rfl (by decide)).mono ?_;rintro e w2 ⟨v2,rfl,hf2,hE⟩;obtain⟨rfl,h2⟩:v2=.nilIface/\PAt w2 bp s (i+2):=(by rcases hE with⟨_,q1,q2,_⟩|⟨hq,_⟩;(exact⟨q1,q2⟩);exact absurd h58.o hq);have hs2:=hf2.size;rw[hz1.o] at hs2;have D2:=hf2.blk D1.o (by omega);have L2:=hf2.blk L1.o (by omega);have F2:=F1.o.trans hf2 u_;have G2:=q_ (hGw.o.fr F2 (Ne.symm hne));replace D2:=q_ D2;replace L2:=q_ L2;replace F2:=q_ F2;replace h2:=q_ h2;clear hf2 hE)
    |(go_at_call 101;refine(zca hs _ (i+2) l_ hlt2 w2 bp et ex h2.o G2.o hne).mono ?_;rintro e w3 ⟨v3,ev3,hI3,rfl,hf3,hm⟩;rw[hp.o] at hm;obtain⟨rfl,h3,hv3⟩:=hm;obtain⟨vT,vx,rfl⟩:∃ T x,v3=.iface T x:=(by cases hv3<;>exact⟨_,_,rfl⟩);have hs3:=hf3.size;have D3:=hf3.blk D2.o (by omega);have L3:=hf3.blk L2.o (by omega);have F3:=F2.o.trans hf3 u_;have l0:=L3.c0;have l1:=L3.c1;have A4:=(Fr.refl w3 (λ _=>False)).alloc (.cells #[.int .i64 (i:Int),.int .u8 (x:Int),.iface vT vx,.pointer none] 220);have hz4:(w3.alloc (.cells #[.int .i64 (i:Int),.int .u8 (x:Int),.iface vT vx,.pointer none] 220)).heap.size=w3.heap.size+1:=(by simp);have D4:=A4.blk D3 id;have E4:=Blk.new w3 #[.int .i64 (i:Int),.int .u8 (x:Int),.iface vT vx,.pointer none] 220;have F4:=F3.trans A4 v_;have P4:=A4.blk h3 id;have V4:=q_ ((hv3.mono (Q:=λ g=>w3.heap.size≠g/\w.heap.size<g/\w1.heap.size<g) (λ g hg1 hg2=>by omega)).fr A4 u_);replace D4:=q_ D4;replace E4:=q_ E4;replace F4:=q_ F4;replace P4:=q_ (show PAt _ bp s j from P4);replace hz4:=q_ hz4;clear hI3 hf3 h3 hv3 D3 L3 F3 A4)
    |(go_at_call 156;refine(zcs 61 P4.o hs hj.2 rfl (by decide) h61.o).mono ?_;rintro e w5 ⟨rfl,hf5,h5⟩;have hs5:=hf5.size;rw[hz4.o] at hs5;have D5:=hf5.blk D4.o (by omega);have E5:=q_ (hf5.blk E4.o (by omega));replace D5:=q_ D5;replace hf5:=q_ hf5;replace h5:=q_ h5)
    |(go_at_call 268;refine(zj5 h5.o hs hlt3).mono ?_;rintro e w6 ⟨k6,q6,hk6,hjk6,hk6s,hq6,rfl,hB6,hf6,h6⟩;have hs6:=hf6.size;have D6:=hf6.blk D5.o (by omega);have E6:=hf6.blk E5.o (by omega);have d3:=E6.cell 3;have dg:=E6.thaw 3;have E7:=E6.set 3 (.pointer (some ⟨q6,0,none⟩));have hfs:Fr w6 (w6.setCell ⟨w3.heap.size,3,none⟩ (.pointer (some ⟨q6,0,none⟩))) (λ g=>g=w3.heap.size):=(Fr.refl w6 (λ g=>g=w3.heap.size)).setCell ⟨w3.heap.size,3,none⟩ _ (λ _=>rfl);have D7:=hfs.blk D6 (by omega);have r0:=D7.cell 0;have r1:=D7.cell 1;have r2:=D7.cell 2;have r3:=D7.cell 3;obtain⟨g0,g1,g2,g3⟩:=D7.t4;have e0:=E7.cell 0;have e1:=E7.cell 1;have e2:=E7.cell 2;have e3:=E7.cell 3;simp only[bs_,bt_,aa_,ac_] at d3 r0 r1 r2 r3 e0 e1 e2 e3;replace D7:=q_ D7;replace E7:=q_ E7;replace hfs:=q_ hfs;replace hf6:=q_ hf6;replace h6:=q_ h6;replace hB6:=q_ hB6;replace hk6:=q_ hk6;clear D6 E6))
   have S2:=Blk.four D7.o (.int .i64 (i:Int)) (.int .u8 (x:Int)) (.iface vT vx) (.pointer (some ⟨q6,0,none⟩));obtain⟨q0,q1,q2,q3⟩:=S2.d4;refine bodyPost_ret (v:=.tuple #[.agg #[.int .i64 (i:Int),.int .u8 (x:Int),.iface vT vx,.pointer (some ⟨q6,0,none⟩)],.nilIface]) (by simp[results,results246,go_sem,q0,q1,q2,q3]) rfl ?_;rw[Q_.o];have h4:=Fr.four (w6.setCell ⟨w3.heap.size,3,none⟩ (.pointer (some ⟨q6,0,none⟩))) w.heap.size (.int .i64 (i:Int)) (.int .u8 (x:Int)) (.iface vT vx) (.pointer (some ⟨q6,0,none⟩));have V7:=((((V4.o.fr hf5.o (λ g hg e=>by omega)).fr hf6.o (λ g hg e=>by omega)).fr hfs.o (λ g hg e=>by omega)).fr h4 (λ g hg e=>by omega)).mono (Q:=λ g=>w.heap.size<=g) (λ g _ hg=>by omega);have P7:=h4.blk (hfs.o.blk h6.o (by omega)) (by omega);have B7:=h4.blk (hfs.o.blk hB6.o (by omega)) (by omega);refine⟨(i:Int),(x:Int),.iface vT vx,.pointer (some ⟨q6,0,none⟩),.nilIface,rfl,.inr ⟨_,_,rfl⟩,⟨_,rfl⟩,(((F4.o.trans hf5.o u_).trans hf6.o u_).trans hfs.o (λ y hy e=>by omega)).trans h4 (λ y hy e=>by omega),.inl ⟨⟨x,i,t,some (j+1,k6)⟩,k6,rfl,P7,hk6s,⟨rfl,rfl,V7,?_⟩,?_⟩⟩
   ·exact⟨q6,.nilIface,by omega,rfl,.inl rfl,B7⟩
   ·have hk:=hk6.o;rw[hres.o]
    cases hd:pD s (j+1) 0 with
    | none=>rw[hd] at hk;exact .inr ⟨rfl,hk⟩
    | some e=>rw[hd] at hk;simp only[b0_] at hk;subst hk;exact .inl rfl
open Go.RowKit
theorem TyV.iface {w:World}{P:Nat->Prop}{t:PT}{v:Value}(h:TyV w P t v):∃ T x,v=.iface T x:=by
 cases h<;>exact⟨_,_,rfl⟩
def zo7 (w:World) (bp:Nat) (s:BA) (i:Nat) (et:TypeId) (ex:Value) (e:Ending) (w':World):Prop:=
 ∃ v ev,IfV v/\e=.returned (.tuple #[v,ev])/\Fr w w' (· = bp)/\
 match xy_ s i with
 | .ok (fs,j)=>ev=.nilIface/\PAt w' bp s j/\xo_ w' (λ g=>w.heap.size<=g) s (.recd fs) v
 | .error k=>z9_ w' w.heap.size ev (k:Int) (.iface et ex)/\∃ j,j<=s.size/\PAt w' bp s j
section
variable {w W W2:World} {bp:Nat} {s:BA} {j b0:Nat} {L:List Value} {T ET:TypeId} {k:Nat} {sv v5:Value} {n:Nat} {xs:List Value}
theorem z07 {fs:List PF}{ys:List Value}(hH:Fr W W2 (λ g=>sv.ownBlock=some g\/g=b0)) (hn:∀ g,v5.ownBlock=some g->b0+1<=g/\(sv.ownBlock=some g\/W.heap.size<=g)) (h:vi_ W (λ g=>b0+1<=g/\sv.ownBlock≠some g) s fs ys):vi_ W2 (λ g=>b0+1<=g/\v5.ownBlock≠some g) s fs ys:=
 ((h.mono (Q:=λ g=>(b0+1<=g/\sv.ownBlock≠some g)/\g<W.heap.size) (λ _ h1 h2=>⟨h2,h1⟩)).fr hH (λ g hg e=>by
   rcases e with e|e
   ·exact hg.1.2 e
   ·have:=hg.1.1;omega)).mono (λ g _ hg=>⟨hg.1.1,λ e=>by
   rcases(hn g e).2 with q|q
   ·exact hg.1.2 q
   ·have:=hg.2;omega⟩)
theorem zz0 {f:PF}{a b c d:Value}(hH:Fr W W2 (λ g=>sv.ownBlock=some g\/g=b0)) (hn:∀ g,v5.ownBlock=some g->b0+1<=g/\(sv.ownBlock=some g\/W.heap.size<=g)) (h:FldV W (λ g=>b0+1<=g/\sv.ownBlock≠some g) s f a b c d):FldV W2 (λ g=>b0+1<=g/\v5.ownBlock≠some g) s f a b c d:=
 ((h.mono (Q:=λ g=>(b0+1<=g/\sv.ownBlock≠some g)/\g<W.heap.size) (λ _ h1 h2=>⟨h2,h1⟩)).fr hH (λ g hg e=>by
   rcases e with e|e
   ·exact hg.1.2 e
   ·have:=hg.1.1;omega)).mono (λ g _ hg=>⟨hg.1.1,λ e=>by
   rcases(hn g e).2 with q|q
   ·exact hg.1.2 q
   ·have:=hg.2;omega⟩)
end
structure RF (w:World) (bp:Nat) (s:BA) (j b0:Nat) (p:Int) (sv:Value) (fs:List PF) (xs:List Value) (W:World):Prop where
 A:AM w bp s j b0 [.int .i64 p,sv] 263 220 4 sv fs.length xs W
 F:vi_ W (λ g=>b0+1<=g/\sv.ownBlock≠some g) s fs xs
section
variable {w W W':World} {bp:Nat} {s:BA} {j j' b0:Nat} {p:Int} {sv:Value} {fs:List PF} {xs:List Value}
theorem RF.call (M:RF w bp s j b0 p sv fs xs W) (h:PAt W' bp s j') (hf:Fr W W' (· = bp)):RF w bp s j' b0 p sv fs xs W':=by
 have h1:=M.A.lt;have h2:=M.A.w0;exact⟨M.A.call h hf,M.F.fr hf (λ g hg e=>by omega)⟩
theorem RF.alloc (M:RF w bp s j b0 p sv fs xs W) (o:Obj):RF w bp s j b0 p sv fs xs (W.alloc o):=M.call (Blk.alloc M.A.here o) ((Fr.refl W _).alloc o)
theorem RF.still (M:RF w bp s j b0 p sv fs xs W) (hW:ze_ W W'):RF w bp s j b0 p sv fs xs W':=M.call (M.A.here.still hW) ((Fr.refl W _).still hW)
theorem RF.item (M:RF w bp s j b0 p sv fs xs W){o:Obj}{w5:World}{v5 a b c d:Value}{f:PF}(hg:(W.alloc o).grownBy w5 sv.ownBlock) (ho:w5.ownsRow (b0+1) 220 4 v5 (fs.length+1) (xs++[a,b,c,d]))
 (hl:v5.ownBlock=sv.ownBlock\/v5.ownBlock=some (W.alloc o).heap.size) (hv:FldV W (λ g=>b0+1<=g/\sv.ownBlock≠some g) s f a b c d) :
 RF w bp s j b0 p v5 (fs++[f]) (xs++[a,b,c,d]) (w5.setCell ⟨b0,1,none⟩ v5):=by
 obtain⟨h1,h2,h3⟩:=M.A.item ((Fr.refl W _).alloc o) hg ho hl 1;refine⟨?_,(z07 h2 h3 M.F).snoc M.A.row.1 (zz0 h2 h3 hv)⟩;rw[al_,ai_];exact h1
theorem RF.body (M:RF w bp s j b0 p sv fs xs W) (q:Nat) (hp:p=(q:Int)):xo_ W (λ g=>w.heap.size<=g) s (.recd fs) (.iface 263 (.agg #[.int .i64 p,sv])):=by
 subst hp;have:=M.A.w0;exact .recd q (vm_ M.A.row) (λ g e=>by have:=M.A.row.lt g e;omega) (M.F.mono (λ g _ hg=>by have:=hg.1;omega))
end
def z0l (w:World) (bp:Nat) (s:BA) (i b0:Nat) (p:Int) (m:Nat) (W:World):Prop:=
 ∃ j sv fs xs,RF w bp s j b0 p sv fs xs W/\j<=s.size/\i+fs.length<=j/\s.size+1-j<=m/\zam s i=zej fs (zam s j)
theorem za6:Tryz.prog.underlying 214=some (.slice 220):=by kernel_rfl
theorem zi0:(Tryz.prog.info? 220).map (λ i=>(i.zero,i.size,i.bytes))=some (some (.agg #[.int .i64 0,.int .u8 0,.nilIface,.pointer none]),4,40):=by kernel_rfl
theorem zmn {w:World}{bp:Nat}{s:BA}{p:Nat}(h:PAt w bp s i) (hG:Gram w et ex) (hne:bp≠0) (hs:s.size<=300) (hi:i<=s.size) :
 Calls prog 206 #[.pointer (some ⟨bp,0,none⟩),.int .i64 (p:Int)] w (zo7 w bp s i et ex):=by
 obtain⟨POST,Q_⟩:∃ P,H_ (P=zo7 w bp s i et ex):=⟨_,rfl⟩;rw[<- Q_.o];have hbp:=h.lt;have hgl:=World.block_lt_of_cell? w ⟨0,0,none⟩ hG;replace hG:=q_ hG;have hE:=q_ (y4_ 40 (c:=40) h hG.o hne hs hi rfl (by decide));clear h
 by_cases h40:bt s i=40
 case neg=>
  have hres:=q_ (show xy_ s i=.error i by unfold xy_;rw[if_neg h40]);replace h40:=q_ h40
  go_in
  go_wp2_with (go_at_call 155;refine hE.o.mono ?_;rintro e w1 ⟨v1,rfl,hf1,hm⟩;obtain⟨g,hg1,rfl,hg2,h1⟩:∃ g,w.heap.size<=g/\v1=.iface 210 (.pointer (some ⟨g,0,none⟩))/\Blk w1 g [.int .i64 (i:Int),.iface et ex] 212/\PAt w1 bp s i:=(by rcases hm with⟨hq,_⟩|⟨_,⟨g,q1,q2,q3⟩,q4⟩;(exact absurd hq h40.o);exact⟨g,q1,q2,q3,q4⟩);replace hf1:=q_ hf1;replace hg2:=q_ hg2;replace h1:=q_ h1)
  try go_ret
  rw[Q_.o];refine⟨.nilIface,_,.inl rfl,rfl,hf1.o,?_⟩;rw[hres.o];exact⟨⟨g,hg1,rfl,hg2.o⟩,i,hi,h1.o⟩
 case pos=>
 have hlt:i+1<=s.size:=zl_ (s:=s) (i:=i) (by omega)
 by_cases h41:bt s (i+1)=41
 case pos=>
  have hres:=q_ (show xy_ s i=.ok ([],i+2) by unfold xy_;rw[if_pos h40,if_pos h41]);replace h40:=q_ h40;replace h41:=q_ h41
  go_in
  go_wp2_with (first
   |(go_at_call 155;refine hE.o.mono ?_;rintro e w1 ⟨v1,rfl,hf1,hm⟩;obtain⟨rfl,h1⟩:v1=.nilIface/\PAt w1 bp s (i+1):=(by rcases hm with⟨_,q1,q2,_⟩|⟨hq,_⟩;(exact⟨q1,q2⟩);exact absurd h40.o hq);have hs1:=hf1.size;replace hf1:=q_ hf1;replace h1:=q_ h1)
   |(go_at_call 156;refine(zcs 41 (Blk.alloc h1.o (.cells #[.int .i64 (p:Int),.slice none 0 0] 263)) hs hlt rfl (by decide) h41.o).mono ?_;rintro e w2 ⟨rfl,hf2,h2⟩;have B2:=hf2.blk (Blk.new w1 #[.int .i64 (p:Int),.slice none 0 0] 263) (by omega);have c0:=B2.c0;have c1:=B2.c1;replace hf2:=q_ hf2;replace h2:=q_ h2;replace B2:=q_ B2))
  try go_ret
  rw[Q_.o];refine⟨.iface 263 (.agg #[.int .i64 (p:Int),.slice none 0 0]),.nilIface,.inr ⟨_,_,rfl⟩,rfl,(hf1.o.alloc _).trans hf2.o u_,?_⟩;rw[hres.o];exact⟨rfl,h2.o,.recd p (World.ownsRow_nil _ _ _ _) (λ g e=>by simp[Value.ownBlock] at e) (λ i f e=>by simp at e)⟩
 case neg=>
  have hres:=q_ (show xy_ s i=zam s (i+1) by unfold xy_;rw[if_pos h40,if_neg h41]);replace h40:=q_ h40;replace h41:=q_ h41
  go_in
  go_wp2_with (first
   |(go_at_call 155;refine hE.o.mono ?_;rintro e w1 ⟨v1,rfl,hf1,hm⟩;obtain⟨rfl,h1⟩:v1=.nilIface/\PAt w1 bp s (i+1):=(by rcases hm with⟨_,q1,q2,_⟩|⟨hq,_⟩;(exact⟨q1,q2⟩);exact absurd h40.o hq);have hs1:=hf1.size;replace hf1:=q_ hf1;replace h1:=q_ h1;clear hE)
   |(go_at_call 156;refine(ze4 41 (Blk.alloc h1.o (.cells #[.int .i64 (p:Int),.slice none 0 0] 263)) hs hlt rfl (by decide) h41.o).mono ?_;rintro e w2 ⟨rfl,hf2,h2⟩;have start:z0l w bp s (i+1) w1.heap.size (p:Int) (s.size+1) w2:=⟨i+1,.slice none 0 0,[],[],⟨⟨h2,(hf1.o.alloc _).trans hf2 u_,hbp,hs1,(by have:=hf2.size;simp at this;omega),hf2.blk (Blk.new w1 #[.int .i64 (p:Int),.slice none 0 0] 263) (by omega),World.ownsRow_nil _ _ _ _⟩,(λ i f e=>by simp at e)⟩,hlt,(by simp),(by omega),(zq7 _).symm⟩;replace start:=q_ start;obtain⟨b0,hb0⟩:∃ b,b=w1.heap.size:=⟨_,rfl⟩;rw[<- hb0] at start⊢;clear hf2 h2 h1 hf1 hb0 hs1))
  go_loopg [] (s.size+1) (λ m W=>z0l w bp s (i+1) b0 (p:Int) m W)
  case atStart=>exact start.o
  case round=>
   clear start;obtain⟨j,sv,fs,xs,M,hj,hij,hm,hpf⟩:=hrel;obtain⟨sa,sc,rfl⟩:=zf_ M.A.row
   have hds:fs.length<=300:=by omega
   have hC:=q_ (zpn M.A.here (hG.o.fr M.A.fr (Ne.symm hne)) hne hs hj);have hsz:=M.A.fr.size;have hbB:=M.A.hB;have hw0:=M.A.w0;have hbd:=q_ (jg_ (s:=s) hj);have hst:=q_ (zj9 s j hj);obtain⟨ti,hi1,hi2,hi3,hi4⟩:=info_parts zi0;replace M:=q_ M;replace hpf:=q_ hpf
   go_wp2_with (first
    |(go_at_call 246;refine hC.o.mono ?_;rintro e w2 ⟨a,b,c,d,ev,rfl,hIc,⟨qd,rfl⟩,hf2,hm⟩;replace hf2:=q_ hf2;rcases hm with⟨f,j2,rfl,h2,hj2,hv,hor⟩|⟨k,hk,⟨g,hg1,rfl,hg2⟩,j3,hj3,h3⟩
      obtain⟨vT,vx,rfl⟩:=hv.2.2.1.iface
      have M1:=(M.o.call h2 hf2.o).alloc (.cells #[.int .i64 a,.int .u8 b,.iface vT vx,.pointer qd] 220)
      have hv1:=(hv.mono (Q:=λ g=>b0+1<=g/\(Value.slice sa fs.length sc).ownBlock≠some g) (λ g _ hg=>⟨by omega,λ e=>by have:=M.o.A.row.lt g e;omega⟩)).fr ((Fr.refl w2 (λ _=>False)).alloc (.cells #[.int .i64 a,.int .u8 b,.iface vT vx,.pointer qd] 220)) u_
      have N1:=Blk.new w2 #[.int .i64 a,.int .u8 b,.iface vT vx,.pointer qd] 220
      have t1:=M1.A.b.c1
      obtain⟨n0,n1,n2,n3⟩:=N1.d4
      have hbB1:=(M.o.call h2 hf2.o).A.hB
      replace M1:=q_ M1
      replace hv1:=q_ hv1
      replace hor:=q_ hor
      clear h2 hv N1 hIc
      rotate_left
      replace hk:=q_ hk
      replace hg2:=q_ hg2
      replace h3:=q_ h3
      rcases hIc with rfl|⟨cT,cx,rfl⟩)
    |(at_builtin;go_must (refine wpList_append_own_at _ rfl _ _ 214 rfl (b0+1) 220 ti _ 4 40 za6 hi1 hi2 hi3 hi4 rfl (by decide) (.slice sa fs.length sc) fs.length xs rfl ?hown _ 1 1 [.int .i64 a,.int .u8 b,.iface vT vx,.pointer qd] rfl rfl (yh_ _ #[.int .i64 a,.int .u8 b,.iface vT vx,.pointer qd] _ _ ?nn) ?one ?b1 ?b2 ?b3 ?_)
      case hown=>exact World.ownsRow.alloc M1.o.A.row _
      case nn=>simp
      case one=>simp[Value.oneCell']
      case b1=>unfold maxLen;omega
      case b2=>omega
      case b3=>simp;omega
      intro v5 w5 ho5 hg5 hn5 hl5
      have M5:=M1.o.item hg5 ho5 hl5 hv1.o
      have B5:=M1.o.A.itemCell ((Fr.refl _ _).alloc _) hg5
      have e5:=B5.c1
      have f5:=B5.thaw 1
      obtain⟨g5,cap5,rfl⟩:=zk_ ho5 (by omega)
      clear hg5 hl5 hn5 ho5 B5
      replace M5:=q_ M5)
    |(go_at_call 156;refine(zft 44 M5.o.A.here hs hj2 rfl (by decide)).mono ?_;rintro e w6 ⟨tb,rfl,hf6,hT⟩;replace hf6:=q_ hf6;rcases hT with⟨h44,rfl,h6,hl6⟩|⟨h44,rfl,h6⟩<;>replace h44:=q_ h44<;>replace h6:=q_ h6))
   ·
    try go_ret
    rw[Q_.o];refine⟨.nilIface,_,.inl rfl,rfl,(M.o.A.fr.trans hf2.o u_).alloc _,?_⟩;rw[hres.o,hpf.o,hst.o,hk.o];exact⟨⟨g,ah_ hsz hg1,rfl,hg2.o.alloc _⟩,j3,hj3,Blk.alloc h3.o _⟩
   ·
    try go_ret
    rw[Q_.o];refine⟨.nilIface,_,.inl rfl,rfl,(M.o.A.fr.trans hf2.o u_).alloc _,?_⟩;rw[hres.o,hpf.o,hst.o,hk.o];exact⟨⟨g,ah_ hsz hg1,rfl,hg2.o.alloc _⟩,j3,hj3,Blk.alloc h3.o _⟩
   ·have M6:=M5.o.call h6.o hf6.o;replace M6:=q_ M6
    have hnx:H_ (zam s (i+1)=zej (fs++[f]) (zam s (j2+1))/\j<j2):=q_ (by
     rcases hor.o with hok|⟨hno,rfl⟩
     ·have:=(hbd.o.1 f j2 hok)
      rw[hpf.o,hst.o,hok]
      simp only
      rw[if_neg (by rw[h44.o];decide),if_pos h44.o,zi9]
      exact⟨rfl,by omega⟩
     ·have:=h44.o
      rw[zef l_] at this
      exact absurd this (by decide))
    have hlt2:=hnx.o.2
    go_roundg (s.size+1-(j2+1))
    case measure=>omega
    case rel=>exact⟨j2+1,_,fs++[f],_,M6.o,hl6,by rw[al_,ai_];omega,l_,hnx.o.1⟩
   ·have M6:=M5.o.call h6.o hf6.o;replace M6:=q_ M6;have u0:=M6.o.A.b.c0;have u1:=M6.o.A.b.c1;have hd6:ze_ w6 w6.drew:=ze_.drew w6;have M7:=M6.o.still hd6;have hC7:=q_ (y4_ (c:=41) 41 M7.A.here (hG.o.fr M7.A.fr (Ne.symm hne)) hne hs hj2 rfl (by decide));replace M7:=q_ M7;refine yp_ 5 (λ W=>W.cell? ⟨b0,0,none⟩=some (.int .i64 (p:Int))/\W.cell? ⟨b0,1,none⟩=some (.slice (some ⟨g5,0,none⟩) (fs.length+1) cap5)) (by kernel_rfl) ?_;refine ta_ 0 rfl (by kernel_rfl) (λ _ _ _ h=>h) (by rintro W ⟨h1,h2⟩;go_simp<;>rfl) ?_;refine ta_ 1 rfl (by kernel_rfl) (λ _ _ _ h=>h) (by rintro W ⟨h1,h2⟩;go_simp<;>rfl) ?_;refine ta_ 2 rfl (by kernel_rfl) (λ _ _ _ h=>h) (by rintro W ⟨h1,h2⟩;go_simp<;>rfl) ?_;refine zg_ 3 rfl (by kernel_rfl) (λ _=>⟨u0,u1⟩) (λ K hK=>?_);go_simp;refine hC7.o.mono ?_;rintro e w8 ⟨v8,rfl,hf8,hE⟩;refine hK _ _ ?_;clear hK K
    have M8:∃ j8,j8<=s.size/\RF w bp s j8 b0 (p:Int) (.slice (some ⟨g5,0,none⟩) (fs.length+1) cap5) (fs++[f]) (xs++[.int .i64 a,.int .u8 b,.iface vT vx,.pointer qd]) w8:=by
     rcases hE with⟨_,_,h8,hl8⟩|⟨_,_,h8⟩
     ·exact⟨j2+1,hl8,M7.o.call h8 hf8⟩
     ·exact⟨j2,hj2,M7.o.call h8 hf8⟩
    obtain⟨j8,hj8,M8⟩:=M8;have x0:=M8.A.b.c0;have x1:=M8.A.b.c1;refine zg_ 4 rfl (by kernel_rfl) (λ _=>⟨x0,x1⟩) (λ K hK=>?_);go_simp;refine hK _ _ ?_;clear hK K;refine zg_ 5 rfl (by kernel_rfl) (λ _=>⟨x0,x1⟩) (λ K hK=>?_);go_simp;refine hK _ _ ?_;clear hK K;refine yc_ (by kernel_rfl) (λ hm=>absurd hm (by decide)) ?_ _;replace M8:=q_ M8;replace hE:=q_ hE;replace hf8:=q_ hf8;clear x0 x1 u0 u1
    go_wp2_with fail
    try go_ret
    rw[Q_.o];refine⟨.iface 263 (.agg #[.int .i64 (p:Int),(.slice (some ⟨g5,0,none⟩) (fs.length+1) cap5)]),v8,.inr ⟨_,_,rfl⟩,rfl,M8.o.A.fr,?_⟩;rw[hres.o,hpf.o,hst.o];have hs7:=M7.o.A.fr.size
    rcases hor.o with hok|⟨hno,rfl⟩
    ·rw[hok];simp only
     rcases hE.o with⟨hb,rfl,h8,hl8⟩|⟨hb,hF,h8⟩
     ·rw[if_pos hb];exact⟨rfl,h8,M8.o.body p rfl⟩
     ·rw[if_neg hb,if_neg h44.o];exact⟨hF.less hs7,j2,hj2,h8⟩
    ·rw[hno]
     rcases hE.o with⟨hb,_⟩|⟨hb,hF,h8⟩
     ·rw[zef l_] at hb;exact absurd hb (by decide)
     ·exact⟨hF.less hs7,_,l_,h8⟩
open Go.RowKit
def zl5 (w:World) (bp:Nat) (s:BA) (i:Nat) (et:TypeId) (ex:Value) (e:Ending) (w':World):Prop:=
 ∃ v ev,IfV v/\e=.returned (.tuple #[v,ev])/\Fr w w' (· = bp)/\
 match za0 s i with
 | .ok ((l,o),j)=>ev=.nilIface/\PAt w' bp s j/\xo_ w' (λ g=>w.heap.size<=g) s (.enum l o) v
 | .error k=>z9_ w' w.heap.size ev (k:Int) (.iface et ex)/\∃ j,j<=s.size/\PAt w' bp s j
theorem zcp (l:List (Nat×Nat)) (c p:Nat):yg_ (l++[(c,p)])=yg_ l++[.int .i64 (p:Int),.int .u8 (c:Int)]:=by
 simp[yg_]
theorem AM.put {w W:World}{bp:Nat}{s:BA}{j b0:Nat}{L:List Value}{T ET:TypeId}{k:Nat}{sv:Value}{n:Nat}{xs:List Value}(M:AM w bp s j b0 L T ET k sv n xs W) (c:Nat) (v:Value) :
 AM w bp s j b0 (L.set c v) T ET k sv n xs (W.setCell ⟨b0,c,none⟩ v):=by
 have h1:=M.lt;have h2:=M.w0;have hF:Fr W (W.setCell ⟨b0,c,none⟩ v) (λ g=>g=b0):=(Fr.refl W (λ g=>g=b0)).setCell ⟨b0,c,none⟩ v (λ _=>rfl);exact⟨hF.blk M.here (by omega),M.fr.trans hF (λ x hx e=>by omega),M.lt,M.w0,ah_ M.hB hF.size,M.b.set c v,zb_ M.row hF (λ g hg e=>by have:=M.row.lt g hg;omega)⟩
def z0t (w:World) (bp:Nat) (s:BA) (i b0:Nat) (p:Int) (m:Nat) (W:World):Prop:=
 ∃ j sv l,AM w bp s j b0 [.int .i64 p,sv,.pointer none] 268 217 2 sv l.length (yg_ l) W/\j<=s.size/\i+l.length<=j/\s.size+1-j<=m/\za0 s i=zhz s l (zer s j)
theorem zbk:Tryz.prog.underlying 265=some (.slice 217):=by kernel_rfl
theorem ztr:(Tryz.prog.info? 217).map (λ i=>(i.zero,i.size,i.bytes))=some (some (.agg #[.int .i64 0,.int .u8 0]),2,16):=by kernel_rfl
theorem zlh {w W:World}{bp:Nat}{s:BA}{j b0 x y p:Nat}{l:List (Nat×Nat)}{sv u:Value}{o:Option (Nat×Nat)}{L:List Value}(M:AM w bp s j b0 L 268 217 2 sv (l.length+1) (yg_ l++[.int .i64 (y:Int),.int .u8 (x:Int)]) W) (hu:UnkV W (λ g=>w.heap.size<=g) o u) :
 xo_ W (λ g=>w.heap.size<=g) s (.enum (l++[(x,y)]) o) (.iface 268 (.agg #[.int .i64 (p:Int),sv,u])):=by
 have:=M.w0;refine .enum p ?_ (λ g e=>by have:=M.row.lt g e;omega) hu;rw[zcp,al_,ai_];exact vm_ M.row
theorem zr7 {w:World}{bp:Nat}{s:BA}{p:Nat}(h:PAt w bp s i) (hG:Gram w et ex) (hne:bp≠0) (hs:s.size<=300) (hi:i<=s.size) :
 Calls prog 207 #[.pointer (some ⟨bp,0,none⟩),.int .i64 (p:Int)] w (zl5 w bp s i et ex):=by
 obtain⟨POST,Q_⟩:∃ P,H_ (P=zl5 w bp s i et ex):=⟨_,rfl⟩;rw[<- Q_.o];have hbp:=h.lt;have hgl:=World.block_lt_of_cell? w ⟨0,0,none⟩ hG;replace hG:=q_ hG;have hE:=q_ (y4_ 40 (c:=40) h hG.o hne hs hi rfl (by decide));clear h
 by_cases h40:bt s i=40
 case neg=>
  have hres:=q_ (show za0 s i=.error i by unfold za0;rw[if_neg h40]);replace h40:=q_ h40
  go_in
  go_wp2_with (go_at_call 155;refine hE.o.mono ?_;rintro e w1 ⟨v1,rfl,hf1,hm⟩;obtain⟨g,hg1,rfl,hg2,h1⟩:∃ g,w.heap.size<=g/\v1=.iface 210 (.pointer (some ⟨g,0,none⟩))/\Blk w1 g [.int .i64 (i:Int),.iface et ex] 212/\PAt w1 bp s i:=(by rcases hm with⟨hq,_⟩|⟨_,⟨g,q1,q2,q3⟩,q4⟩;(exact absurd hq h40.o);exact⟨g,q1,q2,q3,q4⟩);replace hf1:=q_ hf1;replace hg2:=q_ hg2;replace h1:=q_ h1)
  try go_ret
  rw[Q_.o];refine⟨.nilIface,_,.inl rfl,rfl,hf1.o,?_⟩;rw[hres.o];exact⟨⟨g,hg1,rfl,hg2.o⟩,i,hi,h1.o⟩
 case pos=>
  have hlt0:i+1<=s.size:=zl_ (s:=s) (i:=i) (by omega);have hres:=q_ (show za0 s i=zhz s [] (zer s (i+1)) by rw[zvv,if_pos h40]);replace h40:=q_ h40
  go_in
  go_wp2_with (go_at_call 155;refine hE.o.mono ?_;rintro e w1 ⟨v1,rfl,hf1,hm⟩;obtain⟨rfl,h1⟩:v1=.nilIface/\PAt w1 bp s (i+1):=(by rcases hm with⟨_,q1,q2,_⟩|⟨hq,_⟩;(exact⟨q1,q2⟩);exact absurd h40.o hq);have hs1:=hf1.size;have start:=q_ (⟨i+1,.slice none 0 0,[],⟨Blk.alloc h1 _,hf1.alloc _,hbp,hs1,(by simp),Blk.new w1 _ _,World.ownsRow_nil _ _ _ _⟩,hlt0,(by simp),(by omega),hres.o⟩:z0t w bp s i w1.heap.size (p:Int) (s.size+1) (w1.alloc (.cells #[.int .i64 (p:Int),.slice none 0 0,.pointer none] 268)));clear hf1 hm h1 hE)
  obtain⟨b0,hb0⟩:∃ b,b=w1.heap.size:=⟨_,rfl⟩;rw[<- hb0] at start⊢;clear hb0
  go_loopg [] (s.size+1) (λ m W=>z0t w bp s i b0 (p:Int) m W)
  case atStart=>exact start.o
  case round=>
   clear start hres;obtain⟨j,sv,l,M,hj,hij,hm,hpf⟩:=hrel;obtain⟨sa,sc,rfl⟩:=zf_ M.row
   have hds:l.length<=300:=by omega
   have hC:=q_ (xx_ M.here (hG.o.fr M.fr (Ne.symm hne)) hne hs hj);have hsz:=M.fr.size;have hbB:=M.hB;have hw0:=M.w0;rw[zny] at hpf;obtain⟨ti,hi1,hi2,hi3,hi4⟩:=info_parts ztr;replace M:=q_ M;obtain⟨x,hx⟩:∃ x,bt s j=x:=⟨_,rfl⟩
   cases hsm:zn_ x with
   | false=>
    have hfin:=q_ (show za0 s i=.error j by rw[hpf,hx,hsm];rfl);replace hsm:=q_ (show zn_ (bt s j)=false by rw[hx];exact hsm);replace hx:=q_ hx;clear hpf
    go_wp2_with (first
     |(go_at_call 247;refine hC.o.mono ?_;rintro e w2 ⟨a,b,ev,rfl,hf2,hm⟩;obtain⟨g,hg1,rfl,hg2,h2⟩:∃ g,wr.heap.size<=g/\ev=.iface 210 (.pointer (some ⟨g,0,none⟩))/\Blk w2 g [.int .i64 (j:Int),.iface et ex] 212/\PAt w2 bp s j:=(by rcases hm with⟨hq,_⟩|⟨_,⟨g,q1,q2,q3⟩,q4⟩;(exact absurd (hsm.o.symm.trans hq) (by decide));exact⟨g,q1,q2,q3,q4⟩);replace hf2:=q_ hf2;replace hg2:=q_ hg2;replace h2:=q_ h2))
    try go_ret
    rw[Q_.o];refine⟨.nilIface,_,.inl rfl,rfl,(M.o.fr.trans hf2.o u_).alloc _,?_⟩;rw[hfin.o];exact⟨⟨g,ah_ hsz hg1,rfl,hg2.o.alloc _⟩,j,hj,Blk.alloc h2.o _⟩
   | true=>
   have hlt:j+1<=s.size:=zl_ (ve_ (by rw[hx];exact hsm));rw[hx,hsm,if_pos rfl] at hpf;replace hsm:=q_ (show zn_ (bt s j)=true by rw[hx];exact hsm);replace hx:=q_ hx;obtain⟨y,hy⟩:∃ y,bt s (j+1)=y:=⟨_,rfl⟩;rw[hy] at hpf
   by_cases h44:y=44
   case pos=>
    subst h44;rw[if_pos rfl] at hpf;replace hpf:=q_ hpf;have hlt2:j+1+1<=s.size:=zl_ (s:=s) (i:=j+1) (by omega);replace hy:=q_ hy
    go_wp2_with (first
     |(go_at_call 247;refine hC.o.mono ?_;rintro e w2 ⟨a,b,ev,rfl,hf2,hm⟩;obtain⟨rfl,rfl,rfl,h2⟩:a=(j:Int)/\b=(x:Int)/\ev=.nilIface/\PAt w2 bp s (j+1):=(by rcases hm with⟨_,q1,q2,q3,q4,_⟩|⟨hq,_⟩;(exact⟨q1,q2.trans (by rw[hx.o]),q3,q4⟩);exact absurd (hsm.o.symm.trans hq) (by decide));have M1:=(M.o.call h2 hf2).alloc (.cells #[.int .i64 (j:Int),.int .u8 (x:Int)] 217);have N1:=Blk.new w2 #[.int .i64 (j:Int),.int .u8 (x:Int)] 217;have t1:=M1.b.c1;have n0:=N1.c0;have n1:=N1.c1;have hbB1:=(M.o.call h2 hf2).hB;replace M1:=q_ M1;clear h2 hf2 N1 hm)
     |(at_builtin;go_must (refine wpList_append_own_at _ rfl _ _ 265 rfl (b0+1) 217 ti _ 2 16 zbk hi1 hi2 hi3 hi4 rfl (by decide) (.slice sa l.length sc) l.length (yg_ l) rfl ?hown _ 1 1 [.int .i64 (j:Int),.int .u8 (x:Int)] rfl rfl (yh_ _ #[.int .i64 (j:Int),.int .u8 (x:Int)] _ _ ?nn) ?one ?b1 ?b2 ?b3 ?_)
       case hown=>exact World.ownsRow.alloc M1.o.row _
       case nn=>simp
       case one=>simp[Value.oneCell']
       case b1=>unfold maxLen;omega
       case b2=>omega
       case b3=>simp;omega
       intro v5 w5 ho5 hg5 hn5 hl5
       have M5:=(M1.o.item ((Fr.refl _ _).alloc _) hg5 ho5 hl5 1).1
       have B5:=M1.o.itemCell ((Fr.refl _ _).alloc _) hg5
       have e5:=B5.c1
       have f5:=B5.thaw 1
       obtain⟨g5,cap5,rfl⟩:=zk_ ho5 (by omega)
       clear hg5 hl5 hn5 ho5 B5
       replace M5:=q_ M5)
     |(go_at_call 156;refine(yt_ M5.o.here hs hlt hy.o (by decide) (by decide)).mono ?_;rintro e w6 ⟨rfl,hf6,h6⟩;have M6:=q_ (M5.o.call h6 hf6);clear hf6 h6))
    go_roundg (s.size+1-(j+2))
    case measure=>omega
    case rel=>
     refine⟨j+2,.slice (some ⟨g5,0,none⟩) (l.length+1) cap5,l++[(x,j)],?_,hlt2,by rw[al_,ai_];omega,l_,hpf.o⟩;rw[zcp,al_,ai_];exact M6.o
   case neg=>
   rw[if_neg h44] at hpf
   by_cases h33:y=33
   case neg=>
    have hfin:=q_ (show za0 s i=if bt s (j+1)=41 then .ok ((l++[(x,j)],none),j+2) else .error (j+1) by rw[hpf];unfold finE;rw[hy,if_neg h33]);replace hy:=q_ hy;clear hpf
    go_wp2_with (first
     |(go_at_call 247;refine hC.o.mono ?_;rintro e w2 ⟨a,b,ev,rfl,hf2,hm⟩;obtain⟨rfl,rfl,rfl,h2⟩:a=(j:Int)/\b=(x:Int)/\ev=.nilIface/\PAt w2 bp s (j+1):=(by rcases hm with⟨_,q1,q2,q3,q4,_⟩|⟨hq,_⟩;(exact⟨q1,q2.trans (by rw[hx.o]),q3,q4⟩);exact absurd (hsm.o.symm.trans hq) (by decide));have M1:=(M.o.call h2 hf2).alloc (.cells #[.int .i64 (j:Int),.int .u8 (x:Int)] 217);have N1:=Blk.new w2 #[.int .i64 (j:Int),.int .u8 (x:Int)] 217;have t1:=M1.b.c1;have n0:=N1.c0;have n1:=N1.c1;have hbB1:=(M.o.call h2 hf2).hB;replace M1:=q_ M1;clear h2 hf2 N1 hm)
     |(at_builtin;go_must (refine wpList_append_own_at _ rfl _ _ 265 rfl (b0+1) 217 ti _ 2 16 zbk hi1 hi2 hi3 hi4 rfl (by decide) (.slice sa l.length sc) l.length (yg_ l) rfl ?hown _ 1 1 [.int .i64 (j:Int),.int .u8 (x:Int)] rfl rfl (yh_ _ #[.int .i64 (j:Int),.int .u8 (x:Int)] _ _ ?nn) ?one ?b1 ?b2 ?b3 ?_)
       case hown=>exact World.ownsRow.alloc M1.o.row _
       case nn=>simp
       case one=>simp[Value.oneCell']
       case b1=>unfold maxLen;omega
       case b2=>omega
       case b3=>simp;omega
       intro v5 w5 ho5 hg5 hn5 hl5
       have M5:=(M1.o.item ((Fr.refl _ _).alloc _) hg5 ho5 hl5 1).1
       have B5:=M1.o.itemCell ((Fr.refl _ _).alloc _) hg5
       have e5:=B5.c1
       have f5:=B5.thaw 1
       obtain⟨g5,cap5,rfl⟩:=zk_ ho5 (by omega)
       clear hg5 hl5 hn5 ho5 B5
       replace M5:=q_ M5)
     |(go_at_call 156;refine(yy_ M5.o.here hs hlt hy.o (by omega) (by decide)).mono ?_;rintro e w6 ⟨rfl,hf6,h6⟩;have M5':=M5.o.call h6 hf6;clear M5;have M5:=q_ M5';clear M5' hf6 h6))
    have u0:=M5.o.b.cell 0;have u1:=M5.o.b.cell 1;have u2:=M5.o.b.cell 2;simp only[bs_,bt_,aa_,ac_] at u0 u1 u2;obtain⟨wd,hwd⟩:∃ W,W=(w6).drew:=⟨_,rfl⟩;have hd6:ze_ (w6) wd:=hwd▸ze_.drew _;have M9:=M5.o.call (M5.o.here.still hd6) ((Fr.refl _ _).still hd6);have hC9:=q_ (y4_ (c:=41) 41 M9.here (hG.o.fr M9.fr (Ne.symm hne)) hne hs hlt rfl (by decide));replace M9:=q_ M9;refine yp_ 5 (λ W=>W.cell? ⟨b0,0,none⟩=some (.int .i64 (p:Int))/\W.cell? ⟨b0,1,none⟩=some (.slice (some ⟨g5,0,none⟩) (l.length+1) cap5)/\W.cell? ⟨b0,2,none⟩=some (.pointer none)) (by kernel_rfl) ?_;refine ta_ 0 rfl (by kernel_rfl) (λ _ _ _ h=>h) (by rintro W ⟨h1,h2,h3⟩;go_simp<;>rfl) ?_;refine ta_ 1 rfl (by kernel_rfl) (λ _ _ _ h=>h) (by rintro W ⟨h1,h2,h3⟩;go_simp<;>rfl) ?_;refine ta_ 2 rfl (by kernel_rfl) (λ _ _ _ h=>h) (by rintro W ⟨h1,h2,h3⟩;go_simp<;>rfl) ?_;refine zg_ 3 rfl (by kernel_rfl) (λ _=>⟨u0,u1,u2⟩) (λ K hK=>?_);go_simp;rw[<- hwd];refine hC9.o.mono ?_;rintro e w8 ⟨v8,rfl,hf8,hE⟩;refine hK _ _ ?_;clear hK K
    have M8':∃ j8,j8<=s.size/\AM w bp s j8 b0 [.int .i64 (p:Int),(.slice (some ⟨g5,0,none⟩) (l.length+1) cap5),.pointer none] 268 217 2 (.slice (some ⟨g5,0,none⟩) (l.length+1) cap5) (l.length+1) (yg_ l++[.int .i64 (j:Int),.int .u8 (x:Int)]) w8:=by
     rcases hE with⟨_,_,h8,hl8⟩|⟨_,_,h8⟩
     ·exact⟨_,hl8,M9.o.call h8 hf8⟩
     ·exact⟨_,hlt,M9.o.call h8 hf8⟩
    obtain⟨j8,hj8,M8'⟩:=M8';obtain⟨x0,x1,x2⟩:=M8'.b.d3;refine zg_ 4 rfl (by kernel_rfl) (λ _=>⟨x0,x1,x2⟩) (λ K hK=>?_);go_simp;refine hK _ _ ?_;clear hK K;refine zg_ 5 rfl (by kernel_rfl) (λ _=>⟨x0,x1,x2⟩) (λ K hK=>?_);go_simp;refine hK _ _ ?_;clear hK K;refine yc_ (by kernel_rfl) (λ hm=>absurd hm (by decide)) ?_ _;replace M8':=q_ M8';replace hE:=q_ hE;replace hf8:=q_ hf8;clear x0 x1 x2 u0 u1 u2
    go_wp2_with fail
    try go_ret
    rw[Q_.o];refine⟨.iface 268 (.agg #[.int .i64 (p:Int),(.slice (some ⟨g5,0,none⟩) (l.length+1) cap5),.pointer none]),v8,.inr ⟨_,_,rfl⟩,rfl,M8'.o.fr,?_⟩;have hs9:=M9.o.fr.size;have hw0':=M9.o.w0;rw[hfin.o]
    rcases hE.o with⟨hb,rfl,h8,hl8⟩|⟨hb,hF,h8⟩
    ·rw[if_pos hb];exact⟨rfl,h8,zlh M8'.o rfl⟩
    ·rw[if_neg hb];exact⟨hF.less hs9,_,hlt,h8⟩
   case pos=>
   subst h33;have hlt2:j+1+1<=s.size:=zl_ (s:=s) (i:=j+1) (by omega)
   have hn44:(33:Nat)≠44:=by decide
   obtain⟨q2,hq2⟩:∃ q,q=j+1+1:=⟨_,rfl⟩;obtain⟨z,hz⟩:∃ z,bt s (q2)=z:=⟨_,rfl⟩
   cases hsm2:zn_ z with
   | false=>
    have hfin:=q_ (show za0 s i=.error q2 by rw[hpf];unfold finE;rw[hy,if_pos rfl,show j+1+1=q2 from hq2.symm,hz,hsm2];rfl);rw[<- hq2] at hlt2;replace hq2:=q_ hq2;replace hsm2:=q_ (show zn_ (bt s (q2))=false by rw[hz];exact hsm2);replace hy:=q_ hy;replace hz:=q_ hz;clear hpf
    go_wp2_with (first
     |(go_at_call 247;refine hC.o.mono ?_;rintro e w2 ⟨a,b,ev,rfl,hf2,hm⟩;obtain⟨rfl,rfl,rfl,h2⟩:a=(j:Int)/\b=(x:Int)/\ev=.nilIface/\PAt w2 bp s (j+1):=(by rcases hm with⟨_,q1,q2,q3,q4,_⟩|⟨hq,_⟩;(exact⟨q1,q2.trans (by rw[hx.o]),q3,q4⟩);exact absurd (hsm.o.symm.trans hq) (by decide));have M1:=(M.o.call h2 hf2).alloc (.cells #[.int .i64 (j:Int),.int .u8 (x:Int)] 217);have N1:=Blk.new w2 #[.int .i64 (j:Int),.int .u8 (x:Int)] 217;have t1:=M1.b.c1;have n0:=N1.c0;have n1:=N1.c1;have hbB1:=(M.o.call h2 hf2).hB;replace M1:=q_ M1;clear h2 hf2 N1 hm)
     |(at_builtin;go_must (refine wpList_append_own_at _ rfl _ _ 265 rfl (b0+1) 217 ti _ 2 16 zbk hi1 hi2 hi3 hi4 rfl (by decide) (.slice sa l.length sc) l.length (yg_ l) rfl ?hown _ 1 1 [.int .i64 (j:Int),.int .u8 (x:Int)] rfl rfl (yh_ _ #[.int .i64 (j:Int),.int .u8 (x:Int)] _ _ ?nn) ?one ?b1 ?b2 ?b3 ?_)
       case hown=>exact World.ownsRow.alloc M1.o.row _
       case nn=>simp
       case one=>simp[Value.oneCell']
       case b1=>unfold maxLen;omega
       case b2=>omega
       case b3=>simp;omega
       intro v5 w5 ho5 hg5 hn5 hl5
       have M5:=(M1.o.item ((Fr.refl _ _).alloc _) hg5 ho5 hl5 1).1
       have B5:=M1.o.itemCell ((Fr.refl _ _).alloc _) hg5
       have e5:=B5.c1
       have f5:=B5.thaw 1
       obtain⟨g5,cap5,rfl⟩:=zk_ ho5 (by omega)
       clear hg5 hl5 hn5 ho5 B5
       replace M5:=q_ M5)
     |(go_at_call 156;refine(yt_ M5.o.here hs hlt hy.o (by decide) (by decide)).mono ?_;rintro e w6 ⟨rfl,hf6,h6⟩;have M6:=M5.o.call h6 hf6;rw[<- hq2.o] at M6;have hC6:=q_ (xx_ M6.here (hG.o.fr M6.fr (Ne.symm hne)) hne hs hlt2);replace M6:=q_ M6;clear hf6 h6)
     |(go_at_call 156;refine(yy_ M5.o.here hs hlt hy.o (by omega) (by decide)).mono ?_;rintro e w6 ⟨rfl,hf6,h6⟩;have M5':=M5.o.call h6 hf6;clear M5;have M5:=q_ M5';clear M5' hf6 h6)
     |(go_at_call 247;refine hC6.o.mono ?_;rintro e w7 ⟨a,b,ev,rfl,hf7,hm⟩;obtain⟨g,hg1,rfl,hg2,h7⟩:∃ g,w6.heap.size<=g/\ev=.iface 210 (.pointer (some ⟨g,0,none⟩))/\Blk w7 g [.int .i64 (q2:Int),.iface et ex] 212/\PAt w7 bp s q2:=(by rcases hm with⟨hq,_⟩|⟨_,⟨g,q1,q2,q3⟩,q4⟩;(exact absurd (hsm2.o.symm.trans hq) (by decide));exact⟨g,q1,q2,q3,q4⟩);replace hf7:=q_ hf7;replace hg2:=q_ hg2;replace h7:=q_ h7))
    try go_ret
    rw[Q_.o];refine⟨.nilIface,_,.inl rfl,rfl,(M6.o.fr.trans hf7.o u_).alloc _,?_⟩;rw[hfin.o];have hs6:=M6.o.fr.size;exact⟨⟨g,ah_ hs6 hg1,rfl,hg2.o.alloc _⟩,_,hlt2,Blk.alloc h7.o _⟩
   | true=>
    have hlt3:q2+1<=s.size:=zl_ (ve_ (by rw[hz];exact hsm2));have hfin:=q_ (show za0 s i=if bt s (q2+1)=41 then .ok ((l++[(x,j)],some (z,q2)),q2+1+1) else .error (q2+1) by rw[hpf];unfold finE;rw[hy,if_pos rfl,show j+1+1=q2 from hq2.symm,hz,hsm2,if_pos rfl,show j+1+2=q2+1 by omega,show j+1+3=q2+1+1 by omega]);rw[<- hq2] at hlt2;replace hq2:=q_ hq2;replace hsm2:=q_ (show zn_ (bt s (q2))=true by rw[hz];exact hsm2);replace hy:=q_ hy;replace hz:=q_ hz;clear hpf
    go_wp2_with (first
     |(go_at_call 247;refine hC.o.mono ?_;rintro e w2 ⟨a,b,ev,rfl,hf2,hm⟩;obtain⟨rfl,rfl,rfl,h2⟩:a=(j:Int)/\b=(x:Int)/\ev=.nilIface/\PAt w2 bp s (j+1):=(by rcases hm with⟨_,q1,q2,q3,q4,_⟩|⟨hq,_⟩;(exact⟨q1,q2.trans (by rw[hx.o]),q3,q4⟩);exact absurd (hsm.o.symm.trans hq) (by decide));have M1:=(M.o.call h2 hf2).alloc (.cells #[.int .i64 (j:Int),.int .u8 (x:Int)] 217);have N1:=Blk.new w2 #[.int .i64 (j:Int),.int .u8 (x:Int)] 217;have t1:=M1.b.c1;have n0:=N1.c0;have n1:=N1.c1;have hbB1:=(M.o.call h2 hf2).hB;replace M1:=q_ M1;clear h2 hf2 N1 hm)
     |(at_builtin;go_must (refine wpList_append_own_at _ rfl _ _ 265 rfl (b0+1) 217 ti _ 2 16 zbk hi1 hi2 hi3 hi4 rfl (by decide) (.slice sa l.length sc) l.length (yg_ l) rfl ?hown _ 1 1 [.int .i64 (j:Int),.int .u8 (x:Int)] rfl rfl (yh_ _ #[.int .i64 (j:Int),.int .u8 (x:Int)] _ _ ?nn) ?one ?b1 ?b2 ?b3 ?_)
       case hown=>exact World.ownsRow.alloc M1.o.row _
       case nn=>simp
       case one=>simp[Value.oneCell']
       case b1=>unfold maxLen;omega
       case b2=>omega
       case b3=>simp;omega
       intro v5 w5 ho5 hg5 hn5 hl5
       have M5:=(M1.o.item ((Fr.refl _ _).alloc _) hg5 ho5 hl5 1).1
       have B5:=M1.o.itemCell ((Fr.refl _ _).alloc _) hg5
       have e5:=B5.c1
       have f5:=B5.thaw 1
       obtain⟨g5,cap5,rfl⟩:=zk_ ho5 (by omega)
       clear hg5 hl5 hn5 ho5 B5
       replace M5:=q_ M5)
     |(go_at_call 156;refine(yt_ M5.o.here hs hlt hy.o (by decide) (by decide)).mono ?_;rintro e w6 ⟨rfl,hf6,h6⟩;have M6:=M5.o.call h6 hf6;rw[<- hq2.o] at M6;have hC6:=q_ (xx_ M6.here (hG.o.fr M6.fr (Ne.symm hne)) hne hs hlt2);replace M6:=q_ M6;clear hf6 h6)
     |(go_at_call 156;refine(yy_ M5.o.here hs hlt hy.o (by omega) (by decide)).mono ?_;rintro e w6 ⟨rfl,hf6,h6⟩;have M5':=M5.o.call h6 hf6;clear M5;have M5:=q_ M5';clear M5' hf6 h6)
     |(go_at_call 247;refine hC6.o.mono ?_;rintro e w7 ⟨a,b,ev,rfl,hf7,hm⟩;obtain⟨rfl,rfl,rfl,h7⟩:a=(q2:Int)/\b=(z:Int)/\ev=.nilIface/\PAt w7 bp s (q2+1):=(by rcases hm with⟨_,q1,q2,q3,q4,_⟩|⟨hq,_⟩;(exact⟨q1,q2.trans (by rw[hz.o]),q3,q4⟩);exact absurd (hsm2.o.symm.trans hq) (by decide));have M7:=(M6.o.call h7 hf7).alloc (.cells #[.int .i64 (q2:Int),.int .u8 (z:Int)] 217);have N7:=Blk.new w7 #[.int .i64 (q2:Int),.int .u8 (z:Int)] 217;have k2:=M7.b.cell 2;have kg:=M7.b.thaw 2;simp only[bs_,bt_,aa_,ac_] at k2;have hb7:=(M6.o.call h7 hf7).hB;have M8:=M7.put 2 (.pointer (some ⟨w7.heap.size,0,none⟩));have N8:=q_ (Blk.other N7 (a:=⟨b0,2,none⟩) (.pointer (some ⟨w7.heap.size,0,none⟩)) (by show ¬ (w7.heap.size=b0);omega));replace M8:=q_ M8;clear h7 hf7 N7 hm M7))
    have u0:=M8.o.b.cell 0;have u1:=M8.o.b.cell 1;have u2:=M8.o.b.cell 2;simp only[bs_,bt_,aa_,ac_] at u0 u1 u2;obtain⟨wd,hwd⟩:∃ W,W=((w7.alloc (.cells #[.int .i64 (q2:Int),.int .u8 (z:Int)] 217)).setCell ⟨b0,2,none⟩ (.pointer (some ⟨w7.heap.size,0,none⟩))).drew:=⟨_,rfl⟩;have hd6:ze_ ((w7.alloc (.cells #[.int .i64 (q2:Int),.int .u8 (z:Int)] 217)).setCell ⟨b0,2,none⟩ (.pointer (some ⟨w7.heap.size,0,none⟩))) wd:=hwd▸ze_.drew _;have M9:=M8.o.call (M8.o.here.still hd6) ((Fr.refl _ _).still hd6);have hC9:=q_ (y4_ (c:=41) 41 M9.here (hG.o.fr M9.fr (Ne.symm hne)) hne hs hlt3 rfl (by decide));replace M9:=q_ M9;refine yp_ 5 (λ W=>W.cell? ⟨b0,0,none⟩=some (.int .i64 (p:Int))/\W.cell? ⟨b0,1,none⟩=some (.slice (some ⟨g5,0,none⟩) (l.length+1) cap5)/\W.cell? ⟨b0,2,none⟩=some (.pointer (some ⟨w7.heap.size,0,none⟩))) (by kernel_rfl) ?_;refine ta_ 0 rfl (by kernel_rfl) (λ _ _ _ h=>h) (by rintro W ⟨h1,h2,h3⟩;go_simp<;>rfl) ?_;refine ta_ 1 rfl (by kernel_rfl) (λ _ _ _ h=>h) (by rintro W ⟨h1,h2,h3⟩;go_simp<;>rfl) ?_;refine ta_ 2 rfl (by kernel_rfl) (λ _ _ _ h=>h) (by rintro W ⟨h1,h2,h3⟩;go_simp<;>rfl) ?_;refine zg_ 3 rfl (by kernel_rfl) (λ _=>⟨u0,u1,u2⟩) (λ K hK=>?_);go_simp;rw[<- hwd];refine hC9.o.mono ?_;rintro e w8 ⟨v8,rfl,hf8,hE⟩;refine hK _ _ ?_;clear hK K
    have M8':∃ j8,j8<=s.size/\AM w bp s j8 b0 [.int .i64 (p:Int),(.slice (some ⟨g5,0,none⟩) (l.length+1) cap5),.pointer (some ⟨w7.heap.size,0,none⟩)] 268 217 2 (.slice (some ⟨g5,0,none⟩) (l.length+1) cap5) (l.length+1) (yg_ l++[.int .i64 (j:Int),.int .u8 (x:Int)]) w8:=by
     rcases hE with⟨_,_,h8,hl8⟩|⟨_,_,h8⟩
     ·exact⟨_,hl8,M9.o.call h8 hf8⟩
     ·exact⟨_,hlt3,M9.o.call h8 hf8⟩
    obtain⟨j8,hj8,M8'⟩:=M8';obtain⟨x0,x1,x2⟩:=M8'.b.d3;refine zg_ 4 rfl (by kernel_rfl) (λ _=>⟨x0,x1,x2⟩) (λ K hK=>?_);go_simp;refine hK _ _ ?_;clear hK K;refine zg_ 5 rfl (by kernel_rfl) (λ _=>⟨x0,x1,x2⟩) (λ K hK=>?_);go_simp;refine hK _ _ ?_;clear hK K;refine yc_ (by kernel_rfl) (λ hm=>absurd hm (by decide)) ?_ _;replace M8':=q_ M8';replace hE:=q_ hE;replace hf8:=q_ hf8;clear x0 x1 x2 u0 u1 u2
    go_wp2_with fail
    try go_ret
    rw[Q_.o];refine⟨.iface 268 (.agg #[.int .i64 (p:Int),(.slice (some ⟨g5,0,none⟩) (l.length+1) cap5),.pointer (some ⟨w7.heap.size,0,none⟩)]),v8,.inr ⟨_,_,rfl⟩,rfl,M8'.o.fr,?_⟩;have hs9:=M9.o.fr.size;have hw0':=M9.o.w0;rw[hfin.o]
    rcases hE.o with⟨hb,rfl,h8,hl8⟩|⟨hb,hF,h8⟩
    ·rw[if_pos hb];have hN:Blk w8 w7.heap.size [.int .i64 (q2:Int),.int .u8 (z:Int)] 217:=hf8.o.blk (((Fr.refl _ (λ _=>False)).still hd6).blk N8.o id) (by have:=M.o.lt;omega);exact⟨rfl,h8,zlh M8'.o ⟨w7.heap.size,by omega,rfl,hN⟩⟩
    ·rw[if_neg hb];exact⟨hF.less hs9,_,hlt3,h8⟩
end Go.Proofs.YthmjjpkjgjklmaaGreatDoor
