import Derived.Test.YthmjjpkjgjklmaaGreatDoorW15
import Derived.Test.YthmjjpkjgjklmaaGreatDoorW03
import Derived.Laws.BitsLemmas
import Derived.Test.YthmjjpkjgjklmaaGreatDoorA00
set_option maxHeartbeats 16000000
set_option maxRecDepth 100000
set_option linter.unusedSimpArgs false
open Go.Proofs.Tryz
namespace Go.Proofs.YthmjjpkjgjklmaaGreatDoor
open Go.RowKit
variable {i:Nat}{et:TypeId}{ex:Value}{P:Nat->Prop}
def zl6 (w:World) (bp:Nat) (s:BA) (i:Nat) (et:TypeId) (ex:Value) (e:Ending) (w':World):Prop:=
 ∃ v ev,IfV v/\e=.returned (.tuple #[v,ev])/\Fr w w' (· = bp)/\
 match v8_ s i with
 | .ok (b,j)=>ev=.nilIface/\PAt w' bp s j/\xo_ w' (λ g=>w.heap.size<=g) s b v
 | .error k=>z9_ w' w.heap.size ev (k:Int) (.iface et ex)/\∃ j,j<=s.size/\PAt w' bp s j
theorem zj6 {w:World}{bp:Nat}{s:BA}(h:PAt w bp s i) (hG:Gram w et ex) (hne:bp≠0) (hs:s.size<=300) (hi:i<=s.size) :
 Calls prog 154 #[.pointer (some ⟨bp,0,none⟩)] w (zl6 w bp s i et ex):=by
 obtain⟨POST,Q_⟩:∃ P,H_ (P=zl6 w bp s i et ex):=⟨_,rfl⟩;rw[<- Q_.o];have hbp:=h.lt;have H:=q_ (And.intro h (Fr.refl w (λ x=>x=bp)));replace hG:=q_ hG;clear h
 by_cases h114:bt s i=114
 ·have hlt:i+1<=s.size:=zl_ (s:=s) (i:=i) (by omega);have hp:=q_ (zsg h114);have hx:=q_ h114;clear h114
  go_in
  go_wp2_with (first
   |(go_at_call 153;refine(yl_ H.o.1).mono ?_;rintro e w' ⟨rfl,hw'⟩;rw[hw'])
   |(go_at_call 156;refine(yt_ H.o.1 hs hi hx.o (by decide) (by decide)).mono ?_;rintro e w' ⟨rfl,hf',h'⟩;have H1:=q_ (And.intro h' (H.o.2.trans hf' u_));clear hf' h')
   |(go_at_call 206;refine(zmn (p:=i) H1.o.1 (hG.o.fr H1.o.2 (Ne.symm hne)) hne hs hlt).mono ?_;rintro e w3 ⟨v,ev,hI,rfl,hf3,hm⟩;replace hf3:=q_ hf3;replace hm:=q_ hm;replace hI:=q_ hI))
  try go_ret
  rw[Q_.o];have hsz:=H1.o.2.size;refine⟨v,ev,hI.o,rfl,H1.o.2.trans hf3.o u_,?_⟩;rw[hp.o];have hm':=hm.o
  cases hq:xy_ s (i+1) with
  | error k=>rw[hq] at hm';exact⟨hm'.1.less hsz,hm'.2⟩
  | ok r=>
   obtain⟨fs,j⟩:=r;rw[hq] at hm';exact⟨hm'.1,hm'.2.1,hm'.2.2.mono (λ g _ hg=>ah_ hsz hg)⟩
 ·by_cases h101:bt s i=101
  ·have hlt:i+1<=s.size:=zl_ (s:=s) (i:=i) (by omega);have hp:=q_ (zpx h101);have hx:=q_ h101;clear h101 h114
   go_in
   go_wp2_with (first
    |(go_at_call 153;refine(yl_ H.o.1).mono ?_;rintro e w' ⟨rfl,hw'⟩;rw[hw'])
    |(go_at_call 156;refine(yt_ H.o.1 hs hi hx.o (by decide) (by decide)).mono ?_;rintro e w' ⟨rfl,hf',h'⟩;have H1:=q_ (And.intro h' (H.o.2.trans hf' u_));clear hf' h')
    |(go_at_call 156;refine(yy_ H.o.1 hs hi hx.o (by decide) (by decide)).mono ?_;rintro e w' ⟨rfl,hf',h'⟩;replace H:=q_ (And.intro h' (H.o.2.trans hf' u_));clear hf' h')
    |(go_at_call 207;refine(zr7 (p:=i) H1.o.1 (hG.o.fr H1.o.2 (Ne.symm hne)) hne hs hlt).mono ?_;rintro e w3 ⟨v,ev,hI,rfl,hf3,hm⟩;replace hf3:=q_ hf3;replace hm:=q_ hm;replace hI:=q_ hI))
   try go_ret
   rw[Q_.o];have hsz:=H1.o.2.size;refine⟨v,ev,hI.o,rfl,H1.o.2.trans hf3.o u_,?_⟩;rw[hp.o];have hm':=hm.o
   cases hq:za0 s (i+1) with
   | error k=>rw[hq] at hm';exact⟨hm'.1.less hsz,hm'.2⟩
   | ok r=>
    obtain⟨⟨l,o⟩,j⟩:=r;rw[hq] at hm';exact⟨hm'.1,hm'.2.1,hm'.2.2.mono (λ g _ hg=>ah_ hsz hg)⟩
  ·by_cases h102:bt s i=102
   ·have hlt:i+1<=s.size:=zl_ (s:=s) (i:=i) (by omega);have hp:=q_ (zmv h102);have hx:=q_ h102;clear h101 h114 h102
    go_in
    go_wp2_with (first
     |(go_at_call 153;refine(yl_ H.o.1).mono ?_;rintro e w' ⟨rfl,hw'⟩;rw[hw'])
     |(go_at_call 156;refine(yt_ H.o.1 hs hi hx.o (by decide) (by decide)).mono ?_;rintro e w' ⟨rfl,hf',h'⟩;have H1:=q_ (And.intro h' (H.o.2.trans hf' u_));clear hf' h')
     |(go_at_call 156;refine(yy_ H.o.1 hs hi hx.o (by decide) (by decide)).mono ?_;rintro e w' ⟨rfl,hf',h'⟩;replace H:=q_ (And.intro h' (H.o.2.trans hf' u_));clear hf' h')
     |(go_at_call 208;refine(zpo (p:=(i:Int)) H1.o.1 (hG.o.fr H1.o.2 (Ne.symm hne)) hs hlt).mono ?_;rintro e w3 ⟨v,ev,hI,rfl,hf3,hm⟩;replace hf3:=q_ hf3;replace hm:=q_ hm;replace hI:=q_ hI))
    try go_ret
    rw[Q_.o];have hsz:=H1.o.2.size;refine⟨v,ev,hI.o,rfl,H1.o.2.trans hf3.o u_,?_⟩;rw[hp.o]
    rcases hm.o with⟨q1,q2,rfl,rfl,q3,_⟩|⟨q1,q2,q3⟩
    ·rw[if_pos ⟨q1,q2⟩];exact⟨rfl,q3,.bytes i _⟩
    ·rw[if_neg q1];exact⟨q2.less hsz,_,hlt,q3⟩
   ·have hp:=q_ (zsi h114 h101 h102);obtain⟨x,hx⟩:∃ x,bt s i=x:=⟨_,rfl⟩;rw[hx] at h114 h101 h102;replace hx:=q_ hx
    go_in
    go_wp2_with (first
     |(go_at_call 153;refine(yl_ H.o.1).mono ?_;rintro e w' ⟨rfl,hw'⟩;rw[hw'])
     |(go_at_call 156;refine(yy_ H.o.1 hs hi hx.o (by omega) (by decide)).mono ?_;rintro e w' ⟨rfl,hf',h'⟩;replace H:=q_ (And.intro h' (H.o.2.trans hf' u_));clear hf' h')
     |(go_at_call 102;refine(x2_ H.o.1 (hG.o.fr H.o.2 (Ne.symm hne))).mono ?_;rintro e w2 ⟨v,rfl,hF,hf2⟩;replace hF:=q_ hF;replace hf2:=q_ hf2))
    try go_ret
    rw[Q_.o];have hsz:=H.o.2.size;refine⟨.nilIface,v,.inl rfl,rfl,H.o.2.trans hf2.o v_,?_⟩;rw[hp.o];exact⟨hF.o.less hsz,i,hi,hf2.o.blk H.o.1 id⟩
def atD (s:BA) (i:Nat):Bool:=z0_ (bt s i)&&decide (i+1<s.size)&&decide (bt s (i+1)=61)
theorem jn_ {w:World}{bp:Nat}{s:BA}(h:PAt w bp s i) (hs:s.size<=300) (hi:i<=s.size) :
 Calls prog 99 #[.pointer (some ⟨bp,0,none⟩)] w λ e w'=>e=.returned (.bool (atD s i))/\ze_ w w':=by
 have c0:=h.c0;have c1:=h.c1;obtain⟨x,hx⟩:∃ x,bt s i=x:=⟨_,rfl⟩;have hpk:H_ (∀ q,Calls prog 152 #[.pointer (some ⟨bp,0,none⟩)] (w.drewN q) λ e w'=>e=.returned (.int .u8 (x:Int))/\∃ m,w'=(w.drewN q).drewN m):=q_ (λ q=>by rw[<- hx];exact yf_ (h.still (ze_.drewN w q)) hs hi);have hwi:H_ (∀ (q:Nat) (b:Bool),z0_ x=b->Calls prog 151 #[.int .u8 (x:Int)] (w.drewN q) λ e w'=>e=.returned (.bool b)/\w'=w.drewN q):=q_ (λ q b hb=>by rw[<- hb];exact zcb x _);unfold atD;rw[hx];clear h hx
 cases hn:z0_ x with
 | false=>
  replace hn:=q_ hn
  go_in
  go_wp2_with fail
  go_quiet (first|(go_at_call 152;exact Calls.quiet_of (hpk.o _))|(go_at_call 151;exact Calls.quiet_of_same (hwi.o _ _ hn.o)))
  go_wp2_with fail
  try go_ret
  exact⟨rfl,ze_.drewN _ _⟩
 | true=>
  replace hn:=q_ hn
  by_cases h1:i+1<s.size
  ·obtain⟨k,hk⟩:∃ k,k=i+1:=⟨_,rfl⟩
   have hwp:IntKind.i64.wrap ((i:Int)+1)=(k:Int):=by rw[IntKind.wrap_i64];omega
   rw[<- hk] at h1;rw[<- hk]
   have h1':(k:Int)<(s.size:Int):=by omega
   have hd1:decide ((k:Int)<(s.size:Int))=true:=decide_eq_true h1'
   have hb:(((s[k]'h1).toNat:Int)==61)=decide (bt s k=61):=by
    rw[zbh s k h1]
    by_cases e:(s[k]'h1).toNat=61
    ·rw[e];rfl
    ·rw[decide_eq_false e,beq_eq_false_iff_ne];omega
   have hd:decide (k<s.size)=true:=decide_eq_true h1;clear hk;rw[hd,Bool.true_and,Bool.true_and,<- hb];clear hd hb
   go_in
   go_wp2_with fail
   go_quiet (first|(go_at_call 152;exact Calls.quiet_of (hpk.o _))|(go_at_call 151;exact Calls.quiet_of_same (hwi.o _ _ hn.o)))
   go_wp2_with fail
   try go_ret
   exact⟨rfl,ze_.drewN _ _⟩
  ·have h1':¬ ((i:Int)+1<(s.size:Int)):=by omega
   have hwp:IntKind.i64.wrap ((i:Int)+1)=(i:Int)+1:=by rw[IntKind.wrap_i64];omega
   have hd1:decide ((i:Int)+1<(s.size:Int))=false:=decide_eq_false h1';have hd:decide (i+1<s.size)=false:=decide_eq_false h1;rw[hd,Bool.and_false,Bool.false_and];clear hd
   go_in
   go_wp2_with fail
   go_quiet (first|(go_at_call 152;exact Calls.quiet_of (hpk.o _))|(go_at_call 151;exact Calls.quiet_of_same (hwi.o _ _ hn.o)))
   go_wp2_with fail
   try go_ret
   exact⟨rfl,ze_.drewN _ _⟩
open Go.RowKit
theorem Fr.three (w:World) (b:Nat) (v0 v1 v2:Value):Fr w (((w.setCell ⟨b,0,none⟩ v0).setCell ⟨b,1,none⟩ v1).setCell ⟨b,2,none⟩ v2) (λ g=>g=b):=
 (((Fr.refl w (λ g=>g=b)).setCell ⟨b,0,none⟩ v0 (λ _=>rfl)).setCell ⟨b,1,none⟩ v1 (λ _=>rfl)).setCell ⟨b,2,none⟩ v2 (λ _=>rfl)
theorem Blk.three {w:World}{b t:Nat}{u0 u1 u2:Value}(h:Blk w b [u0,u1,u2] t) (v0 v1 v2:Value):Blk (((w.setCell ⟨b,0,none⟩ v0).setCell ⟨b,1,none⟩ v1).setCell ⟨b,2,none⟩ v2) b [v0,v1,v2] t:=
 ((h.set 0 v0).set 1 v1).set 2 v2
theorem xo_.iface {w:World}{s:BA}{b:PB}{v:Value}(h:xo_ w P s b v):∃ T x,v=.iface T x:=by
 cases h<;>exact⟨_,_,rfl⟩
theorem PAt.two {w:World}{bp:Nat}{s:BA}(h:PAt w bp s i):PAt (w.setCell ⟨bp,1,none⟩ (.int .i64 ((i:Int)+2))) bp s (i+2):=Blk.set h 1 _
def zuv (w:World) (bp:Nat) (s:BA) (i:Nat) (et:TypeId) (ex:Value) (e:Ending) (w':World):Prop:=
 ∃ (a b:Int) (c ev:Value),e=.returned (.tuple #[.agg #[.int .i64 a,.int .u8 b,c],ev])/\IfV c/\Fr w w' (· = bp)/\
 match v8_ s (i+2) with
 | .ok (pb,j)=>if bt s j=59 then ev=.nilIface/\PAt w' bp s (j+1)/\j<s.size/\a=(i:Int)/\b=(bt s i:Int)/\xo_ w' (λ g=>w.heap.size<=g) s pb c else z9_ w' w.heap.size ev (j:Int) (.iface et ex)/\∃ j,j<=s.size/\PAt w' bp s j
 | .error k=>z9_ w' w.heap.size ev (k:Int) (.iface et ex)/\∃ j,j<=s.size/\PAt w' bp s j
theorem zif {w:World}{bp:Nat}{s:BA}(h:PAt w bp s i) (hG:Gram w et ex) (hne:bp≠0) (hs:s.size<=300) (hi:i+2<=s.size) (hjl:∀ pb j,v8_ s (i+2)=.ok (pb,j)->j<=s.size) :
 Calls prog 100 #[.pointer (some ⟨bp,0,none⟩)] w (zuv w bp s i et ex):=by
 obtain⟨POST,Q_⟩:∃ P,H_ (P=zuv w bp s i et ex):=⟨_,rfl⟩;rw[<- Q_.o];have hbp:=h.lt;have h0:=q_ (show PAt (w.alloc (.cells #[.int .i64 0,.int .u8 0,.nilIface] 204)) bp s i from Blk.alloc h _);have F0:=q_ (show Fr w (w.alloc (.cells #[.int .i64 0,.int .u8 0,.nilIface] 204)) (λ x=>x=bp) from(Fr.refl w _).alloc _);have B0:=q_ (Blk.new w #[.int .i64 0,.int .u8 0,.nilIface] 204);have hz0:=q_ (by simp:(w.alloc (.cells #[.int .i64 0,.int .u8 0,.nilIface] 204)).heap.size=w.heap.size+1);have hGw:=q_ hG
 have hi':i<=s.size:=by omega
 clear h hG;obtain⟨x,hx⟩:∃ x,bt s i=x:=⟨_,rfl⟩;replace hx:=q_ hx
 cases hp:v8_ s (i+2) with
 | error k=>
  replace hp:=q_ hp;clear hjl
  go_in
  go_wp2_with (first
   |(go_at_call 153;refine(yl_ h0.o).mono ?_;rintro e w' ⟨rfl,hw'⟩;rw[hw'];clear hw')
   |(go_at_call 152;refine(yf_ h0.o hs hi').mono ?_;rintro e w1 ⟨rfl,hw1⟩;rw[hx.o];have h1:=h0.o.still hw1;have F1:=(Fr.refl (w.alloc (.cells #[.int .i64 0,.int .u8 0,.nilIface] 204)) (λ g=>g=bp)).still hw1;have P1:=Blk.alloc h1 (.cells #[.int .i64 (i:Int),.int .u8 (x:Int),.nilIface] 204);have c1:=PAt.c1 P1;have f1:=PAt.thaw P1 1;have hs1:=F1.size;rw[hz0.o] at hs1;have A1:=F1.alloc (.cells #[.int .i64 (i:Int),.int .u8 (x:Int),.nilIface] 204);have hfp:Fr (w1.alloc (.cells #[.int .i64 (i:Int),.int .u8 (x:Int),.nilIface] 204)) ((w1.alloc (.cells #[.int .i64 (i:Int),.int .u8 (x:Int),.nilIface] 204)).setCell ⟨bp,1,none⟩ (.int .i64 ((i:Int)+2))) (λ g=>g=bp):=(Fr.refl _ (λ g=>g=bp)).setCell ⟨bp,1,none⟩ _ (λ _=>rfl);have R2:=hfp.blk (A1.blk B0.o (by omega)) (by omega);have E2:=hfp.blk (Blk.new w1 #[.int .i64 (i:Int),.int .u8 (x:Int),.nilIface] 204) (by omega);have P2:=PAt.two P1;have F2:=(F0.o.trans A1 u_).trans hfp u_;have G2:=hGw.o.fr F2 (Ne.symm hne);have hz2:=q_ ((by simp):((w1.alloc (.cells #[.int .i64 (i:Int),.int .u8 (x:Int),.nilIface] 204)).setCell ⟨bp,1,none⟩ (.int .i64 ((i:Int)+2))).heap.size=w1.heap.size+1);replace R2:=q_ R2;replace E2:=q_ E2;replace P2:=q_ P2;replace F2:=q_ F2;replace G2:=q_ G2;clear h1 F1 A1 hfp hw1;replace P1:=q_ P1)
   |(go_at_call 154;refine(zj6 P2.o G2.o hne hs hi).mono ?_;rintro e w3 ⟨v,ev,hI,rfl,hf3,hm⟩;rw[hp.o] at hm;obtain⟨⟨g,hg1,rfl,hg2⟩,j3,hj3,h3⟩:=hm;have R3:=hf3.blk R2.o (by omega);obtain⟨r0,r1,r2⟩:=R3.d3;obtain⟨g0,g1,g2⟩:=R3.t3;replace R3:=q_ R3;replace hf3:=q_ hf3;replace hg2:=q_ hg2;replace h3:=q_ h3;clear hI))
  have S2:=Blk.three R3.o (.int .i64 0) (.int .u8 0) .nilIface;obtain⟨q0,q1,q2⟩:=S2.d3;refine bodyPost_ret (v:=.tuple #[.agg #[.int .i64 0,.int .u8 0,.nilIface],.iface 210 (.pointer (some ⟨g,0,none⟩))]) (by simp[results,results100,go_sem,q0,q1,q2]) rfl ?_;rw[Q_.o];have h4:=Fr.three w3 w.heap.size (.int .i64 0) (.int .u8 0) .nilIface;have hz:=hz2.o;refine⟨0,0,.nilIface,_,rfl,.inl rfl,(F2.o.trans hf3.o u_).trans h4 (λ y hy e=>by omega),?_⟩;rw[hp.o];exact⟨⟨g,by omega,rfl,h4.blk hg2.o (by omega)⟩,j3,hj3,h4.blk h3.o (by omega)⟩
 | ok r=>
  obtain⟨pb,j⟩:=r;have hj:j<=s.size:=hjl pb j hp;clear hjl;replace hp:=q_ hp
  go_in
  go_wp2_with (first
   |(go_at_call 153;refine(yl_ h0.o).mono ?_;rintro e w' ⟨rfl,hw'⟩;rw[hw'];clear hw')
   |(go_at_call 152;refine(yf_ h0.o hs hi').mono ?_;rintro e w1 ⟨rfl,hw1⟩;rw[hx.o];have h1:=h0.o.still hw1;have F1:=(Fr.refl (w.alloc (.cells #[.int .i64 0,.int .u8 0,.nilIface] 204)) (λ g=>g=bp)).still hw1;have P1:=Blk.alloc h1 (.cells #[.int .i64 (i:Int),.int .u8 (x:Int),.nilIface] 204);have c1:=PAt.c1 P1;have f1:=PAt.thaw P1 1;have hs1:=F1.size;rw[hz0.o] at hs1;have A1:=F1.alloc (.cells #[.int .i64 (i:Int),.int .u8 (x:Int),.nilIface] 204);have hfp:Fr (w1.alloc (.cells #[.int .i64 (i:Int),.int .u8 (x:Int),.nilIface] 204)) ((w1.alloc (.cells #[.int .i64 (i:Int),.int .u8 (x:Int),.nilIface] 204)).setCell ⟨bp,1,none⟩ (.int .i64 ((i:Int)+2))) (λ g=>g=bp):=(Fr.refl _ (λ g=>g=bp)).setCell ⟨bp,1,none⟩ _ (λ _=>rfl);have R2:=hfp.blk (A1.blk B0.o (by omega)) (by omega);have E2:=hfp.blk (Blk.new w1 #[.int .i64 (i:Int),.int .u8 (x:Int),.nilIface] 204) (by omega);have P2:=PAt.two P1;have F2:=(F0.o.trans A1 u_).trans hfp u_;have G2:=hGw.o.fr F2 (Ne.symm hne);have hz2:=q_ ((by simp):((w1.alloc (.cells #[.int .i64 (i:Int),.int .u8 (x:Int),.nilIface] 204)).setCell ⟨bp,1,none⟩ (.int .i64 ((i:Int)+2))).heap.size=w1.heap.size+1);replace R2:=q_ R2;replace E2:=q_ E2;replace P2:=q_ P2;replace F2:=q_ F2;replace G2:=q_ G2;clear h1 F1 A1 hfp hw1;replace P1:=q_ P1)
   |(go_at_call 154;refine(zj6 P2.o G2.o hne hs hi).mono ?_;rintro e w3 ⟨v,ev,hI,rfl,hf3,hm⟩;rw[hp.o] at hm;obtain⟨rfl,h3,hv⟩:=hm;obtain⟨vT,vx,rfl⟩:=hv.iface;have hs3:=hf3.size;rw[hz2.o] at hs3;have R3:=hf3.blk R2.o (by omega);have E3:=hf3.blk E2.o (by omega);have k2:=E3.c2;have kg:=E3.thaw 2;have hfs:Fr w3 (w3.setCell ⟨w1.heap.size,2,none⟩ (.iface vT vx)) (λ g=>g=w1.heap.size):=(Fr.refl w3 (λ g=>g=w1.heap.size)).setCell ⟨w1.heap.size,2,none⟩ _ (λ _=>rfl);have E4:=E3.set 2 (.iface vT vx);have R4:=hfs.blk R3 (by omega);have P4:=hfs.blk h3 (by omega);have V4:=(hv.mono (Q:=λ g=>w1.heap.size<g) (λ g _ hg=>by have:=hz2.o;omega)).fr hfs (λ g hg e=>by omega);have F4:=(F2.o.trans hf3 u_).trans hfs (λ y hy e=>by omega);have G4:=q_ (hGw.o.fr F4 (Ne.symm hne));replace E4:=q_ E4;replace R4:=q_ R4;replace P4:=q_ (show PAt _ bp s j from P4);replace V4:=q_ V4;replace F4:=q_ F4;clear hI hf3 h3 hv R3 E3 hfs))
  have u0:=E4.o.cell 0;have u1:=E4.o.cell 1;have u2:=E4.o.cell 2;simp only[bs_,bt_,aa_,ac_] at u0 u1 u2;obtain⟨w4,hw4⟩:∃ W,W=w3.setCell ⟨w1.heap.size,2,none⟩ (.iface vT vx):=⟨_,rfl⟩;rw[<- hw4] at u0 u1 u2⊢;rw[<- hw4] at E4 R4 P4 V4 F4 G4;clear hw4 k2 kg;have hC:=q_ (y4_ (c:=59) 59 (P4.o.still (ze_.drew w4)) (G4.o.fr ((Fr.refl w4 (λ _=>False)).still (ze_.drew w4)) id) hne hs hj rfl (by decide));have hs4:=F4.o.size;have hr4:=R4.o.lt;refine yp_ 4 (λ W=>W.cell? ⟨w1.heap.size,0,none⟩=some (.int .i64 (i:Int))/\W.cell? ⟨w1.heap.size,1,none⟩=some (.int .u8 (x:Int))/\W.cell? ⟨w1.heap.size,2,none⟩=some (.iface vT vx)) (by kernel_rfl) ?_;refine ta_ 0 rfl (by kernel_rfl) (λ _ _ _ h=>h) (by rintro W ⟨h1,h2,h3⟩;go_simp<;>rfl) ?_;refine ta_ 1 rfl (by kernel_rfl) (λ _ _ _ h=>h) (by rintro W ⟨h1,h2,h3⟩;go_simp<;>rfl) ?_;refine zg_ 2 rfl (by kernel_rfl) (λ _=>⟨u0,u1,u2⟩) (λ K hK=>?_);go_simp;refine hC.o.mono ?_;rintro e w8 ⟨v8,rfl,hf8,hE⟩;refine hK _ _ ?_;clear hK K;have hf8':Fr w4 w8 (λ g=>g=bp):=((Fr.refl w4 _).still (ze_.drew w4)).trans hf8 u_;have E8:=hf8'.blk E4.o (by omega);have R8:=hf8'.blk R4.o (by omega);have x0:=E8.cell 0;have x1:=E8.cell 1;have x2:=E8.cell 2;have r0:=R8.cell 0;have r1:=R8.cell 1;have r2:=R8.cell 2;obtain⟨g0,g1,g2⟩:=R8.t3;simp only[bs_,bt_,aa_,ac_] at x0 x1 x2 r0 r1 r2;have h4:=Fr.three w8 w.heap.size (.int .i64 (i:Int)) (.int .u8 (x:Int)) (.iface vT vx);have E9:=h4.blk E8 (by omega);have z0:=E9.cell 0;have z1:=E9.cell 1;have z2:=E9.cell 2;simp only[bs_,bt_,aa_,ac_] at z0 z1 z2;replace hf8':=q_ hf8';replace h4:=q_ h4;replace hE:=q_ hE;replace E8:=q_ E8;replace E9:=q_ E9;refine zg_ 3 rfl (by kernel_rfl) (λ _=>⟨x0,x1,x2⟩) (λ K hK=>?_);go_simp;refine hK _ _ ?_;clear hK K;refine zg_ 4 rfl (by kernel_rfl) (λ _=>⟨z0,z1,z2⟩) (λ K hK=>?_);go_simp;refine hK _ _ ?_;clear hK K;refine yc_ (by kernel_rfl) (λ hm=>absurd hm (by decide)) ?_ _;have S2:=Blk.three R8 (.int .i64 (i:Int)) (.int .u8 (x:Int)) (.iface vT vx);obtain⟨q0,q1,q2⟩:=S2.d3;clear x0 x1 x2 u0 u1 u2 z0 z1 z2 r0 r1 r2 g0 g1 g2
  go_wp2_with fail
  refine bodyPost_ret (v:=.tuple #[.agg #[.int .i64 (i:Int),.int .u8 (x:Int),.iface vT vx],v8]) (by simp[results,results100,go_sem,q0,q1,q2]) rfl ?_;rw[Q_.o];refine⟨(i:Int),(x:Int),.iface vT vx,v8,rfl,.inr ⟨_,_,rfl⟩,(F4.o.trans hf8'.o u_).trans h4.o (λ y hy e=>by omega),?_⟩;rw[hp.o];have hz:=hz2.o;show(if bt s j=59 then _ else _)
  rcases hE.o with⟨hb,rfl,h8,hl8⟩|⟨hb,hF,h8⟩
  ·rw[if_pos hb];exact⟨rfl,h4.o.blk h8 (by omega),hl8,rfl,by rw[hx.o],((V4.o.fr hf8'.o (λ g hg e=>by omega)).fr h4.o (λ g hg e=>by omega)).mono (λ g _ hg=>by omega)⟩
  ·rw[if_neg hb];exact⟨(hF.fr h4.o (λ g hg e=>by have:w4.drew.heap.size=w4.heap.size:=rfl;omega)).less (by have:w4.drew.heap.size=w4.heap.size:=rfl;omega),j,hj,h4.o.blk h8 (by omega)⟩
open Go.RowKit
theorem zms (s:BA):∀ (n i:Nat) (l:List PF) (j:Nat),xb_ s n i=.ok (l,j)->j<=s.size:=by
 intro n
 induction n with
 | zero=>intro i l j h;cases h
 | succ n ih=>
  intro i l j h;unfold xb_ at h;split at h
  ·cases h
  ·rename_i f k hf;split at h
   ·rename_i h41;simp only[af_,ab_] at h;have:=zl_ (s:=s) (i:=k) (by omega);omega
   ·split at h
    ·split at h
     ·cases h
     ·rename_i fs k2 hr;simp only[af_,ab_] at h;have:=ih _ _ _ hr;omega
    ·cases h
theorem ze6 {s:BA}{b:PB}{j:Nat}(h:v8_ s i=.ok (b,j)):j<=s.size:=by
 unfold v8_ at h;split at h
 ·split at h
  ·cases h
  ·rename_i ds k hr;simp only[af_,ab_] at h;obtain⟨_,rfl⟩:=h;unfold xy_ at hr;split at hr
   ·split at hr
    ·rename_i h41;simp only[af_,ab_] at hr;have:=zl_ (s:=s) (i:=i+1+1) (by omega);omega
    ·exact zms s _ _ _ _ hr
   ·cases hr
 ·split at h
  ·split at h
   ·cases h
   ·rename_i l o k hr;simp only[af_,ab_] at h;obtain⟨_,rfl⟩:=h;unfold za0 at hr;split at hr
    ·split at hr
     ·cases hr
     ·rename_i r q hq;split at hr
      ·split at hr
       ·split at hr
        ·simp only[af_,ab_] at hr;have:=zl_ (s:=s) (i:=q+2) (by omega);omega
        ·cases hr
       ·cases hr
      ·split at hr
       ·simp only[af_,ab_] at hr;have:=zl_ (s:=s) (i:=q) (by omega);omega
       ·cases hr
    ·cases hr
  ·split at h
   ·split at h
    ·simp only[af_,ab_] at h;have:=zl_ (s:=s) (i:=i+1) (by omega);omega
    ·cases h
   ·cases h
def zd4 (w:World) (P:Nat->Prop) (s:BA) (ds:List PD) (xs:List Value):Prop:=
 ∀ i d,ds[i]?=some d->∃ c,xs[3*i]?=some (.int .i64 (d.place:Int))/\xs[3*i+1]?=some (.int .u8 (d.letter:Int))/\xs[3*i+2]?=some c/\xo_ w P s d.body c
theorem zd4.mono {w:World}{Q:Nat->Prop}{s:BA}{ds:List PD}{xs:List Value}(h:zd4 w P s ds xs) (hQ:∀ g,g<w.heap.size->P g->Q g):zd4 w Q s ds xs:=λ i f e=>by
 obtain⟨c,h1,h2,h3,h5⟩:=h i f e;exact⟨c,h1,h2,h3,h5.mono hQ⟩
theorem zd4.fr {w w':World}{S:Nat->Prop}{s:BA}{ds:List PD}{xs:List Value}(h:zd4 w P s ds xs) (hf:Fr w w' S) (hS:∀ g,P g->¬ S g):zd4 w' P s ds xs:=λ i f e=>by
 obtain⟨c,h1,h2,h3,h5⟩:=h i f e;exact⟨c,h1,h2,h3,h5.fr hf hS⟩
theorem zd4.snoc {w:World}{s:BA}{ds:List PD}{xs:List Value}{d:PD}{c:Value}(h:zd4 w P s ds xs) (hl:xs.length=ds.length*3) (hc:xo_ w P s d.body c):zd4 w P s (ds++[d]) (xs++[.int .i64 (d.place:Int),.int .u8 (d.letter:Int),c]):=λ i f' e=>by
 by_cases hi:i<ds.length
 ·rw[av_ hi] at e;obtain⟨c',h1,h2,h3,h5⟩:=h i f' e;exact⟨c',by rw[av_ (by omega)];exact h1,by rw[av_ (by omega)];exact h2,by rw[av_ (by omega)];exact h3,h5⟩
 ·have hi':i=ds.length:=by
   have:=(ao_.1 e).1
   simp at this;omega
  subst hi';rw[aw_ l_,Nat.sub_self] at e;simp only[aa_,ad_] at e;subst e;refine⟨c,?_,?_,?_,hc⟩
  ·rw[aw_ (by omega),show 3*ds.length-xs.length=0 by omega];rfl
  ·rw[aw_ (by omega),show 3*ds.length+1-xs.length=1 by omega];rfl
  ·rw[aw_ (by omega),show 3*ds.length+2-xs.length=2 by omega];rfl
def SchV (w:World) (P:Nat->Prop) (s:BA) (ds:List PD) (t:PT) (sv rv:Value):Prop:=
 ∃ xs,w.ownsRow 0 204 3 sv ds.length xs/\(∀ g,sv.ownBlock=some g->P g)/\zd4 w P s ds xs/\TyV w P t rv
def zjb (w:World) (bp:Nat) (s:BA) (et:TypeId) (ex:Value) (e:Ending) (w':World):Prop:=
 ∃ (sv rv ev:Value),e=.returned (.tuple #[.agg #[sv,rv],ev])/\(∃ a n c,sv=.slice a n c)/\IfV rv/\Fr w w' (· = bp)/\
 match zq_ s with
 | .ok (ds,t)=>ev=.nilIface/\SchV w' (λ g=>w.heap.size<=g) s ds t sv rv
 | .error k=>z9_ w' w.heap.size ev (k:Int) (.iface et ex)
theorem zfo {s:BA}{ds:List PD}{j:Nat}(h:xz_ s 6 0=zek ds (xz_ s (6-ds.length) j)) (hl:ds.length<=6) (hn:¬ (ds.length<6/\atD s j=true)) :
 zq_ s=match pT s j with | .error k=>.error k | .ok (t,k)=>if k<s.size then .error k else .ok (ds,t):=by
 unfold zq_;rw[h]
 by_cases h6:ds.length<6
 ·have ha:atD s j=false:=by
   cases hb:atD s j with
   | false=>rfl
   | true=>exact absurd ⟨h6,hb⟩ hn
  rw[show 6-ds.length=(5-ds.length)+1 by omega,zhg];unfold atD at ha
  by_cases hc:z0_ (bt s j)=true/\j+1<s.size
  ·have h61:bt s (j+1)≠61:=λ e=>by rw[hc.1,decide_eq_true hc.2,decide_eq_true e] at ha;cases ha
   rw[if_pos hc,if_neg h61,zr9 (by simpa[z0_] using hc.1)];simp only;rw[if_pos hc.2]
  ·rw[if_neg hc];simp only
   cases pT s j with
   | error k=>rfl
   | ok r=>rfl
 ·rw[show 6-ds.length=0 by omega,xz_,zek,a8_];simp only
  cases pT s j with
  | error k=>rfl
  | ok r=>rfl
structure SMm (w:World) (bp:Nat) (s:BA) (j:Nat) (sv:Value) (ds:List PD) (xs:List Value) (W:World):Prop where
 A:AM w bp s j (w.heap.size+1) [sv,.nilIface] 90 204 3 sv ds.length xs W
 D:zd4 W (λ g=>w.heap.size+1+1<=g/\sv.ownBlock≠some g) s ds xs
 R:Blk W w.heap.size [.slice none 0 0,.nilIface] 90
section
variable {w W W':World} {bp:Nat} {s:BA} {j j':Nat} {sv:Value} {ds:List PD} {xs:List Value}
theorem SMm.call (M:SMm w bp s j sv ds xs W) (h:PAt W' bp s j') (hf:Fr W W' (· = bp)):SMm w bp s j' sv ds xs W':=by
 have h1:=M.A.lt;exact⟨M.A.call h hf,M.D.fr hf (λ g hg e=>by omega),hf.blk M.R (by omega)⟩
theorem SMm.alloc (M:SMm w bp s j sv ds xs W) (o:Obj):SMm w bp s j sv ds xs (W.alloc o):=M.call (Blk.alloc M.A.here o) ((Fr.refl W _).alloc o)
theorem SMm.still (M:SMm w bp s j sv ds xs W) (hW:ze_ W W'):SMm w bp s j sv ds xs W':=M.call (M.A.here.still hW) ((Fr.refl W _).still hW)
theorem SMm.item (M:SMm w bp s j sv ds xs W){o:Obj}{w5:World}{v5 c:Value}{d:PD}(hg:(W.alloc o).grownBy w5 sv.ownBlock) (ho:w5.ownsRow (w.heap.size+1+1) 204 3 v5 (ds.length+1) (xs++[.int .i64 (d.place:Int),.int .u8 (d.letter:Int),c]))
 (hl:v5.ownBlock=sv.ownBlock\/v5.ownBlock=some (W.alloc o).heap.size) (hv:xo_ W (λ g=>w.heap.size+1+1<=g/\sv.ownBlock≠some g) s d.body c) :
 SMm w bp s j v5 (ds++[d]) (xs++[.int .i64 (d.place:Int),.int .u8 (d.letter:Int),c]) (w5.setCell ⟨w.heap.size+1,0,none⟩ v5):=by
 obtain⟨h1,h2,h3⟩:=M.A.item ((Fr.refl W _).alloc o) hg ho hl 0
 have off:∀ g,(w.heap.size+1+1<=g/\sv.ownBlock≠some g)/\g<W.heap.size->¬ (sv.ownBlock=some g\/g=w.heap.size+1):=λ g hg e=>by
  rcases e with e|e
  ·exact hg.1.2 e
  ·have:=hg.1.1;omega
 have on:∀ g,(w.heap.size+1+1<=g/\sv.ownBlock≠some g)/\g<W.heap.size->w.heap.size+1+1<=g/\v5.ownBlock≠some g:=λ g hg=>⟨hg.1.1,λ e=>by
  rcases(h3 g e).2 with q|q
  ·exact hg.1.2 q
  ·have:=hg.2;omega⟩
 refine⟨?_,zd4.snoc (((M.D.mono (Q:=λ g=>(w.heap.size+1+1<=g/\sv.ownBlock≠some g)/\g<W.heap.size) (λ _ a b=>⟨b,a⟩)).fr h2 off).mono (λ g _ hg=>on g hg)) M.A.row.1 (((hv.mono (Q:=λ g=>(w.heap.size+1+1<=g/\sv.ownBlock≠some g)/\g<W.heap.size) (λ _ a b=>⟨b,a⟩)).fr h2 off).mono (λ g _ hg=>on g hg)),h2.blk M.R (λ e=>?_)⟩
 ·rw[al_,ai_];exact h1
 ·rcases e with e|e
  ·have:=M.A.row.lt _ e;omega
  ·omega
end
theorem zxq:Tryz.prog.underlying 86=some (.slice 204):=by kernel_rfl
theorem zz4:(Tryz.prog.info? 204).map (λ i=>(i.zero,i.size,i.bytes))=some (some (.agg #[.int .i64 0,.int .u8 0,.nilIface]),3,32):=by kernel_rfl
def zxh (w:World) (bp:Nat) (s:BA) (m:Nat) (W:World):Prop:=
 ∃ j sv ds xs,SMm w bp s j sv ds xs W/\j<=s.size/\ds.length<=6/\7-ds.length<=m/\xz_ s 6 0=zek ds (xz_ s (6-ds.length) j)
theorem Fr.pair (w:World) (b:Nat) (v0 v1:Value):Fr w ((w.setCell ⟨b,0,none⟩ v0).setCell ⟨b,1,none⟩ v1) (λ g=>g=b):=
 ((Fr.refl w (λ g=>g=b)).setCell ⟨b,0,none⟩ v0 (λ _=>rfl)).setCell ⟨b,1,none⟩ v1 (λ _=>rfl)
theorem Blk.pair {w:World}{b t:Nat}{u0 u1:Value}(h:Blk w b [u0,u1] t) (v0 v1:Value):Blk ((w.setCell ⟨b,0,none⟩ v0).setCell ⟨b,1,none⟩ v1) b [v0,v1] t:=(h.set 0 v0).set 1 v1
theorem vy_ {w W:World}{bp:Nat}{s:BA}{k lo:Nat}{ev:Value}(hk:zq_ s=.error k) (hF:z9_ W lo ev (k:Int) (.iface et ex)) (hf:Fr w W (· = bp)) (hlo:w.heap.size<lo) :
 zjb w bp s et ex (.returned (.tuple #[.agg #[.slice none 0 0,.nilIface],ev])) ((W.setCell ⟨w.heap.size,0,none⟩ (.slice none 0 0)).setCell ⟨w.heap.size,1,none⟩ .nilIface):=by
 have h4:=Fr.pair W w.heap.size (.slice none 0 0) .nilIface;refine⟨_,_,ev,rfl,⟨_,_,_,rfl⟩,.inl rfl,hf.trans h4 (λ x hx e=>by omega),?_⟩;rw[hk];exact(hF.fr h4 (λ g hg e=>by omega)).less (by omega)
theorem zmm {w:World}{bp:Nat}{s:BA}(h:PAt w bp s 0) (hG:Gram w et ex) (hne:bp≠0) (hs:s.size<=300) :
 Calls prog 76 #[.pointer (some ⟨bp,0,none⟩)] w (zjb w bp s et ex):=by
 obtain⟨POST,Q_⟩:∃ P,H_ (P=zjb w bp s et ex):=⟨_,rfl⟩;rw[<- Q_.o];have hbp:=h.lt
 have start:zxh w bp s 7 ((w.alloc (.cells #[.slice none 0 0,.nilIface] 90)).alloc (.cells #[.slice none 0 0,.nilIface] 90)):=by
  refine⟨0,.slice none 0 0,[],[],⟨⟨Blk.alloc (Blk.alloc h _) _,((Fr.refl w _).alloc _).alloc _,hbp,by omega,by simp,?_,World.ownsRow_nil _ _ _ _⟩,λ i d e=>by simp at e,(Blk.new w #[.slice none 0 0,.nilIface] 90).alloc _⟩,aj_ _,by simp,by simp,(zq8 _).symm⟩;have:=Blk.new (w.alloc (.cells #[.slice none 0 0,.nilIface] 90)) #[.slice none 0 0,.nilIface] 90
  simpa using this
 replace start:=q_ start;have hgl:=World.block_lt_of_cell? w ⟨0,0,none⟩ hG;replace hG:=q_ hG;clear h
 go_in
 go_wp2_with fail
 go_loopg [] 7 (λ m W=>zxh w bp s m W)
 case atStart=>exact start.o
 case round=>
  clear start;obtain⟨j,sv,ds,xs,M,hj,hl6,hm,hpd⟩:=hrel;obtain⟨sa,sc,rfl⟩:=zf_ M.A.row;have hsz:=M.A.fr.size;have hbB:=M.A.hB;have s0:=M.A.b.c0;replace M:=q_ M
  by_cases h6:ds.length<6
  ·have h6':(ds.length:Int)<6:=by omega
   cases hat:atD s j with
   | true=>
    have hd:z0_ (bt s j)=true/\j+1<s.size/\bt s (j+1)=61:=by
     unfold atD at hat
     simpa[and_assoc] using hat
    have hj2:j+2<=s.size:=by omega
    rw[show 6-ds.length=(5-ds.length)+1 by omega,zhg,if_pos ⟨hd.1,hd.2.1⟩,if_pos hd.2.2] at hpd;replace hat:=q_ hat;obtain⟨x,hx⟩:∃ x,bt s j=x:=⟨_,rfl⟩;rw[hx] at hpd;replace hx:=q_ hx;clear hd
    cases hp:v8_ s (j+2) with
    | error k=>
     have herr:=q_ (show zq_ s=.error k by unfold zq_;rw[hpd,hp]);replace hp:=q_ hp
     go_wp2_with (first
      |(go_at_call 99;refine(jn_ M.o.A.here hs hj).mono ?_;rintro e w1 ⟨rfl,hw1⟩;rw[hat.o];have M1:=M.o.still hw1;have hC1:=q_ (zif M1.A.here (hG.o.fr M1.A.fr (Ne.symm hne)) hne hs hj2 (λ pb q e=>ze6 e));have hbB1:=M1.A.hB;replace M1:=q_ M1)
      |(go_at_call 100;refine hC1.o.mono ?_;rintro e w2 ⟨a,b,c,ev,rfl,hIc,hf2,hm⟩;rw[hp.o] at hm;obtain⟨⟨g,hg1,rfl,hg2⟩,_⟩:=hm;rcases hIc with rfl|⟨cT,cx,rfl⟩;have R3:=(hf2.blk M1.o.R (by omega)).alloc (.cells #[.int .i64 a,.int .u8 b,.nilIface] 204);have r0:=R3.c0;have r1:=R3.c1;have g0:=R3.thaw 0;have g1:=R3.thaw 1;replace R3:=q_ R3;replace hf2:=q_ hf2;replace hg2:=q_ hg2;rotate_left;have R3:=(hf2.blk M1.o.R (by omega)).alloc (.cells #[.int .i64 a,.int .u8 b,.iface cT cx] 204);have r0:=R3.c0;have r1:=R3.c1;have g0:=R3.thaw 0;have g1:=R3.thaw 1;replace R3:=q_ R3;replace hf2:=q_ hf2;replace hg2:=q_ hg2))
     all_goals
      have S2:=Blk.pair R3.o (.slice none 0 0) .nilIface;have q0:=S2.c0;have q1:=S2.c1;refine bodyPost_ret (v:=.tuple #[.agg #[.slice none 0 0,.nilIface],.iface 210 (.pointer (some ⟨g,0,none⟩))]) (by simp[results,results76,go_sem,q0,q1]) rfl ?_;rw[Q_.o];exact vy_ herr.o (lo:=w1.heap.size) ⟨g,hg1,rfl,hg2.o.alloc _⟩ ((M1.o.A.fr.trans hf2.o u_).alloc _) (by omega)
    | ok r=>
     obtain⟨pb,j2⟩:=r;rw[hp] at hpd;simp only at hpd
     by_cases h59:bt s j2=59
     ·rw[if_pos h59] at hpd;replace hpd:=q_ hpd;replace hp:=q_ hp;replace h59:=q_ h59;obtain⟨ti,hi1,hi2,hi3,hi4⟩:=info_parts zz4
      go_wp2_with (first
       |(go_at_call 99;refine(jn_ M.o.A.here hs hj).mono ?_;rintro e w1 ⟨rfl,hw1⟩;rw[hat.o];have M1:=M.o.still hw1;have hC1:=q_ (zif M1.A.here (hG.o.fr M1.A.fr (Ne.symm hne)) hne hs hj2 (λ pb q e=>ze6 e));have hbB1:=M1.A.hB;replace M1:=q_ M1)
       |(go_at_call 100;refine hC1.o.mono ?_;rintro e w2 ⟨a,b,c,ev,rfl,hIc,hf2,hm⟩;rw[hp.o] at hm;simp only[] at hm;rw[if_pos h59.o,hx.o] at hm;obtain⟨rfl,h2,hl2,rfl,rfl,hv⟩:=hm;obtain⟨cT,cx,rfl⟩:=hv.iface;have M2:=(M1.o.call h2 hf2).alloc (.cells #[.int .i64 (j:Int),.int .u8 (x:Int),.iface cT cx] 204);have hv2:=q_ ((hv.mono (Q:=λ g=>w.heap.size+1+1<=g/\(Value.slice sa ds.length sc).ownBlock≠some g) (λ g _ hg=>⟨by omega,λ e=>by have:=M1.o.A.row.lt g e;omega⟩)).fr ((Fr.refl w2 (λ _=>False)).alloc (.cells #[.int .i64 (j:Int),.int .u8 (x:Int),.iface cT cx] 204)) u_);have N2:=Blk.new w2 #[.int .i64 (j:Int),.int .u8 (x:Int),.iface cT cx] 204;have t0:=M2.A.b.c0;obtain⟨n0,n1,n2⟩:=N2.d3;have hbB2:=(M1.o.call h2 hf2).A.hB;replace M2:=q_ M2;clear h2 hv N2 hIc hf2)
       |(at_builtin;go_must (refine wpList_append_own_at _ rfl _ _ 86 rfl (w.heap.size+1+1) 204 ti _ 3 32 zxq hi1 hi2 hi3 hi4 rfl (by decide) (.slice sa ds.length sc) ds.length xs rfl ?hown _ 1 1 [.int .i64 (j:Int),.int .u8 (x:Int),.iface cT cx] rfl rfl (yh_ _ #[.int .i64 (j:Int),.int .u8 (x:Int),.iface cT cx] _ _ ?nn) ?one ?b1 ?b2 ?b3 ?_)
         case hown=>exact World.ownsRow.alloc M2.o.A.row _
         case nn=>simp
         case one=>simp[Value.oneCell']
         case b1=>unfold maxLen;omega
         case b2=>omega
         case b3=>simp;omega
         intro v5 w5 ho5 hg5 hn5 hl5
         have M5:=M2.o.item (d:=⟨x,j,pb⟩) hg5 ho5 hl5 hv2.o
         have B5:=M2.o.A.itemCell ((Fr.refl _ _).alloc _) hg5
         have e5:=B5.c0
         have f5:=B5.thaw 0
         obtain⟨g5,cap5,rfl⟩:=zk_ ho5 (by omega)
         clear hg5 hl5 hn5 ho5 B5
         replace M5:=q_ M5))
      go_roundg (7-(ds.length+1))
      case measure=>omega
      case rel=>exact⟨j2+1,_,ds++[⟨x,j,pb⟩],_,M5.o,hl2,by rw[al_,ai_];omega,by rw[al_,ai_];omega,by rw[al_,ai_,show 6-(ds.length+1)=5-ds.length by omega];exact hpd.o⟩
     ·rw[if_neg h59] at hpd;have herr:=q_ (show zq_ s=.error j2 by unfold zq_;rw[hpd]);replace hp:=q_ hp;replace h59:=q_ h59
      go_wp2_with (first
       |(go_at_call 99;refine(jn_ M.o.A.here hs hj).mono ?_;rintro e w1 ⟨rfl,hw1⟩;rw[hat.o];have M1:=M.o.still hw1;have hC1:=q_ (zif M1.A.here (hG.o.fr M1.A.fr (Ne.symm hne)) hne hs hj2 (λ pb q e=>ze6 e));have hbB1:=M1.A.hB;replace M1:=q_ M1)
       |(go_at_call 100;refine hC1.o.mono ?_;rintro e w2 ⟨a,b,c,ev,rfl,hIc,hf2,hm⟩;rw[hp.o] at hm;simp only[] at hm;rw[if_neg h59.o] at hm;obtain⟨⟨g,hg1,rfl,hg2⟩,_⟩:=hm;rcases hIc with rfl|⟨cT,cx,rfl⟩;have R3:=(hf2.blk M1.o.R (by omega)).alloc (.cells #[.int .i64 a,.int .u8 b,.nilIface] 204);have r0:=R3.c0;have r1:=R3.c1;have g0:=R3.thaw 0;have g1:=R3.thaw 1;replace R3:=q_ R3;replace hf2:=q_ hf2;replace hg2:=q_ hg2;rotate_left;have R3:=(hf2.blk M1.o.R (by omega)).alloc (.cells #[.int .i64 a,.int .u8 b,.iface cT cx] 204);have r0:=R3.c0;have r1:=R3.c1;have g0:=R3.thaw 0;have g1:=R3.thaw 1;replace R3:=q_ R3;replace hf2:=q_ hf2;replace hg2:=q_ hg2))
      all_goals
       have S2:=Blk.pair R3.o (.slice none 0 0) .nilIface;have q0:=S2.c0;have q1:=S2.c1;refine bodyPost_ret (v:=.tuple #[.agg #[.slice none 0 0,.nilIface],.iface 210 (.pointer (some ⟨g,0,none⟩))]) (by simp[results,results76,go_sem,q0,q1]) rfl ?_;rw[Q_.o];exact vy_ herr.o (lo:=w1.heap.size) ⟨g,hg1,rfl,hg2.o.alloc _⟩ ((M1.o.A.fr.trans hf2.o u_).alloc _) (by omega)
   | false=>
    have hrest:=q_ (zfo hpd hl6 (by rw[hat];exact λ e=>absurd e.2 (by decide)));replace hat:=q_ hat;clear hpd;obtain⟨R_,hRES⟩:∃ r,pT s j=r:=⟨_,rfl⟩;have hbT:=(v7_ (s:=s) hj)
    cases hp:pT s j with
    | error k=>
     have herr:=q_ (show zq_ s=.error k by rw[hrest.o,hp]);replace hp:=q_ hp
     go_wp2_with (first
      |(go_at_call 99;refine(jn_ M.o.A.here hs hj).mono ?_;rintro e w1 ⟨rfl,hw1⟩;rw[hat.o];have M1:=M.o.still hw1;have hC1:=q_ (zca hs _ j l_ hj _ bp et ex M1.A.here (hG.o.fr M1.A.fr (Ne.symm hne)) hne);have hbB1:=M1.A.hB;replace M1:=q_ M1)
      |(go_at_call 101;refine hC1.o.mono ?_;rintro e w3 ⟨v,ev,_,rfl,hf3,hm⟩;rw[hp.o] at hm;obtain⟨⟨g,hg1,rfl,hg2⟩,_⟩:=hm;have R3:=hf3.blk M1.o.R (by omega);have r0:=R3.c0;have r1:=R3.c1;have g0:=R3.thaw 0;have g1:=R3.thaw 1;replace R3:=q_ R3;replace hf3:=q_ hf3;replace hg2:=q_ hg2))
     have S2:=Blk.pair R3.o (.slice none 0 0) .nilIface;have q0:=S2.c0;have q1:=S2.c1;refine bodyPost_ret (v:=.tuple #[.agg #[.slice none 0 0,.nilIface],.iface 210 (.pointer (some ⟨g,0,none⟩))]) (by simp[results,results76,go_sem,q0,q1]) rfl ?_;rw[Q_.o];have hsz:=M1.o.A.hB;exact vy_ herr.o (lo:=wr.heap.size) ⟨g,by have:=((Fr.refl wr (λ _=>False)).still hw1).size;omega,rfl,hg2.o⟩ (M1.o.A.fr.trans hf3.o u_) (by omega)
    | ok r=>
     obtain⟨t,k⟩:=r;have hk:=hbT.1 t k hp
     by_cases hks:k<s.size
     ·have herr:=q_ (show zq_ s=.error k by rw[hrest.o,hp];simp only;rw[if_pos hks])
      have hks':(k:Int)<(s.size:Int):=by omega
      replace hp:=q_ hp
      go_wp2_with (first
       |(go_at_call 99;refine(jn_ M.o.A.here hs hj).mono ?_;rintro e w1 ⟨rfl,hw1⟩;rw[hat.o];have M1:=M.o.still hw1;have hC1:=q_ (zca hs _ j l_ hj _ bp et ex M1.A.here (hG.o.fr M1.A.fr (Ne.symm hne)) hne);have hbB1:=M1.A.hB;replace M1:=q_ M1)
       |(go_at_call 101;refine hC1.o.mono ?_;rintro e w3 ⟨v,ev,_,rfl,hf3,hm⟩;rw[hp.o] at hm;obtain⟨rfl,h3,hv⟩:=hm;obtain⟨vT,vx,rfl⟩:=hv.iface;have M3:=M1.o.call h3 hf3;have c0:=M3.A.here.c0;have c1:=M3.A.here.c1;have hV:=q_ (hv.mono (Q:=λ g=>w.heap.size+1+1<=g) (λ g _ hg=>by omega));have hs3:=hf3.size;replace M3:=q_ M3;clear hf3 h3 hv))
      go_quiet (fail)
      have M4:=M3.o.still (ze_.drewN w3 nq);generalize hW4:w3.drewN nq=W4 at M4⊢
      have hz4:W4.heap.size=w3.heap.size:=by rw[<- hW4];rfl
      clear hW4;have hC4:=q_ (x2_ M4.A.here (hG.o.fr M4.A.fr (Ne.symm hne)));replace M4:=q_ M4
      go_wp2_with (go_at_call 102;refine hC4.o.mono ?_;rintro e w5 ⟨v5,rfl,⟨g,hg1,rfl,hg2⟩,hf5⟩;have R3:=hf5.blk M4.o.R id;have r0:=R3.c0;have r1:=R3.c1;have g0:=R3.thaw 0;have g1:=R3.thaw 1;replace R3:=q_ R3;replace hf5:=q_ hf5;replace hg2:=q_ hg2)
      have S2:=Blk.pair R3.o (.slice none 0 0) .nilIface;have q0:=S2.c0;have q1:=S2.c1;refine bodyPost_ret (v:=.tuple #[.agg #[.slice none 0 0,.nilIface],.iface 210 (.pointer (some ⟨g,0,none⟩))]) (by simp[results,results76,go_sem,q0,q1]) rfl ?_;rw[Q_.o];have hsz:=M4.o.A.hB;exact vy_ herr.o (lo:=W4.heap.size) ⟨g,hg1,rfl,hg2.o⟩ (M4.o.A.fr.trans hf5.o v_) (by omega)
     ·have hres:=q_ (show zq_ s=.ok (ds,t) by rw[hrest.o,hp];simp only;rw[if_neg hks])
      have hks':¬ ((k:Int)<(s.size:Int)):=by omega
      replace hp:=q_ hp
      go_wp2_with (first
       |(go_at_call 99;refine(jn_ M.o.A.here hs hj).mono ?_;rintro e w1 ⟨rfl,hw1⟩;rw[hat.o];have M1:=M.o.still hw1;have hC1:=q_ (zca hs _ j l_ hj _ bp et ex M1.A.here (hG.o.fr M1.A.fr (Ne.symm hne)) hne);have hbB1:=M1.A.hB;replace M1:=q_ M1)
       |(go_at_call 101;refine hC1.o.mono ?_;rintro e w3 ⟨v,ev,_,rfl,hf3,hm⟩;rw[hp.o] at hm;obtain⟨rfl,h3,hv⟩:=hm;obtain⟨vT,vx,rfl⟩:=hv.iface;have M3:=M1.o.call h3 hf3;have c0:=M3.A.here.c0;have c1:=M3.A.here.c1;have hV:=q_ (hv.mono (Q:=λ g=>w.heap.size+1+1<=g) (λ g _ hg=>by omega));have hs3:=hf3.size;replace M3:=q_ M3;clear hf3 h3 hv))
      go_quiet (fail)
      have M4:=M3.o.still (ze_.drewN w3 nq);have V4:=hV.o.fr ((Fr.refl w3 (λ _=>False)).still (ze_.drewN w3 nq)) u_;generalize hW4:w3.drewN nq=W4 at M4 V4⊢;clear hW4;have M5:=M4.A.put 1 (.iface vT vx);have hfs:Fr W4 (W4.setCell ⟨w.heap.size+1,1,none⟩ (.iface vT vx)) (λ g=>g=w.heap.size+1):=(Fr.refl W4 (λ g=>g=w.heap.size+1)).setCell ⟨w.heap.size+1,1,none⟩ _ (λ _=>rfl);have R3:=hfs.blk M4.R (by omega);have k1:=M4.A.b.cell 1;have kg:=M4.A.b.thaw 1;have e0:=M5.b.cell 0;have e1:=M5.b.cell 1;have r0:=R3.cell 0;have r1:=R3.cell 1;have g0:=R3.thaw 0;have g1:=R3.thaw 1;simp only[bs_,bt_,aa_,ac_] at k1 e0 e1 r0 r1;have D5:=M4.D.fr hfs (λ g hg e=>by omega);have V5:=q_ (V4.fr hfs (λ g hg e=>by omega));replace M5:=q_ M5;replace M4:=q_ M4;replace D5:=q_ D5;replace R3:=q_ R3;clear hfs V4
      go_wp2_with fail
      have S2:=Blk.pair R3.o (.slice sa ds.length sc) (.iface vT vx);have q0:=S2.c0;have q1:=S2.c1;refine bodyPost_ret (v:=.tuple #[.agg #[.slice sa ds.length sc,.iface vT vx],.nilIface]) (by simp[results,results76,go_sem,q0,q1]) rfl ?_;rw[Q_.o];have h4:=Fr.pair (W4.setCell ⟨w.heap.size+1,1,none⟩ (.iface vT vx)) w.heap.size (.slice sa ds.length sc) (.iface vT vx);refine⟨_,_,_,rfl,⟨_,_,_,rfl⟩,.inr ⟨_,_,rfl⟩,M5.o.fr.trans h4 (λ y hy e=>by omega),?_⟩;rw[hres.o];refine⟨rfl,xs,vm_ (zb_ M5.o.row h4 (λ g hg e=>by have:=M5.o.row.lt g hg;omega)),λ g hg=>by have:=M5.o.row.lt g hg;omega,(D5.o.fr h4 (λ g hg e=>by omega)).mono (λ g _ hg=>by have:=hg.1;omega),(V5.o.fr h4 (λ g hg e=>by omega)).mono (λ g _ hg=>by omega)⟩
  ·have h6':¬ ((ds.length:Int)<6):=by omega
   have hrest:=q_ (zfo hpd hl6 (λ e=>h6 e.1));have hC1:=q_ (zca hs _ j l_ hj _ bp et ex M.o.A.here (hG.o.fr M.o.A.fr (Ne.symm hne)) hne);have M1:=M;clear hpd;obtain⟨R_,hRES⟩:∃ r,pT s j=r:=⟨_,rfl⟩;have hbT:=(v7_ (s:=s) hj)
   cases hp:pT s j with
   | error k=>
    have herr:=q_ (show zq_ s=.error k by rw[hrest.o,hp]);replace hp:=q_ hp
    go_wp2_with (first
     |(go_at_call 101;refine hC1.o.mono ?_;rintro e w3 ⟨v,ev,_,rfl,hf3,hm⟩;rw[hp.o] at hm;obtain⟨⟨g,hg1,rfl,hg2⟩,_⟩:=hm;have R3:=hf3.blk M1.o.R (by omega);have r0:=R3.c0;have r1:=R3.c1;have g0:=R3.thaw 0;have g1:=R3.thaw 1;replace R3:=q_ R3;replace hf3:=q_ hf3;replace hg2:=q_ hg2))
    have S2:=Blk.pair R3.o (.slice none 0 0) .nilIface;have q0:=S2.c0;have q1:=S2.c1;refine bodyPost_ret (v:=.tuple #[.agg #[.slice none 0 0,.nilIface],.iface 210 (.pointer (some ⟨g,0,none⟩))]) (by simp[results,results76,go_sem,q0,q1]) rfl ?_;rw[Q_.o];have hsz:=M1.o.A.hB;exact vy_ herr.o (lo:=wr.heap.size) ⟨g,by omega,rfl,hg2.o⟩ (M1.o.A.fr.trans hf3.o u_) (by omega)
   | ok r=>
    obtain⟨t,k⟩:=r;have hk:=hbT.1 t k hp
    by_cases hks:k<s.size
    ·have herr:=q_ (show zq_ s=.error k by rw[hrest.o,hp];simp only;rw[if_pos hks])
     have hks':(k:Int)<(s.size:Int):=by omega
     replace hp:=q_ hp
     go_wp2_with (first
      |(go_at_call 101;refine hC1.o.mono ?_;rintro e w3 ⟨v,ev,_,rfl,hf3,hm⟩;rw[hp.o] at hm;obtain⟨rfl,h3,hv⟩:=hm;obtain⟨vT,vx,rfl⟩:=hv.iface;have M3:=M1.o.call h3 hf3;have c0:=M3.A.here.c0;have c1:=M3.A.here.c1;have hV:=q_ (hv.mono (Q:=λ g=>w.heap.size+1+1<=g) (λ g _ hg=>by omega));have hs3:=hf3.size;replace M3:=q_ M3;clear hf3 h3 hv))
     go_quiet (fail)
     have M4:=M3.o.still (ze_.drewN w3 nq);generalize hW4:w3.drewN nq=W4 at M4⊢
     have hz4:W4.heap.size=w3.heap.size:=by rw[<- hW4];rfl
     clear hW4;have hC4:=q_ (x2_ M4.A.here (hG.o.fr M4.A.fr (Ne.symm hne)));replace M4:=q_ M4
     go_wp2_with (go_at_call 102;refine hC4.o.mono ?_;rintro e w5 ⟨v5,rfl,⟨g,hg1,rfl,hg2⟩,hf5⟩;have R3:=hf5.blk M4.o.R id;have r0:=R3.c0;have r1:=R3.c1;have g0:=R3.thaw 0;have g1:=R3.thaw 1;replace R3:=q_ R3;replace hf5:=q_ hf5;replace hg2:=q_ hg2)
     have S2:=Blk.pair R3.o (.slice none 0 0) .nilIface;have q0:=S2.c0;have q1:=S2.c1;refine bodyPost_ret (v:=.tuple #[.agg #[.slice none 0 0,.nilIface],.iface 210 (.pointer (some ⟨g,0,none⟩))]) (by simp[results,results76,go_sem,q0,q1]) rfl ?_;rw[Q_.o];have hsz:=M4.o.A.hB;exact vy_ herr.o (lo:=W4.heap.size) ⟨g,hg1,rfl,hg2.o⟩ (M4.o.A.fr.trans hf5.o v_) (by omega)
    ·have hres:=q_ (show zq_ s=.ok (ds,t) by rw[hrest.o,hp];simp only;rw[if_neg hks])
     have hks':¬ ((k:Int)<(s.size:Int)):=by omega
     replace hp:=q_ hp
     go_wp2_with (first
      |(go_at_call 101;refine hC1.o.mono ?_;rintro e w3 ⟨v,ev,_,rfl,hf3,hm⟩;rw[hp.o] at hm;obtain⟨rfl,h3,hv⟩:=hm;obtain⟨vT,vx,rfl⟩:=hv.iface;have M3:=M1.o.call h3 hf3;have c0:=M3.A.here.c0;have c1:=M3.A.here.c1;have hV:=q_ (hv.mono (Q:=λ g=>w.heap.size+1+1<=g) (λ g _ hg=>by omega));have hs3:=hf3.size;replace M3:=q_ M3;clear hf3 h3 hv))
     go_quiet (fail)
     have M4:=M3.o.still (ze_.drewN w3 nq);have V4:=hV.o.fr ((Fr.refl w3 (λ _=>False)).still (ze_.drewN w3 nq)) u_;generalize hW4:w3.drewN nq=W4 at M4 V4⊢;clear hW4;have M5:=M4.A.put 1 (.iface vT vx);have hfs:Fr W4 (W4.setCell ⟨w.heap.size+1,1,none⟩ (.iface vT vx)) (λ g=>g=w.heap.size+1):=(Fr.refl W4 (λ g=>g=w.heap.size+1)).setCell ⟨w.heap.size+1,1,none⟩ _ (λ _=>rfl);have R3:=hfs.blk M4.R (by omega);have k1:=M4.A.b.cell 1;have kg:=M4.A.b.thaw 1;have e0:=M5.b.cell 0;have e1:=M5.b.cell 1;have r0:=R3.cell 0;have r1:=R3.cell 1;have g0:=R3.thaw 0;have g1:=R3.thaw 1;simp only[bs_,bt_,aa_,ac_] at k1 e0 e1 r0 r1;have D5:=M4.D.fr hfs (λ g hg e=>by omega);have V5:=q_ (V4.fr hfs (λ g hg e=>by omega));replace M5:=q_ M5;replace M4:=q_ M4;replace D5:=q_ D5;replace R3:=q_ R3;clear hfs V4
     go_wp2_with fail
     have S2:=Blk.pair R3.o (.slice sa ds.length sc) (.iface vT vx);have q0:=S2.c0;have q1:=S2.c1;refine bodyPost_ret (v:=.tuple #[.agg #[.slice sa ds.length sc,.iface vT vx],.nilIface]) (by simp[results,results76,go_sem,q0,q1]) rfl ?_;rw[Q_.o];have h4:=Fr.pair (W4.setCell ⟨w.heap.size+1,1,none⟩ (.iface vT vx)) w.heap.size (.slice sa ds.length sc) (.iface vT vx);refine⟨_,_,_,rfl,⟨_,_,_,rfl⟩,.inr ⟨_,_,rfl⟩,M5.o.fr.trans h4 (λ y hy e=>by omega),?_⟩;rw[hres.o];refine⟨rfl,xs,vm_ (zb_ M5.o.row h4 (λ g hg e=>by have:=M5.o.row.lt g hg;omega)),λ g hg=>by have:=M5.o.row.lt g hg;omega,(D5.o.fr h4 (λ g hg e=>by omega)).mono (λ g _ hg=>by have:=hg.1;omega),(V5.o.fr h4 (λ g hg e=>by omega)).mono (λ g _ hg=>by omega)⟩
end Go.Proofs.YthmjjpkjgjklmaaGreatDoor
