import Derived.Test.YtiifagiebikmdaaGreatDoorBK14
import Derived.Test.YtiifagiebikmdaaGreatDoorBK00
import Derived.Test.YtiifagiebikmdaaGreatDoorBK02
namespace Go.Proofs.YtiifagiebikmdaaGreatDoor
open Go.RowKit
set_option maxHeartbeats 4000000 in
set_option maxRecDepth 100000 in
theorem ptyp_40 {s:ByteArray}{i:Nat}(hs:s.size≤300) (hi:i≤s.size) (hx:bt s i=40) (hT:∀ j,i<j→j≤s.size→PTypOK s j):PTypOK s i:=by
 intro w bp et ex h hG hne
 obtain⟨POST,hPOST⟩:∃ P,Hid (P=PTypPost w bp s i et ex):=⟨_,rfl⟩
 rw[← hPOST.out]
 have H:=hide (And.intro h (Fr.refl w (fun x=>x=bp)))
 have hlt:i<s.size:=bt_pos (by omega)
 have hpT:=hide (pT_alts (s:=s) (i:=i) hx)
 replace hx:=hide hx
 replace hG:=hide hG
 replace h:=hide h
 replace hT:=hide hT
 go_enter Tryz.func74,Tryz.ntmps74
 go_wp2_with (first
  |(go_at_call 103;refine(pspot_any H.out.1).mono ?_;rintro e w' ⟨rfl,hw'⟩;rw[hw'])
  |(go_at_call 102;refine(ppeek_any H.out.1 hs hi).mono ?_;rintro e w' ⟨rfl,hw'⟩;rw[hx.out];replace H:=hide (And.intro (H.out.1.still hw') (H.out.2.still hw'));clear hw')
  |(go_at_call 106;refine(ptake_yesI H.out.1 hs hi hx.out (by decide) (by decide)).mono ?_;rintro e w' ⟨rfl,hf',h'⟩;have H1:=hide (And.intro h' (H.out.2.trans hf' (fun _ _ e=>e)));clear hf' h')
  |(go_at_call 106;refine(ptake_noI H.out.1 hs hi hx.out (by decide) (by decide)).mono ?_;rintro e w' ⟨rfl,hf',h'⟩;replace H:=hide (And.intro h' (H.out.2.trans hf' (fun _ _ e=>e)));clear hf' h')
  |(go_at_call 108;refine(punion_any (p:=i) (fun j h1 h2=>hT.out j (by omega) h2) H1.out.1 (hG.out.fr H1.out.2 (Ne.symm hne)) hne hs hlt).mono ?_;rintro e w3 ⟨v,ev,hI,rfl,hf3,hm⟩;replace hf3:=hide hf3;replace hm:=hide hm;replace hI:=hide hI))
 try go_ret
 rw[hPOST.out]
 have hsz:=H1.out.2.size
 refine⟨v,ev,hI.out,rfl,H1.out.2.trans hf3.out (fun _ _ e=>e),?_⟩
 rw[hpT.out]
 have hm':=hm.out
 cases hp:pA s (i+1) with
 | error k=>
  rw[hp] at hm'
  exact⟨hm'.1.less hsz,hm'.2⟩
 | ok r=>
  obtain⟨l,j⟩:=r
  rw[hp] at hm'
  simp only at hm'⊢
  by_cases hb:bt s j=41
  ·rw[if_pos hb] at hm'⊢
   obtain⟨rfl,h2,hv⟩:=hm'
   exact⟨rfl,h2,hv.mono (fun g _ hg=>Nat.le_trans hsz hg)⟩
  ·rw[if_neg hb] at hm'⊢
   exact⟨hm'.1.less hsz,hm'.2⟩
theorem ptyp_ok {s:ByteArray}(hs:s.size≤300):∀ (n i:Nat),s.size-i≤n→i≤s.size→PTypOK s i:=by
 intro n
 induction n with
 | zero=>
  intro i hn hi
  have h0:bt s i=0:=bt_end (by omega)
  exact ptyp_bad hs hi (by rw[h0];decide) (by rw[h0];decide) (by rw[h0];decide) (by rw[h0];decide)
 | succ n ih=>
  intro i hn hi
  have next:i<s.size→∀ j,i<j→j≤s.size→PTypOK s j:=fun _ j h1 h2=>ih j (by omega) h2
  by_cases h1:isBase (bt s i)=true
  ·have h1':=h1
   simp only[isBase,Bool.or_eq_true,beq_iff_eq] at h1'
   rcases h1' with(((h|h)|h)|h)|h
   ·exact ptyp_110 hs hi h
   ·exact ptyp_116 hs hi h
   ·exact ptyp_105 hs hi h
   ·exact ptyp_108 hs hi h
   ·exact ptyp_115 hs hi h
  ·by_cases h2:bt s i=91∨bt s i=123
   ·have hlt:i<s.size:=bt_pos (by omega)
    rcases h2 with h2|h2
    ·exact ptyp_91 hs hi h2 (next hlt (i+1) (by omega) hlt)
    ·exact ptyp_123 hs hi h2 (next hlt (i+1) (by omega) hlt)
   ·by_cases h3:bt s i=40
    ·exact ptyp_40 hs hi h3 (next (bt_pos (by omega)))
    ·by_cases h4:65≤bt s i∧bt s i≤70
     ·exact ptyp_name hs hi (by simp[isName];omega)
     ·exact ptyp_bad hs hi h1 h2 h3 h4
open Go.RowKit
def PLetPost (w:World) (bp:Nat) (s:ByteArray) (i:Nat) (et:TypeId) (ex:Value) (e:Ending) (w':World):Prop:=
 ∃ (a:Int) (b:Int) (ev:Value),e=.returned (.tuple #[.agg #[.int .i64 a,.int .u8 b],ev])∧Fr w w' (· = bp)∧
  ((isSmall (bt s i)=true∧a=(i:Int)∧b=(bt s i:Int)∧ev=.nilIface∧PAt w' bp s (i+1)∧i<s.size)∨(isSmall (bt s i)=false∧FaultAt w' w.heap.size ev (i:Int) (.iface et ex)∧PAt w' bp s i))
set_option maxHeartbeats 4000000 in
set_option maxRecDepth 100000 in
theorem pletter_any {w:World}{bp:Nat}{s:ByteArray}{i:Nat}{et:TypeId}{ex:Value}(h:PAt w bp s i) (hG:Gram w et ex) (hne:bp≠0) (hs:s.size≤300) (hi:i≤s.size) :
 Calls Tryz.prog 162 #[.pointer (some ⟨bp,0,none⟩)] w (PLetPost w bp s i et ex):=by
 obtain⟨POST,hPOST⟩:∃ P,Hid (P=PLetPost w bp s i et ex):=⟨_,rfl⟩
 rw[← hPOST.out]
 have hbp:=h.lt
 have h0:=hide (show PAt (w.alloc (.cells #[.int .i64 0,.int .u8 0] 146)) bp s i from Blk.alloc h _)
 have F0:=hide (show Fr w (w.alloc (.cells #[.int .i64 0,.int .u8 0] 146)) (fun x=>x=bp) from(Fr.refl w _).alloc _)
 have B0:=hide (Blk.new w #[.int .i64 0,.int .u8 0] 146)
 obtain⟨x,hx⟩:∃ x,bt s i=x:=⟨_,rfl⟩
 replace hG:=hide hG
 replace h:=hide h
 cases hsm:isSmall x with
 | true=>
  have hr:97≤x∧x≤122:=by simpa[isSmall] using hsm
  have hlt:i<s.size:=bt_pos (by omega)
  have n1:¬ ((x:Int)<97):=by omega
  have n2:¬ ((122:Int)<(x:Int)):=by omega
  replace hx:=hide hx
  replace hsm:=hide hsm
  go_enter Tryz.func162,Tryz.ntmps162
  go_wp2_with (first
   |(go_at_call 103;refine(pspot_any h0.out).mono ?_;rintro e w' ⟨rfl,hw'⟩;rw[hw'];clear hw')
   |(go_at_call 102;refine(ppeek_any h0.out hs hi).mono ?_;rintro e w1 ⟨rfl,hw1⟩;rw[hx.out];have h1:=h0.out.still hw1;have F1:=(Fr.refl (w.alloc (.cells #[.int .i64 0,.int .u8 0] 146)) (fun g=>g=bp)).still hw1;have D0:=F1.blk B0.out (by omega);have P1:=Blk.alloc h1 (.cells #[.int .i64 (i:Int),.int .u8 (x:Int)] 146);have c1:=PAt.c1 P1;have f1:=PAt.thaw P1 1;have hs1:=F1.size;have hbl:=F1.size;have Lb:=Blk.other (Blk.new w1 #[.int .i64 (i:Int),.int .u8 (x:Int)] 146) (a:=⟨bp,1,none⟩) (.int .i64 ((i:Int)+1)) (by show ¬ (w1.heap.size=bp);simp at hbl;omega);have Rb:=Blk.other (D0.alloc (.cells #[.int .i64 (i:Int),.int .u8 (x:Int)] 146)) (a:=⟨bp,1,none⟩) (.int .i64 ((i:Int)+1)) (by show ¬ (w.heap.size=bp);omega);have P2:=PAt.inc P1;have l0:=Lb.cell 0;have l1:=Lb.cell 1;have r0:=Rb.cell 0;have r1:=Rb.cell 1;have g0:=Rb.thaw 0;have g1:=Rb.thaw 1;simp only[List.getElem?_cons_zero,List.getElem?_cons_succ] at l0 l1 r0 r1;replace F1:=hide F1;replace D0:=hide D0;replace h1:=hide h1;replace P1:=hide P1;replace P2:=hide P2;replace Lb:=hide Lb;replace Rb:=hide Rb))
  have S2:=(Rb.out.set 0 (.int .i64 (i:Int))).set 1 (.int .u8 (x:Int))
  have q0:=S2.cell 0
  have q1:=S2.cell 1
  simp only[List.set_cons_zero,List.set_cons_succ,List.getElem?_cons_zero,List.getElem?_cons_succ] at q0 q1
  refine bodyPost_ret (v:=.tuple #[.agg #[.int .i64 (i:Int),.int .u8 (x:Int)],.nilIface]) (by simp[results,Tryz.results162,go_sem,q0,q1]) rfl ?_
  rw[hPOST.out]
  refine⟨_,_,_,rfl,?_,.inl ⟨by rw[hx.out];exact hsm.out,rfl,by rw[hx.out],rfl,?_,hlt⟩⟩
  ·exact(((((F0.out.trans F1.out (fun _ _ e=>e)).alloc _).setCell _ _ (fun _=>rfl)).setCell _ _ (fun hx'=>absurd hx' (Nat.lt_irrefl _))).setCell _ _ (fun hx'=>absurd hx' (Nat.lt_irrefl _)))
  ·exact Blk.other (Blk.other P2.out (a:=⟨w.heap.size,0,none⟩) _ (by show ¬ (bp=w.heap.size);omega)) (a:=⟨w.heap.size,1,none⟩) _ (by show ¬ (bp=w.heap.size);omega)
 | false=>
  have hr:x<97∨122<x:=by
   have:=hsm
   simp only[isSmall,Bool.and_eq_false_iff,decide_eq_false_iff_not] at this
   omega
  replace hx:=hide hx
  replace hsm:=hide hsm
  have fin:Hid (∀ (w2:World) (v:Value) (w1:World),FaultAt w2 (w1.alloc (.cells #[.int .i64 (i:Int),.int .u8 (x:Int)] 146)).heap.size v (i:Int) (.iface et ex)→Fr (w1.alloc (.cells #[.int .i64 (i:Int),.int .u8 (x:Int)] 146)) w2 (fun _=>False)→PAt (w1.alloc (.cells #[.int .i64 (i:Int),.int .u8 (x:Int)] 146)) bp s i→Fr (w.alloc (.cells #[.int .i64 0,.int .u8 0] 146)) w1 (fun g=>g=bp)→
   PLetPost w bp s i et ex (.returned (.tuple #[.agg #[.int .i64 0,.int .u8 0],v])) ((w2.setCell ⟨w.heap.size,0,none⟩ (.int .i64 0)).setCell ⟨w.heap.size,1,none⟩ (.int .u8 0))):=hide (fun w2 v w1 hF hf2 P1 F1=>by
   have hz:(w.alloc (.cells #[.int .i64 0,.int .u8 0] 146)).heap.size=w.heap.size+1:=by simp
   have hz1:(w1.alloc (.cells #[.int .i64 (i:Int),.int .u8 (x:Int)] 146)).heap.size=w1.heap.size+1:=by simp
   have hsz:=F1.size
   have hfr:Fr w2 ((w2.setCell ⟨w.heap.size,0,none⟩ (.int .i64 0)).setCell ⟨w.heap.size,1,none⟩ (.int .u8 0)) (fun g=>g=w.heap.size):=((Fr.refl w2 (fun g=>g=w.heap.size)).setCell ⟨w.heap.size,0,none⟩ _ (fun _=>rfl)).setCell ⟨w.heap.size,1,none⟩ _ (fun _=>rfl)
   refine⟨_,_,_,rfl,?_,.inr ⟨by rw[hx.out];exact hsm.out,(hF.fr hfr (fun g hg e=>by omega)).less (by omega),hfr.blk (hf2.blk P1 id) (by omega)⟩⟩
   exact((((F0.out.trans F1 (fun _ _ e=>e)).alloc _).trans hf2 (fun _ _ f=>f.elim)).trans hfr (fun y hy e=>by omega)))
  rcases hr with hr|hr
  ·have n1:(x:Int)<97:=by omega
   go_enter Tryz.func162,Tryz.ntmps162
   go_wp2_with (first
    |(go_at_call 103;refine(pspot_any h0.out).mono ?_;rintro e w' ⟨rfl,hw'⟩;rw[hw'];clear hw')
    |(go_at_call 102;refine(ppeek_any h0.out hs hi).mono ?_;rintro e w1 ⟨rfl,hw1⟩;rw[hx.out];have h1:=h0.out.still hw1;have F1:=(Fr.refl (w.alloc (.cells #[.int .i64 0,.int .u8 0] 146)) (fun g=>g=bp)).still hw1;have D0:=F1.blk B0.out (by omega);have P1:=Blk.alloc h1 (.cells #[.int .i64 (i:Int),.int .u8 (x:Int)] 146);have D1:=D0.alloc (.cells #[.int .i64 (i:Int),.int .u8 (x:Int)] 146);have G1:=(hG.out.fr (F0.out.trans F1 (fun _ _ e=>e)) (Ne.symm hne)).fr ((Fr.refl w1 (fun _=>False)).alloc (.cells #[.int .i64 (i:Int),.int .u8 (x:Int)] 146)) id;replace F1:=hide F1;replace D1:=hide D1;replace P1:=hide P1;replace G1:=hide G1;clear D0 h1)
    |(go_at_call 75;refine(pwrong_any P1.out G1.out).mono ?_;rintro e w2 ⟨v,rfl,hF,hf2⟩;have D2:=hf2.blk D1.out id;have r0:=D2.cell 0;have r1:=D2.cell 1;have g0:=D2.thaw 0;have g1:=D2.thaw 1;simp only[List.getElem?_cons_zero,List.getElem?_cons_succ] at r0 r1;replace hF:=hide hF;replace hf2:=hide hf2;replace D2:=hide D2))
   have S2:=(D2.out.set 0 (.int .i64 0)).set 1 (.int .u8 0)
   have q0:=S2.cell 0
   have q1:=S2.cell 1
   simp only[List.set_cons_zero,List.set_cons_succ,List.getElem?_cons_zero,List.getElem?_cons_succ] at q0 q1
   refine bodyPost_ret (v:=.tuple #[.agg #[.int .i64 0,.int .u8 0],v]) (by simp[results,Tryz.results162,go_sem,q0,q1]) rfl ?_
   rw[hPOST.out]
   exact fin.out w2 v w1 hF.out hf2.out P1.out F1.out
  ·have n1:¬ ((x:Int)<97):=by omega
   have n2:(122:Int)<(x:Int):=by omega
   go_enter Tryz.func162,Tryz.ntmps162
   go_wp2_with (first
    |(go_at_call 103;refine(pspot_any h0.out).mono ?_;rintro e w' ⟨rfl,hw'⟩;rw[hw'];clear hw')
    |(go_at_call 102;refine(ppeek_any h0.out hs hi).mono ?_;rintro e w1 ⟨rfl,hw1⟩;rw[hx.out];have h1:=h0.out.still hw1;have F1:=(Fr.refl (w.alloc (.cells #[.int .i64 0,.int .u8 0] 146)) (fun g=>g=bp)).still hw1;have D0:=F1.blk B0.out (by omega);have P1:=Blk.alloc h1 (.cells #[.int .i64 (i:Int),.int .u8 (x:Int)] 146);have D1:=D0.alloc (.cells #[.int .i64 (i:Int),.int .u8 (x:Int)] 146);have G1:=(hG.out.fr (F0.out.trans F1 (fun _ _ e=>e)) (Ne.symm hne)).fr ((Fr.refl w1 (fun _=>False)).alloc (.cells #[.int .i64 (i:Int),.int .u8 (x:Int)] 146)) id;replace F1:=hide F1;replace D1:=hide D1;replace P1:=hide P1;replace G1:=hide G1;clear D0 h1)
    |(go_at_call 75;refine(pwrong_any P1.out G1.out).mono ?_;rintro e w2 ⟨v,rfl,hF,hf2⟩;have D2:=hf2.blk D1.out id;have r0:=D2.cell 0;have r1:=D2.cell 1;have g0:=D2.thaw 0;have g1:=D2.thaw 1;simp only[List.getElem?_cons_zero,List.getElem?_cons_succ] at r0 r1;replace hF:=hide hF;replace hf2:=hide hf2;replace D2:=hide D2))
   have S2:=(D2.out.set 0 (.int .i64 0)).set 1 (.int .u8 0)
   have q0:=S2.cell 0
   have q1:=S2.cell 1
   simp only[List.set_cons_zero,List.set_cons_succ,List.getElem?_cons_zero,List.getElem?_cons_succ] at q0 q1
   refine bodyPost_ret (v:=.tuple #[.agg #[.int .i64 0,.int .u8 0],v]) (by simp[results,Tryz.results162,go_sem,q0,q1]) rfl ?_
   rw[hPOST.out]
   exact fin.out w2 v w1 hF.out hf2.out P1.out F1.out
open Go.RowKit
def PBytPost (w:World) (bp:Nat) (s:ByteArray) (i:Nat) (p:Int) (et:TypeId) (ex:Value) (e:Ending) (w':World):Prop:=
 ∃ v ev,IfV v∧e=.returned (.tuple #[v,ev])∧Fr w w' (· = bp)∧
  ((48≤bt s i∧bt s i≤57∧v=.iface 233 (.agg #[.int .i64 p,.int .i64 ((bt s i-48:Nat):Int)])∧ev=.nilIface∧PAt w' bp s (i+1)∧i<s.size)∨(¬ (48≤bt s i∧bt s i≤57)∧FaultAt w' w.heap.size ev (i:Int) (.iface et ex)∧PAt w' bp s i))
set_option maxHeartbeats 4000000 in
set_option maxRecDepth 100000 in
theorem pbytes_any {w:World}{bp:Nat}{s:ByteArray}{i:Nat}{p:Int}{et:TypeId}{ex:Value}(h:PAt w bp s i) (hG:Gram w et ex) (hs:s.size≤300) (hi:i≤s.size) :
 Calls Tryz.prog 138 #[.pointer (some ⟨bp,0,none⟩),.int .i64 p] w (PBytPost w bp s i p et ex):=by
 obtain⟨POST,hPOST⟩:∃ P,Hid (P=PBytPost w bp s i p et ex):=⟨_,rfl⟩
 rw[← hPOST.out]
 obtain⟨x,hx⟩:∃ x,bt s i=x:=⟨_,rfl⟩
 replace hG:=hide hG
 by_cases hr:48≤x∧x≤57
 ·have hlt:i<s.size:=bt_pos (by omega)
  have n1:¬ ((x:Int)<48):=by omega
  have n2:¬ ((57:Int)<(x:Int)):=by omega
  replace hx:=hide hx
  replace h:=hide h
  go_enter Tryz.func138,Tryz.ntmps138
  go_wp2_with (go_at_call 102;refine(ppeek_any h.out hs hi).mono ?_;rintro e w1 ⟨rfl,hw1⟩;rw[hx.out];have h1:=h.out.still hw1;have c1:=h1.c1;have f1:=h1.thaw 1;replace h1:=hide h1;replace hw1:=hide hw1)
  try go_ret
  rw[hPOST.out]
  refine⟨.iface 233 (.agg #[.int .i64 p,.int .i64 ((x:Int)-48)]),.nilIface,.inr ⟨_,_,rfl⟩,rfl,((Fr.refl w _).still hw1.out).setCell _ _ (fun _=>rfl),.inl ⟨by rw[hx.out];exact hr.1,by rw[hx.out];exact hr.2,?_,rfl,h1.out.inc,hlt⟩⟩
  rw[hx.out,show((x-48:Nat):Int)=(x:Int)-48 by omega]
 ·replace hx:=hide hx
  have fin:Hid (∀ (w1 w2:World) (v:Value),Still w w1→FaultAt w2 w1.heap.size v (i:Int) (.iface et ex)→Fr w1 w2 (fun _=>False)→PBytPost w bp s i p et ex (.returned (.tuple #[.nilIface,v])) w2):=hide (fun w1 w2 v hw1 hF hf2=>by
   have hsz:=((Fr.refl w (fun _=>False)).still hw1).size
   exact⟨.nilIface,v,.inl rfl,rfl,((Fr.refl w _).still hw1).trans hf2 (fun _ _ f=>f.elim),.inr ⟨by rw[hx.out];exact hr,hF.less hsz,hf2.blk (h.still hw1) id⟩⟩)
  have hr':x<48∨57<x:=by omega
  replace h:=hide h
  clear hr
  rcases hr' with hr|hr
  ·have n1:(x:Int)<48:=by omega
   go_enter Tryz.func138,Tryz.ntmps138
   go_wp2_with (first
    |(go_at_call 102;refine(ppeek_any h.out hs hi).mono ?_;rintro e w1 ⟨rfl,hw1⟩;rw[hx.out];have h1:=h.out.still hw1;replace h1:=hide h1;replace hw1:=hide hw1)
    |(go_at_call 75;refine(pwrong_any h1.out (hG.out.fr ((Fr.refl w (fun _=>False)).still hw1.out) id)).mono ?_;rintro e w2 ⟨v,rfl,hF,hf2⟩;replace hF:=hide hF;replace hf2:=hide hf2))
   try go_ret
   rw[hPOST.out]
   exact fin.out w1 w2 v hw1.out hF.out hf2.out
  ·have n1:¬ ((x:Int)<48):=by omega
   have n2:(57:Int)<(x:Int):=by omega
   go_enter Tryz.func138,Tryz.ntmps138
   go_wp2_with (first
    |(go_at_call 102;refine(ppeek_any h.out hs hi).mono ?_;rintro e w1 ⟨rfl,hw1⟩;rw[hx.out];have h1:=h.out.still hw1;replace h1:=hide h1;replace hw1:=hide hw1)
    |(go_at_call 75;refine(pwrong_any h1.out (hG.out.fr ((Fr.refl w (fun _=>False)).still hw1.out) id)).mono ?_;rintro e w2 ⟨v,rfl,hF,hf2⟩;replace hF:=hide hF;replace hf2:=hide hf2))
   try go_ret
   rw[hPOST.out]
   exact fin.out w1 w2 v hw1.out hF.out hf2.out
open Go.RowKit
structure AM (w:World) (bp:Nat) (s:ByteArray) (j b0:Nat) (L:List Value) (T ET:TypeId) (k:Nat) (sv:Value) (n:Nat) (xs:List Value) (W:World):Prop where
 here:PAt W bp s j
 fr:Fr w W (· = bp)
 lt:bp<w.heap.size
 w0:w.heap.size≤b0
 hB:b0+1≤W.heap.size
 b:Blk W b0 L T
 row:W.ownsRow (b0+1) ET k sv n xs
section
variable {w W W':World} {bp:Nat} {s:ByteArray} {j j' b0:Nat} {L:List Value} {T ET:TypeId} {k:Nat} {sv:Value} {n:Nat} {xs:List Value}
theorem AM.call (M:AM w bp s j b0 L T ET k sv n xs W) (h:PAt W' bp s j') (hf:Fr W W' (· = bp)):AM w bp s j' b0 L T ET k sv n xs W':=by
 have:=M.lt
 have:=M.w0
 exact⟨h,M.fr.trans hf (fun _ _ e=>e),M.lt,M.w0,Nat.le_trans M.hB hf.size,hf.blk M.b (by omega),ownsRow_fr M.row hf (fun g hg e=>by have:=M.row.lt g hg;omega)⟩
theorem AM.alloc (M:AM w bp s j b0 L T ET k sv n xs W) (o:Obj):AM w bp s j b0 L T ET k sv n xs (W.alloc o):=M.call (Blk.alloc M.here o) ((Fr.refl W _).alloc o)
theorem AM.item (M:AM w bp s j b0 L T ET k sv n xs W){w5:World}{v5:Value}{n':Nat}{xs':List Value}{W0:World}(h0:Fr W W0 (fun _=>False)) (hg:W0.grownBy w5 sv.ownBlock) (ho:w5.ownsRow (b0+1) ET k v5 n' xs')
 (hl:v5.ownBlock=sv.ownBlock∨v5.ownBlock=some W0.heap.size) (c:Nat) :
 AM w bp s j b0 (L.set c v5) T ET k v5 n' xs' (w5.setCell ⟨b0,c,none⟩ v5)∧Fr W (w5.setCell ⟨b0,c,none⟩ v5) (fun g=>sv.ownBlock=some g∨g=b0)∧(∀ g,v5.ownBlock=some g→b0+1≤g∧(sv.ownBlock=some g∨W.heap.size≤g)):=by
 have hlt:=M.lt
 have hw0:=M.w0
 have hbB:=M.hB
 have hsz:=h0.size
 have hF:Fr W w5 (fun g=>sv.ownBlock=some g):=Fr.grown (h0.mono (fun _ _ f=>f.elim)) hg (fun k e _=>e)
 have hn:∀ g,v5.ownBlock=some g→b0+1≤g∧(sv.ownBlock=some g∨W.heap.size≤g):=fun g hg'=>by
  rcases hl with e|e
  ·exact⟨(M.row.lt g (e▸hg')).1,.inl (e▸hg')⟩
  ·rw[e] at hg'
   simp only[Option.some.injEq] at hg'
   exact⟨by omega,.inr (by omega)⟩
 have hG:Fr w5 (w5.setCell ⟨b0,c,none⟩ v5) (fun g=>g=b0):=(Fr.refl w5 (fun g=>g=b0)).setCell ⟨b0,c,none⟩ v5 (fun _=>rfl)
 have hH:Fr W (w5.setCell ⟨b0,c,none⟩ v5) (fun g=>sv.ownBlock=some g∨g=b0):=(hF.mono (fun _ _ e=>.inl e)).trans hG (fun _ _ e=>.inr e)
 have B1:=hF.blk M.b (fun e=>by have:=M.row.lt _ e;omega)
 refine⟨⟨hH.blk M.here (fun e=>?_),M.fr.trans hH (fun x hx e=>?_),M.lt,M.w0,Nat.le_trans hbB hH.size,B1.set c v5,ownsRow_fr ho hG (fun g hg' e=>by have:=hn g hg';omega)⟩,hH,hn⟩
 ·rcases e with e|e
  ·have:=M.row.lt _ e;omega
  ·omega
 ·rcases e with e|e
  ·have:=M.row.lt _ e;omega
  ·omega
theorem AM.itemCell (M:AM w bp s j b0 L T ET k sv n xs W){w5 W0:World}(h0:Fr W W0 (fun _=>False)) (hg:W0.grownBy w5 sv.ownBlock):Blk w5 b0 L T:=by
 have hF:Fr W w5 (fun g=>sv.ownBlock=some g):=Fr.grown (h0.mono (fun _ _ f=>f.elim)) hg (fun k e _=>e)
 exact hF.blk M.b (fun e=>by have:=M.row.lt _ e;omega)
end
def DfV (w:World) (P:Nat→Prop) (s:ByteArray) (o:Option (Nat×Nat)) (d:Value):Prop:=
 match o with
 | none=>d=.pointer none
 | some (a,e)=>∃ g x,P g∧d=.pointer (some ⟨g,0,none⟩)∧IfV x∧Blk w g [.int .i64 (a:Int),.string (s.extract a e),x] 153
theorem DfV.mono {w:World}{P Q:Nat→Prop}{s:ByteArray}{o:Option (Nat×Nat)}{d:Value}(h:DfV w P s o d) (hQ:∀ g,g<w.heap.size→P g→Q g):DfV w Q s o d:=by
 match o with
 | none=>exact h
 | some (a,e)=>
  obtain⟨g,x,h1,h2,h3,h4⟩:=h
  exact⟨g,x,hQ g h4.lt h1,h2,h3,h4⟩
theorem DfV.fr {w w':World}{P S:Nat→Prop}{s:ByteArray}{o:Option (Nat×Nat)}{d:Value}(h:DfV w P s o d) (hf:Fr w w' S) (hS:∀ g,P g→¬ S g):DfV w' P s o d:=by
 match o with
 | none=>exact h
 | some (a,e)=>
  obtain⟨g,x,h1,h2,h3,h4⟩:=h
  exact⟨g,x,h1,h2,h3,hf.blk h4 (hS g h1)⟩
def FldV (w:World) (P:Nat→Prop) (s:ByteArray) (f:PF) (a b c d:Value):Prop:=
 a=.int .i64 (f.place:Int)∧b=.int .u8 (f.letter:Int)∧TyV w P f.ty c∧DfV w P s f.dflt d
theorem FldV.mono {w:World}{P Q:Nat→Prop}{s:ByteArray}{f:PF}{a b c d:Value}(h:FldV w P s f a b c d) (hQ:∀ g,g<w.heap.size→P g→Q g):FldV w Q s f a b c d:=
 ⟨h.1,h.2.1,h.2.2.1.mono hQ,h.2.2.2.mono hQ⟩
theorem FldV.fr {w w':World}{P S:Nat→Prop}{s:ByteArray}{f:PF}{a b c d:Value}(h:FldV w P s f a b c d) (hf:Fr w w' S) (hS:∀ g,P g→¬ S g):FldV w' P s f a b c d:=
 ⟨h.1,h.2.1,h.2.2.1.fr hf hS,h.2.2.2.fr hf hS⟩
def FldsV (w:World) (P:Nat→Prop) (s:ByteArray) (fs:List PF) (xs:List Value):Prop:=
 ∀ i f,fs[i]?=some f→∃ a b c d,xs[4*i]?=some a∧xs[4*i+1]?=some b∧xs[4*i+2]?=some c∧xs[4*i+3]?=some d∧FldV w P s f a b c d
theorem FldsV.mono {w:World}{P Q:Nat→Prop}{s:ByteArray}{fs:List PF}{xs:List Value}(h:FldsV w P s fs xs) (hQ:∀ g,g<w.heap.size→P g→Q g):FldsV w Q s fs xs:=fun i f e=>by
 obtain⟨a,b,c,d,h1,h2,h3,h4,h5⟩:=h i f e
 exact⟨a,b,c,d,h1,h2,h3,h4,h5.mono hQ⟩
theorem FldsV.fr {w w':World}{P S:Nat→Prop}{s:ByteArray}{fs:List PF}{xs:List Value}(h:FldsV w P s fs xs) (hf:Fr w w' S) (hS:∀ g,P g→¬ S g):FldsV w' P s fs xs:=fun i f e=>by
 obtain⟨a,b,c,d,h1,h2,h3,h4,h5⟩:=h i f e
 exact⟨a,b,c,d,h1,h2,h3,h4,h5.fr hf hS⟩
theorem FldsV.snoc {w:World}{P:Nat→Prop}{s:ByteArray}{fs:List PF}{xs:List Value}{f:PF}{a b c d:Value}(h:FldsV w P s fs xs) (hl:xs.length=fs.length*4) (hf:FldV w P s f a b c d):FldsV w P s (fs++[f]) (xs++[a,b,c,d]):=fun i f' e=>by
 by_cases hi:i<fs.length
 ·rw[List.getElem?_append_left hi] at e
  obtain⟨a',b',c',d',h1,h2,h3,h4,h5⟩:=h i f' e
  exact⟨a',b',c',d',by rw[List.getElem?_append_left (by omega)];exact h1,by rw[List.getElem?_append_left (by omega)];exact h2,by rw[List.getElem?_append_left (by omega)];exact h3,by rw[List.getElem?_append_left (by omega)];exact h4,h5⟩
 ·have hi':i=fs.length:=by
   have:=(List.getElem?_eq_some_iff.1 e).1
   simp at this;omega
  subst hi'
  rw[List.getElem?_append_right (Nat.le_refl _),Nat.sub_self] at e
  simp only[List.getElem?_cons_zero,Option.some.injEq] at e
  subst e
  refine⟨a,b,c,d,?_,?_,?_,?_,hf⟩
  ·rw[List.getElem?_append_right (by omega),show 4*fs.length-xs.length=0 by omega];rfl
  ·rw[List.getElem?_append_right (by omega),show 4*fs.length+1-xs.length=1 by omega];rfl
  ·rw[List.getElem?_append_right (by omega),show 4*fs.length+2-xs.length=2 by omega];rfl
  ·rw[List.getElem?_append_right (by omega),show 4*fs.length+3-xs.length=3 by omega];rfl
def symCells (l:List (Nat×Nat)):List Value:=l.flatMap (fun q=>[.int .i64 (q.2:Int),.int .u8 (q.1:Int)])
def UnkV (w:World) (P:Nat→Prop) (o:Option (Nat×Nat)) (d:Value):Prop:=
 match o with
 | none=>d=.pointer none
 | some (c,p)=>∃ g,P g∧d=.pointer (some ⟨g,0,none⟩)∧Blk w g [.int .i64 (p:Int),.int .u8 (c:Int)] 146
theorem UnkV.mono {w:World}{P Q:Nat→Prop}{o:Option (Nat×Nat)}{d:Value}(h:UnkV w P o d) (hQ:∀ g,g<w.heap.size→P g→Q g):UnkV w Q o d:=by
 match o with
 | none=>exact h
 | some (a,e)=>
  obtain⟨g,h1,h2,h4⟩:=h
  exact⟨g,hQ g h4.lt h1,h2,h4⟩
theorem UnkV.fr {w w':World}{P S:Nat→Prop}{o:Option (Nat×Nat)}{d:Value}(h:UnkV w P o d) (hf:Fr w w' S) (hS:∀ g,P g→¬ S g):UnkV w' P o d:=by
 match o with
 | none=>exact h
 | some (a,e)=>
  obtain⟨g,h1,h2,h4⟩:=h
  exact⟨g,h1,h2,hf.blk h4 (hS g h1)⟩
inductive BodyV (w:World) (P:Nat→Prop) (s:ByteArray):PB→Value→Prop
 | recd (p:Nat) {fs:List PF} {sv:Value} {xs:List Value} (ho:w.ownsRow 0 149 4 sv fs.length xs) (hP:∀ g,sv.ownBlock=some g→P g) (h:FldsV w P s fs xs):BodyV w P s (.recd fs) (.iface 211 (.agg #[.int .i64 (p:Int),sv]))
 | enum (p:Nat) {l:List (Nat×Nat)} {o:Option (Nat×Nat)} {sv u:Value} (ho:w.ownsRow 0 146 2 sv l.length (symCells l)) (hP:∀ g,sv.ownBlock=some g→P g) (hu:UnkV w P o u):BodyV w P s (.enum l o) (.iface 216 (.agg #[.int .i64 (p:Int),sv,u]))
 | bytes (p n:Nat):BodyV w P s (.bytes n) (.iface 233 (.agg #[.int .i64 (p:Int),.int .i64 (n:Int)]))
theorem BodyV.mono {w:World}{P Q:Nat→Prop}{s:ByteArray}{b:PB}{v:Value}(h:BodyV w P s b v) (hQ:∀ g,g<w.heap.size→P g→Q g):BodyV w Q s b v:=by
 cases h with
 | recd p ho hP h=>exact .recd p ho (fun g e=>hQ g (ho.lt g e).2 (hP g e)) (h.mono hQ)
 | enum p ho hP h=>exact .enum p ho (fun g e=>hQ g (ho.lt g e).2 (hP g e)) (h.mono hQ)
 | bytes p n=>exact .bytes p n
theorem BodyV.fr {w w':World}{P S:Nat→Prop}{s:ByteArray}{b:PB}{v:Value}(h:BodyV w P s b v) (hf:Fr w w' S) (hS:∀ g,P g→¬ S g):BodyV w' P s b v:=by
 cases h with
 | recd p ho hP h=>exact .recd p (ownsRow_fr ho hf (fun g e=>hS g (hP g e))) hP (h.fr hf hS)
 | enum p ho hP h=>exact .enum p (ownsRow_fr ho hf (fun g e=>hS g (hP g e))) hP (h.fr hf hS)
 | bytes p n=>exact .bytes p n
open Go.RowKit
def PDefPost (w:World) (bp:Nat) (s:ByteArray) (i:Nat) (e:Ending) (w':World):Prop:=
 ∃ k g,k=(pD s i 0).getD s.size∧i≤k∧k≤s.size∧w.heap.size≤g∧e=.returned (.pointer (some ⟨g,0,none⟩))∧Blk w' g [.int .i64 (i:Int),.string (s.extract i k),.nilIface] 153∧Fr w w' (· = bp)∧PAt w' bp s k
def PDInv (w:World) (bp:Nat) (s:ByteArray) (i:Nat) (n:Nat) (ov:Value) (W:World):Prop:=
 ∃ k o:Nat,ov=.int .i64 (o:Int)∧pD s i 0=pD s k o∧i≤k∧o≤k∧k≤s.size∧PAt W bp s k∧Fr w W (· = bp)∧s.size-k≤n
theorem opens_cases {c:Nat}(h:opens c=true):c=40∨c=91∨c=123∨c=60:=by
 simp only[opens,Bool.or_eq_true,beq_iff_eq] at h;omega
theorem closes_cases {c:Nat}(h:closes c=true):c=41∨c=93∨c=125∨c=62:=by
 simp only[closes,Bool.or_eq_true,beq_iff_eq] at h;omega
theorem neither_cases {c:Nat}(h:opens c=false) (h2:closes c=false):c≠40∧c≠91∧c≠123∧c≠60∧c≠41∧c≠93∧c≠125∧c≠62:=by
 refine⟨?_,?_,?_,?_,?_,?_,?_,?_⟩ <;> (rintro rfl;first|(revert h;decide)|(revert h2;decide))
set_option maxHeartbeats 8000000 in
set_option maxRecDepth 100000 in
theorem pdefault_any {w:World}{bp:Nat}{s:ByteArray}{i:Nat}(h:PAt w bp s i) (hs:s.size≤300) (hi:i≤s.size) :
 Calls Tryz.prog 172 #[.pointer (some ⟨bp,0,none⟩)] w (PDefPost w bp s i):=by
 obtain⟨POST,hPOST⟩:∃ P,Hid (P=PDefPost w bp s i):=⟨_,rfl⟩
 rw[← hPOST.out]
 have hbp:=h.lt
 have start:=hide (show PDInv w bp s i (s.size-i) (.int .i64 0) w from⟨i,0,rfl,rfl,Nat.le_refl _,Nat.zero_le _,hi,h,Fr.refl _ _,Nat.le_refl _⟩)
 replace h:=hide h
 go_enter Tryz.func172,Tryz.ntmps172
 go_wp2_with (go_at_call 103;refine(pspot_any h.out).mono ?_;rintro e w' ⟨rfl,hw'⟩;rw[hw'];clear hw')
 go_loopg [4] (s.size-i) (fun n ov W=>PDInv w bp s i n ov W)
 case atStart=>exact start.out
 case round=>
  clear start
  obtain⟨k,o,rfl,hpd,hik,hok,hkl,h1,hf1,hn⟩:=hrel
  have c0:=h1.c0
  have c1:=h1.c1
  replace hpd:=hide hpd
  have hbw:bp<wr.heap.size:=h1.lt
  have hik':(i:Int)≤(k:Int):=by omega
  have hkl':(k:Int)≤(s.size:Int):=by omega
  replace hf1:=hide hf1
  replace h1:=hide h1
  have fin:Hid (∀ W,Still wr W→(pD s i 0).getD s.size=k→POST (.returned (.pointer (some ⟨W.heap.size,0,none⟩))) (W.alloc (.cells #[.int .i64 (i:Int),.string (s.extract i k),.nilIface] 153))):=hide (fun W hW he=>by
   rw[hPOST.out]
   have hF:=hf1.out.still hW
   exact⟨k,W.heap.size,he.symm,hik,hkl,hF.size,rfl,Blk.new W _ _,hF.alloc _,Blk.alloc (h1.out.still hW) _⟩)
  by_cases hk:k<s.size
  ·have hk':(k:Int)<(s.size:Int):=by omega
   obtain⟨c,hc⟩:∃ c,bt s k=c:=⟨_,rfl⟩
   have hbk:((s[k]'hk).toNat:Int)=(c:Int):=by rw[← hc,bt_eq s k hk]
   have hS:=pD_step o hk
   rw[hc,← hpd.out] at hS
   replace hc:=hide hc
   have f1:=h1.out.thaw 1
   by_cases hstop:o=0∧(c=44∨c=41)
   ·rw[if_pos hstop] at hS
    have hpe:=hide (show(pD s i 0).getD s.size=k by rw[hS];rfl)
    clear hS
    obtain⟨rfl,hcc⟩:=hstop
    rcases hcc with rfl|rfl
    all_goals
     go_wp2_with fail
     go_quiet (fail)
     go_wp2_with fail
     go_quiet (fail)
     go_wp2_with fail
     refine wp_regionC 13 (fun W=>W.cell? ⟨bp,0,none⟩=some (.string s)∧W.cell? ⟨bp,1,none⟩=some (.int .i64 (k:Int))) (by kernel_rfl) ?_
     refine wpAnyC_take 0 ?v0 rfl (by kernel_rfl) (fun _ _ _ h=>h) (by kernel_rfl) ?y0 ?_
     case y0=>(rintro W ⟨h1,h2⟩;go_simp <;> rfl)
     refine wpAnyC_take 1 ?v1 rfl (by kernel_rfl) (fun _ _ _ h=>h) (by kernel_rfl) ?y1 ?_
     case y1=>(rintro W ⟨h1,h2⟩;go_simp <;> rfl)
     refine wpAnyC_take 2 ?v2 rfl (by kernel_rfl) (fun _ _ _ h=>h) (by kernel_rfl) ?y2 ?_
     case y2=>(rintro W ⟨h1,h2⟩;go_simp <;> rfl)
     refine wpAnyC_take 3 ?v3 rfl (by kernel_rfl) (fun _ _ _ h=>h) (by kernel_rfl) ?y3 ?_
     case y3=>(rintro W ⟨h1,h2⟩;go_simp <;> rfl)
     refine wpAnyC_take 4 ?v4 rfl (by kernel_rfl) (fun _ _ _ h=>h) (by kernel_rfl) ?y4 ?_
     case y4=>(rintro W ⟨h1,h2⟩;go_simp <;> rfl)
     refine wpAnyC_take 5 ?v5 rfl (by kernel_rfl) (fun _ _ _ h=>h) (by kernel_rfl) ?y5 ?_
     case y5=>(rintro W ⟨h1,h2⟩;go_simp <;> rfl)
     refine wpAnyC_take 6 ?v6 rfl (by kernel_rfl) (fun _ _ _ h=>h) (by kernel_rfl) ?y6 ?_
     case y6=>(rintro W ⟨h1,h2⟩;go_simp <;> rfl)
     refine wpAnyC_take 7 ?v7 rfl (by kernel_rfl) (fun _ _ _ h=>h) (by kernel_rfl) ?y7 ?_
     case y7=>(rintro W ⟨h1,h2⟩;go_simp <;> rfl)
     refine wpAnyC_take 8 ?v8 rfl (by kernel_rfl) (fun _ _ _ h=>h) (by kernel_rfl) ?y8 ?_
     case y8=>(rintro W ⟨h1,h2⟩;go_simp <;> rfl)
     refine wpAnyC_take 9 ?v9 rfl (by kernel_rfl) (fun _ _ _ h=>h) (by kernel_rfl) ?y9 ?_
     case y9=>(rintro W ⟨h1,h2⟩;go_simp <;> rfl)
     refine wpAnyC_take 10 ?v10 rfl (by kernel_rfl) (fun _ _ _ h=>h) (by kernel_rfl) ?y10 ?_
     case y10=>(rintro W ⟨h1,h2⟩;go_simp <;> rfl)
     refine wpAnyC_take 11 ?v11 rfl (by kernel_rfl) (fun _ _ _ h=>h) (by kernel_rfl) ?y11 ?_
     case y11=>(rintro W ⟨h1,h2⟩;go_simp <;> rfl)
     refine wpAnyC_one 12 rfl (by kernel_rfl) (fun _=>⟨c0,c1⟩) (fun K hK=>?_)
     go_simp
     refine hK _ _ ?_
     clear hK K
     refine wpAnyC_one 13 rfl (by kernel_rfl) (fun _=>⟨(World.cell?_alloc_past _ _ _ (by exact hbw)).trans c0,(World.cell?_alloc_past _ _ _ (by exact hbw)).trans c1⟩) (fun K hK=>?_)
     go_simp
     refine hK _ _ ?_
     clear hK K
     refine wpAnyC_done (by kernel_rfl) (fun hm=>absurd hm (by decide)) ?_ _
     go_wp2_with fail
     try go_ret
     exact fin.out (wr.drewN _) (Still.drewN _ _) hpe.out
   ·rw[if_neg hstop] at hS
    replace hS:=hide hS
    have hpost:Hid (∀ (o':Int) (W:World),o'=(level c o:Nat)→Still wr W→PDInv w bp s i (s.size-(k+1)) (.int .i64 o') (W.setCell ⟨bp,1,none⟩ (.int .i64 ((k:Int)+1)))):=hide (fun o' W ho' hW=>by
     have h2:=h1.out.still hW
     exact⟨k+1,level c o,by rw[ho'],hS.out,by omega,by unfold level;split <;> (try split) <;> omega,hk,h2.inc,(hf1.out.still hW).setCell _ _ (fun _=>rfl),Nat.le_refl _⟩)
    replace hstop:=hide hstop
    cases ho:opens c <;> cases hcl:closes c
    case true.true=>exact(not_both ho hcl).elim
    case false.false=>
     have hlv:level c o=o:=by simp[level,ho,hcl]
     replace hlv:=hide hlv
     obtain⟨m1,m2,m3,m4,m5,m6,m7,m8⟩:=neither_cases ho hcl
     clear ho hcl
     have e1:((c:Int)==40)=false:=by simp;omega
     have e2:((c:Int)==91)=false:=by simp;omega
     have e3:((c:Int)==123)=false:=by simp;omega
     have e4:((c:Int)==60)=false:=by simp;omega
     have e5:((c:Int)==41)=false:=by simp;omega
     have e6:((c:Int)==93)=false:=by simp;omega
     have e7:((c:Int)==125)=false:=by simp;omega
     have e8:((c:Int)==62)=false:=by simp;omega
     by_cases ho0:o=0
     ·subst ho0
      have e9:((c:Int)==44)=false:=by have:=hstop.out;simp;omega
      go_wp2_with fail
      go_quiet (fail)
      go_wp2_with fail
      go_quiet (fail)
      go_wp2_with fail
      go_roundg (s.size-(k+1))
      case measure=>omega
      case rel=>exact hpost.out _ _ (by rw[hlv.out] <;> omega) (by first|exact Still.drewN _ _|exact(Still.drewN _ _).trans (Still.drewN _ _)|exact((Still.drewN _ _).trans (Still.drewN _ _)).trans (Still.drewN _ _))
     ·have n0:((o:Int)==0)=false:=by simp;omega
      go_wp2_with fail
      go_quiet (fail)
      go_wp2_with fail
      go_quiet (fail)
      go_wp2_with fail
      go_roundg (s.size-(k+1))
      case measure=>omega
      case rel=>exact hpost.out _ _ (by rw[hlv.out] <;> omega) (by first|exact Still.drewN _ _|exact(Still.drewN _ _).trans (Still.drewN _ _)|exact((Still.drewN _ _).trans (Still.drewN _ _)).trans (Still.drewN _ _))
    case true.false=>
     have hlv:level c o=o+1:=by simp[level,ho]
     replace hlv:=hide hlv
     have hc4:=opens_cases ho
     clear ho hcl
     rcases hc4 with rfl|rfl|rfl|rfl
     all_goals
      by_cases ho0:o=0
      ·subst ho0
       go_wp2_with fail
       go_quiet (fail)
       go_wp2_with fail
       go_quiet (fail)
       go_wp2_with fail
       go_roundg (s.size-(k+1))
       case measure=>omega
       case rel=>exact hpost.out _ _ (by rw[hlv.out] <;> omega) (by first|exact Still.drewN _ _|exact(Still.drewN _ _).trans (Still.drewN _ _)|exact((Still.drewN _ _).trans (Still.drewN _ _)).trans (Still.drewN _ _))
      ·have n0:((o:Int)==0)=false:=by simp;omega
       have hob:(o:Int)≤300:=by omega
       go_wp2_with fail
       go_quiet (fail)
       go_wp2_with fail
       go_quiet (fail)
       go_wp2_with fail
       go_roundg (s.size-(k+1))
       case measure=>omega
       case rel=>exact hpost.out _ _ (by rw[hlv.out] <;> omega) (by first|exact Still.drewN _ _|exact(Still.drewN _ _).trans (Still.drewN _ _)|exact((Still.drewN _ _).trans (Still.drewN _ _)).trans (Still.drewN _ _))
    case false.true=>
     have hlv:level c o=o-1:=by simp[level,ho,hcl]
     replace hlv:=hide hlv
     have hc4:=closes_cases hcl
     clear ho hcl
     by_cases ho0:o=0
     ·subst ho0
      have hc3:c=93∨c=125∨c=62:=by have:=hstop.out;omega
      clear hc4
      rcases hc3 with rfl|rfl|rfl
      all_goals
       go_wp2_with fail
       go_quiet (fail)
       go_wp2_with fail
       go_quiet (fail)
       go_wp2_with fail
       go_roundg (s.size-(k+1))
       case measure=>omega
       case rel=>exact hpost.out _ _ (by rw[hlv.out] <;> omega) (by first|exact Still.drewN _ _|exact(Still.drewN _ _).trans (Still.drewN _ _)|exact((Still.drewN _ _).trans (Still.drewN _ _)).trans (Still.drewN _ _))
     ·have n0:((o:Int)==0)=false:=by simp;omega
      have hob:(o:Int)≤300:=by omega
      have hmx:max ((o:Int)-1) 0=(o:Int)-1:=by omega
      rcases hc4 with rfl|rfl|rfl|rfl
      all_goals
       go_wp2_with fail
       go_quiet (fail)
       go_wp2_with fail
       go_quiet (fail)
       go_wp2_with fail
       go_roundg (s.size-(k+1))
       case measure=>omega
       case rel=>exact hpost.out _ _ (by rw[hlv.out] <;> omega) (by first|exact Still.drewN _ _|exact(Still.drewN _ _).trans (Still.drewN _ _)|exact((Still.drewN _ _).trans (Still.drewN _ _)).trans (Still.drewN _ _))
  ·have hke:k=s.size:=by omega
   have hpe:=hide (show(pD s i 0).getD s.size=k by rw[hpd.out,pD_end (by omega),Option.getD_none];exact hke.symm)
   have hk':¬ ((k:Int)<(s.size:Int)):=by omega
   clear hke
   go_wp2_with fail
   go_quiet (fail)
   go_wp2_with fail
   refine wp_regionC 13 (fun W=>W.cell? ⟨bp,0,none⟩=some (.string s)∧W.cell? ⟨bp,1,none⟩=some (.int .i64 (k:Int))) (by kernel_rfl) ?_
   refine wpAnyC_take 0 ?v0 rfl (by kernel_rfl) (fun _ _ _ h=>h) (by kernel_rfl) ?y0 ?_
   case y0=>(rintro W ⟨h1,h2⟩;go_simp <;> rfl)
   refine wpAnyC_take 1 ?v1 rfl (by kernel_rfl) (fun _ _ _ h=>h) (by kernel_rfl) ?y1 ?_
   case y1=>(rintro W ⟨h1,h2⟩;go_simp <;> rfl)
   refine wpAnyC_take 2 ?v2 rfl (by kernel_rfl) (fun _ _ _ h=>h) (by kernel_rfl) ?y2 ?_
   case y2=>(rintro W ⟨h1,h2⟩;go_simp <;> rfl)
   refine wpAnyC_take 3 ?v3 rfl (by kernel_rfl) (fun _ _ _ h=>h) (by kernel_rfl) ?y3 ?_
   case y3=>(rintro W ⟨h1,h2⟩;go_simp <;> rfl)
   refine wpAnyC_take 4 ?v4 rfl (by kernel_rfl) (fun _ _ _ h=>h) (by kernel_rfl) ?y4 ?_
   case y4=>(rintro W ⟨h1,h2⟩;go_simp <;> rfl)
   refine wpAnyC_take 5 ?v5 rfl (by kernel_rfl) (fun _ _ _ h=>h) (by kernel_rfl) ?y5 ?_
   case y5=>(rintro W ⟨h1,h2⟩;go_simp <;> rfl)
   refine wpAnyC_take 6 ?v6 rfl (by kernel_rfl) (fun _ _ _ h=>h) (by kernel_rfl) ?y6 ?_
   case y6=>(rintro W ⟨h1,h2⟩;go_simp <;> rfl)
   refine wpAnyC_take 7 ?v7 rfl (by kernel_rfl) (fun _ _ _ h=>h) (by kernel_rfl) ?y7 ?_
   case y7=>(rintro W ⟨h1,h2⟩;go_simp <;> rfl)
   refine wpAnyC_take 8 ?v8 rfl (by kernel_rfl) (fun _ _ _ h=>h) (by kernel_rfl) ?y8 ?_
   case y8=>(rintro W ⟨h1,h2⟩;go_simp <;> rfl)
   refine wpAnyC_take 9 ?v9 rfl (by kernel_rfl) (fun _ _ _ h=>h) (by kernel_rfl) ?y9 ?_
   case y9=>(rintro W ⟨h1,h2⟩;go_simp <;> rfl)
   refine wpAnyC_take 10 ?v10 rfl (by kernel_rfl) (fun _ _ _ h=>h) (by kernel_rfl) ?y10 ?_
   case y10=>(rintro W ⟨h1,h2⟩;go_simp <;> rfl)
   refine wpAnyC_take 11 ?v11 rfl (by kernel_rfl) (fun _ _ _ h=>h) (by kernel_rfl) ?y11 ?_
   case y11=>(rintro W ⟨h1,h2⟩;go_simp <;> rfl)
   refine wpAnyC_one 12 rfl (by kernel_rfl) (fun _=>⟨c0,c1⟩) (fun K hK=>?_)
   go_simp
   refine hK _ _ ?_
   clear hK K
   refine wpAnyC_one 13 rfl (by kernel_rfl) (fun _=>⟨(World.cell?_alloc_past _ _ _ (by exact hbw)).trans c0,(World.cell?_alloc_past _ _ _ (by exact hbw)).trans c1⟩) (fun K hK=>?_)
   go_simp
   refine hK _ _ ?_
   clear hK K
   refine wpAnyC_done (by kernel_rfl) (fun hm=>absurd hm (by decide)) ?_ _
   go_wp2_with fail
   try go_ret
   exact fin.out (wr.drewN _) (Still.drewN _ _) hpe.out
end Go.Proofs.YtiifagiebikmdaaGreatDoor
