import Derived.Test.YtiifagiebikmdaaGreatDoorBK15
namespace Go.Proofs.YtiifagiebikmdaaGreatDoor
open Go.RowKit
theorem Fr.four (w:World) (b:Nat) (v0 v1 v2 v3:Value):Fr w ((((w.setCell ⟨b,0,none⟩ v0).setCell ⟨b,1,none⟩ v1).setCell ⟨b,2,none⟩ v2).setCell ⟨b,3,none⟩ v3) (fun g=>g=b):=
 ((((Fr.refl w (fun g=>g=b)).setCell ⟨b,0,none⟩ v0 (fun _=>rfl)).setCell ⟨b,1,none⟩ v1 (fun _=>rfl)).setCell ⟨b,2,none⟩ v2 (fun _=>rfl)).setCell ⟨b,3,none⟩ v3 (fun _=>rfl)
theorem Blk.four {w:World}{b t:Nat}{u0 u1 u2 u3:Value}(h:Blk w b [u0,u1,u2,u3] t) (v0 v1 v2 v3:Value):Blk ((((w.setCell ⟨b,0,none⟩ v0).setCell ⟨b,1,none⟩ v1).setCell ⟨b,2,none⟩ v2).setCell ⟨b,3,none⟩ v3) b [v0,v1,v2,v3] t:=
 (((h.set 0 v0).set 1 v1).set 2 v2).set 3 v3
def PFldPost (w:World) (bp:Nat) (s:ByteArray) (i:Nat) (et:TypeId) (ex:Value) (e:Ending) (w':World):Prop:=
 ∃ (a b:Int) (c d ev:Value),e=.returned (.tuple #[.agg #[.int .i64 a,.int .u8 b,c,d],ev])∧IfV c∧(∃ q,d=.pointer q)∧Fr w w' (· = bp)∧
  ((∃ f j,ev=.nilIface∧PAt w' bp s j∧j≤s.size∧FldV w' (fun g=>w.heap.size≤g) s f (.int .i64 a) (.int .u8 b) c d∧(pField s i=.ok (f,j)∨(pField s i=.error s.size∧j=s.size)))∨
   (∃ k,pField s i=.error k∧FaultAt w' w.heap.size ev (k:Int) (.iface et ex)∧∃ j,j≤s.size∧PAt w' bp s j))
theorem pfield_err {w W:World}{bp:Nat}{s:ByteArray}{i k j lo:Nat}{et:TypeId}{ex ev:Value}(hk:pField s i=.error k) (hF:FaultAt W lo ev (k:Int) (.iface et ex)) (hf:Fr w W (· = bp)) (hlo:w.heap.size<lo) (hbp:bp<w.heap.size) (h:PAt W bp s j) (hj:j≤s.size) :
 PFldPost w bp s i et ex (.returned (.tuple #[.agg #[.int .i64 0,.int .u8 0,.nilIface,.pointer none],ev])) ((((W.setCell ⟨w.heap.size,0,none⟩ (.int .i64 0)).setCell ⟨w.heap.size,1,none⟩ (.int .u8 0)).setCell ⟨w.heap.size,2,none⟩ .nilIface).setCell ⟨w.heap.size,3,none⟩ (.pointer none)):=by
 have h4:=Fr.four W w.heap.size (.int .i64 0) (.int .u8 0) .nilIface (.pointer none)
 exact⟨0,0,.nilIface,.pointer none,ev,rfl,.inl rfl,⟨_,rfl⟩,hf.trans h4 (fun x hx e=>by omega),.inr ⟨k,hk,(hF.fr h4 (fun g hg e=>by omega)).less (by omega),j,hj,h4.blk h (by omega)⟩⟩
set_option maxHeartbeats 8000000 in
set_option maxRecDepth 100000 in
theorem pfield_any {w:World}{bp:Nat}{s:ByteArray}{i:Nat}{et:TypeId}{ex:Value}(h:PAt w bp s i) (hG:Gram w et ex) (hne:bp≠0) (hs:s.size≤300) (hi:i≤s.size) :
 Calls Tryz.prog 161 #[.pointer (some ⟨bp,0,none⟩)] w (PFldPost w bp s i et ex):=by
 obtain⟨POST,hPOST⟩:∃ P,Hid (P=PFldPost w bp s i et ex):=⟨_,rfl⟩
 rw[← hPOST.out]
 have hbp:=h.lt
 have h0:=hide (show PAt (w.alloc (.cells #[.int .i64 0,.int .u8 0,.nilIface,.pointer none] 149)) bp s i from Blk.alloc h _)
 have F0:=hide (show Fr w (w.alloc (.cells #[.int .i64 0,.int .u8 0,.nilIface,.pointer none] 149)) (fun x=>x=bp) from(Fr.refl w _).alloc _)
 have B0:=hide (Blk.new w #[.int .i64 0,.int .u8 0,.nilIface,.pointer none] 149)
 have hz0:(w.alloc (.cells #[.int .i64 0,.int .u8 0,.nilIface,.pointer none] 149)).heap.size=w.heap.size+1:=by simp
 have G0:=hide (hG.fr F0.out (Ne.symm hne))
 replace hz0:=hide hz0
 have hGw:=hide hG
 clear h hG
 obtain⟨x,hx⟩:∃ x,bt s i=x:=⟨_,rfl⟩
 cases hsm:isSmall x with
 | false=>
  have herr:=hide (show pField s i=.error i by unfold pField;rw[hx,hsm];rfl)
  replace hsm:=hide (show isSmall (bt s i)=false by rw[hx];exact hsm)
  replace hx:=hide hx
  go_enter Tryz.func161,Tryz.ntmps161
  go_wp2_with (first
   |(go_at_call 162;refine(pletter_any h0.out G0.out hne hs hi).mono ?_;rintro e w1 ⟨a,b,ev,rfl,hf1,hm⟩;obtain⟨g,hg1,rfl,hg2,h1⟩:∃ g,(w.alloc (.cells #[.int .i64 0,.int .u8 0,.nilIface,.pointer none] 149)).heap.size≤g∧ev=.iface 139 (.pointer (some ⟨g,0,none⟩))∧Blk w1 g [.int .i64 (i:Int),.iface et ex] 141∧PAt w1 bp s i:=(by rcases hm with⟨hq,_⟩|⟨_,⟨g,q1,q2,q3⟩,q4⟩;(exact absurd (hsm.out.symm.trans hq) (by decide));exact⟨g,q1,q2,q3,q4⟩);have D1:=(hf1.blk B0.out (by omega)).alloc (.cells #[.int .i64 a,.int .u8 b] 146);have r0:=D1.cell 0;have r1:=D1.cell 1;have r2:=D1.cell 2;have r3:=D1.cell 3;have g0:=D1.thaw 0;have g1:=D1.thaw 1;have g2:=D1.thaw 2;have g3:=D1.thaw 3;simp only[List.getElem?_cons_zero,List.getElem?_cons_succ] at r0 r1 r2 r3;replace D1:=hide D1;replace hf1:=hide hf1;replace hg2:=hide hg2;replace h1:=hide h1))
  have S2:=Blk.four D1.out (.int .i64 0) (.int .u8 0) (.nilIface) (.pointer none)
  have q0:=S2.cell 0
  have q1:=S2.cell 1
  have q2:=S2.cell 2
  have q3:=S2.cell 3
  simp only[List.getElem?_cons_zero,List.getElem?_cons_succ] at q0 q1 q2 q3
  refine bodyPost_ret (v:=.tuple #[.agg #[.int .i64 0,.int .u8 0,.nilIface,.pointer none],.iface 139 (.pointer (some ⟨g,0,none⟩))]) (by simp[results,Tryz.results161,go_sem,q0,q1,q2,q3]) rfl ?_
  rw[hPOST.out]
  exact pfield_err herr.out (lo:=(w.alloc (.cells #[.int .i64 0,.int .u8 0,.nilIface,.pointer none] 149)).heap.size) ⟨g,hg1,rfl,hg2.out.alloc _⟩ ((F0.out.trans hf1.out (fun _ _ e=>e)).alloc _) (by rw[hz0.out];omega) hbp (Blk.alloc h1.out _) hi
 | true=>
  have hlt:i+1≤s.size:=bt_pos (isSmall_pos (by rw[hx];exact hsm))
  by_cases h58:bt s (i+1)=58
  case neg=>
   have herr:=hide (show pField s i=.error (i+1) by unfold pField;rw[hx,hsm,if_pos rfl,if_neg h58])
   replace hsm:=hide (show isSmall (bt s i)=true by rw[hx];exact hsm)
   replace hx:=hide hx
   replace h58:=hide h58
   go_enter Tryz.func161,Tryz.ntmps161
   go_wp2_with (first
    |(go_at_call 162;refine(pletter_any h0.out G0.out hne hs hi).mono ?_;rintro e w1 ⟨a,b,ev,rfl,hf1,hm⟩;obtain⟨rfl,rfl,rfl,h1⟩:a=(i:Int)∧b=(x:Int)∧ev=.nilIface∧PAt w1 bp s (i+1):=(by rcases hm with⟨_,q1,q2,q3,q4,_⟩|⟨hq,_⟩;(exact⟨q1,q2.trans (by rw[hx.out]),q3,q4⟩);exact absurd (hsm.out.symm.trans hq) (by decide));have P1:=Blk.alloc h1 (.cells #[.int .i64 (i:Int),.int .u8 (x:Int)] 146);have F1:=(F0.out.trans hf1 (fun _ _ e=>e)).alloc (.cells #[.int .i64 (i:Int),.int .u8 (x:Int)] 146);have G1:=hGw.out.fr F1 (Ne.symm hne);have L1:=Blk.new w1 #[.int .i64 (i:Int),.int .u8 (x:Int)] 146;have D1:=(hf1.blk B0.out (by omega)).alloc (.cells #[.int .i64 (i:Int),.int .u8 (x:Int)] 146);have hs1:=hf1.size;have hz1:(w1.alloc (.cells #[.int .i64 (i:Int),.int .u8 (x:Int)] 146)).heap.size=w1.heap.size+1:=(by simp);rw[hz0.out] at hs1;replace P1:=hide (show PAt _ bp s (i+1) from P1);replace F1:=hide F1;replace G1:=hide G1;replace L1:=hide L1;replace D1:=hide D1;replace hz1:=hide hz1;clear hf1 h1 hm)
    |(go_at_call 105;refine(pexpect_any 58 P1.out G1.out hne hs hlt rfl (by decide)).mono ?_;rintro e w2 ⟨v2,rfl,hf2,hE⟩;obtain⟨g,hg1,rfl,hg2,h2⟩:∃ g,(w1.alloc (.cells #[.int .i64 (i:Int),.int .u8 (x:Int)] 146)).heap.size≤g∧v2=.iface 139 (.pointer (some ⟨g,0,none⟩))∧Blk w2 g [.int .i64 ((i+1:Nat):Int),.iface et ex] 141∧PAt w2 bp s (i+1):=(by rcases hE with⟨hq,_⟩|⟨_,⟨g,q1,q2,q3⟩,q4⟩;(exact absurd hq h58.out);exact⟨g,q1,q2,q3,q4⟩);have D2:=hf2.blk D1.out (by omega);have r0:=D2.cell 0;have r1:=D2.cell 1;have r2:=D2.cell 2;have r3:=D2.cell 3;have g0:=D2.thaw 0;have g1:=D2.thaw 1;have g2:=D2.thaw 2;have g3:=D2.thaw 3;simp only[List.getElem?_cons_zero,List.getElem?_cons_succ] at r0 r1 r2 r3;replace D2:=hide D2;replace hf2:=hide hf2;replace hg2:=hide hg2;replace h2:=hide h2))
   have S2:=Blk.four D2.out (.int .i64 0) (.int .u8 0) (.nilIface) (.pointer none)
   have q0:=S2.cell 0
   have q1:=S2.cell 1
   have q2:=S2.cell 2
   have q3:=S2.cell 3
   simp only[List.getElem?_cons_zero,List.getElem?_cons_succ] at q0 q1 q2 q3
   refine bodyPost_ret (v:=.tuple #[.agg #[.int .i64 0,.int .u8 0,.nilIface,.pointer none],.iface 139 (.pointer (some ⟨g,0,none⟩))]) (by simp[results,Tryz.results161,go_sem,q0,q1,q2,q3]) rfl ?_
   rw[hPOST.out]
   exact pfield_err herr.out (lo:=(w1.alloc (.cells #[.int .i64 (i:Int),.int .u8 (x:Int)] 146)).heap.size) ⟨g,hg1,rfl,hg2.out⟩ (F1.out.trans hf2.out (fun _ _ e=>e)) (by rw[hz1.out];omega) hbp h2.out hlt
  case pos=>
  have hlt2:i+2≤s.size:=bt_pos (s:=s) (i:=i+1) (by omega)
  have hbd:=pT_bounds (s:=s) hlt2
  cases hp:pT s (i+2) with
  | error k=>
   have herr:=hide (show pField s i=.error k by unfold pField;rw[hx,hsm,if_pos rfl,if_pos h58,hp])
   replace hsm:=hide (show isSmall (bt s i)=true by rw[hx];exact hsm)
   replace hx:=hide hx
   replace h58:=hide h58
   replace hp:=hide hp
   clear hbd
   go_enter Tryz.func161,Tryz.ntmps161
   go_wp2_with (first
    |(go_at_call 162;refine(pletter_any h0.out G0.out hne hs hi).mono ?_;rintro e w1 ⟨a,b,ev,rfl,hf1,hm⟩;obtain⟨rfl,rfl,rfl,h1⟩:a=(i:Int)∧b=(x:Int)∧ev=.nilIface∧PAt w1 bp s (i+1):=(by rcases hm with⟨_,q1,q2,q3,q4,_⟩|⟨hq,_⟩;(exact⟨q1,q2.trans (by rw[hx.out]),q3,q4⟩);exact absurd (hsm.out.symm.trans hq) (by decide));have P1:=Blk.alloc h1 (.cells #[.int .i64 (i:Int),.int .u8 (x:Int)] 146);have F1:=(F0.out.trans hf1 (fun _ _ e=>e)).alloc (.cells #[.int .i64 (i:Int),.int .u8 (x:Int)] 146);have G1:=hGw.out.fr F1 (Ne.symm hne);have L1:=Blk.new w1 #[.int .i64 (i:Int),.int .u8 (x:Int)] 146;have D1:=(hf1.blk B0.out (by omega)).alloc (.cells #[.int .i64 (i:Int),.int .u8 (x:Int)] 146);have hs1:=hf1.size;have hz1:(w1.alloc (.cells #[.int .i64 (i:Int),.int .u8 (x:Int)] 146)).heap.size=w1.heap.size+1:=(by simp);rw[hz0.out] at hs1;replace P1:=hide (show PAt _ bp s (i+1) from P1);replace F1:=hide F1;replace G1:=hide G1;replace L1:=hide L1;replace D1:=hide D1;replace hz1:=hide hz1;clear hf1 h1 hm)
    |(go_at_call 105;refine(pexpect_any 58 P1.out G1.out hne hs hlt rfl (by decide)).mono ?_;rintro e w2 ⟨v2,rfl,hf2,hE⟩;obtain⟨rfl,h2⟩:v2=.nilIface∧PAt w2 bp s (i+2):=(by rcases hE with⟨_,q1,q2,_⟩|⟨hq,_⟩;(exact⟨q1,q2⟩);exact absurd h58.out hq);have hs2:=hf2.size;rw[hz1.out] at hs2;have D2:=hf2.blk D1.out (by omega);have L2:=hf2.blk L1.out (by omega);have F2:=F1.out.trans hf2 (fun _ _ e=>e);have G2:=hGw.out.fr F2 (Ne.symm hne);replace D2:=hide D2;replace L2:=hide L2;replace F2:=hide F2;replace G2:=hide G2;replace h2:=hide h2;clear hf2 hE)
    |(go_at_call 74;refine(ptyp_ok hs _ (i+2) (Nat.le_refl _) hlt2 w2 bp et ex h2.out G2.out hne).mono ?_;rintro e w3 ⟨v3,ev3,_,rfl,hf3,hm⟩;rw[hp.out] at hm;obtain⟨⟨g,hg1,rfl,hg2⟩,j3,hj3,h3⟩:=hm;have D3:=hf3.blk D2.out (by omega);have r0:=D3.cell 0;have r1:=D3.cell 1;have r2:=D3.cell 2;have r3:=D3.cell 3;have g0:=D3.thaw 0;have g1:=D3.thaw 1;have g2:=D3.thaw 2;have g3:=D3.thaw 3;simp only[List.getElem?_cons_zero,List.getElem?_cons_succ] at r0 r1 r2 r3;replace D3:=hide D3;replace hf3:=hide hf3;replace hg2:=hide hg2;replace h3:=hide h3))
   have S2:=Blk.four D3.out (.int .i64 0) (.int .u8 0) (.nilIface) (.pointer none)
   have q0:=S2.cell 0
   have q1:=S2.cell 1
   have q2:=S2.cell 2
   have q3:=S2.cell 3
   simp only[List.getElem?_cons_zero,List.getElem?_cons_succ] at q0 q1 q2 q3
   refine bodyPost_ret (v:=.tuple #[.agg #[.int .i64 0,.int .u8 0,.nilIface,.pointer none],.iface 139 (.pointer (some ⟨g,0,none⟩))]) (by simp[results,Tryz.results161,go_sem,q0,q1,q2,q3]) rfl ?_
   rw[hPOST.out]
   exact pfield_err herr.out (lo:=w2.heap.size) ⟨g,hg1,rfl,hg2.out⟩ (F2.out.trans hf3.out (fun _ _ e=>e)) (by omega) hbp h3.out hj3
  | ok r=>
  obtain⟨t,j⟩:=r
  have hj:=hbd.1 t j hp
  clear hbd
  by_cases h61:bt s j=61
  case neg=>
   have hres:=hide (show pField s i=.ok (⟨x,i,t,none⟩,j) by unfold pField;rw[hx,hsm,if_pos rfl,if_pos h58,hp];simp only;rw[if_neg h61])
   replace hsm:=hide (show isSmall (bt s i)=true by rw[hx];exact hsm)
   replace hx:=hide hx
   replace h58:=hide h58
   replace hp:=hide hp
   replace h61:=hide h61
   go_enter Tryz.func161,Tryz.ntmps161
   go_wp2_with (first
    |(go_at_call 162;refine(pletter_any h0.out G0.out hne hs hi).mono ?_;rintro e w1 ⟨a,b,ev,rfl,hf1,hm⟩;obtain⟨rfl,rfl,rfl,h1⟩:a=(i:Int)∧b=(x:Int)∧ev=.nilIface∧PAt w1 bp s (i+1):=(by rcases hm with⟨_,q1,q2,q3,q4,_⟩|⟨hq,_⟩;(exact⟨q1,q2.trans (by rw[hx.out]),q3,q4⟩);exact absurd (hsm.out.symm.trans hq) (by decide));have P1:=Blk.alloc h1 (.cells #[.int .i64 (i:Int),.int .u8 (x:Int)] 146);have F1:=(F0.out.trans hf1 (fun _ _ e=>e)).alloc (.cells #[.int .i64 (i:Int),.int .u8 (x:Int)] 146);have G1:=hGw.out.fr F1 (Ne.symm hne);have L1:=Blk.new w1 #[.int .i64 (i:Int),.int .u8 (x:Int)] 146;have D1:=(hf1.blk B0.out (by omega)).alloc (.cells #[.int .i64 (i:Int),.int .u8 (x:Int)] 146);have hs1:=hf1.size;have hz1:(w1.alloc (.cells #[.int .i64 (i:Int),.int .u8 (x:Int)] 146)).heap.size=w1.heap.size+1:=(by simp);rw[hz0.out] at hs1;replace P1:=hide (show PAt _ bp s (i+1) from P1);replace F1:=hide F1;replace G1:=hide G1;replace L1:=hide L1;replace D1:=hide D1;replace hz1:=hide hz1;clear hf1 h1 hm)
    |(go_at_call 105;refine(pexpect_any 58 P1.out G1.out hne hs hlt rfl (by decide)).mono ?_;rintro e w2 ⟨v2,rfl,hf2,hE⟩;obtain⟨rfl,h2⟩:v2=.nilIface∧PAt w2 bp s (i+2):=(by rcases hE with⟨_,q1,q2,_⟩|⟨hq,_⟩;(exact⟨q1,q2⟩);exact absurd h58.out hq);have hs2:=hf2.size;rw[hz1.out] at hs2;have D2:=hf2.blk D1.out (by omega);have L2:=hf2.blk L1.out (by omega);have F2:=F1.out.trans hf2 (fun _ _ e=>e);have G2:=hGw.out.fr F2 (Ne.symm hne);replace D2:=hide D2;replace L2:=hide L2;replace F2:=hide F2;replace G2:=hide G2;replace h2:=hide h2;clear hf2 hE)
    |(go_at_call 74;refine(ptyp_ok hs _ (i+2) (Nat.le_refl _) hlt2 w2 bp et ex h2.out G2.out hne).mono ?_;rintro e w3 ⟨v3,ev3,hI3,rfl,hf3,hm⟩;rw[hp.out] at hm;obtain⟨rfl,h3,hv3⟩:=hm;obtain⟨vT,vx,rfl⟩:∃ T x,v3=.iface T x:=(by cases hv3 <;> exact⟨_,_,rfl⟩);have hs3:=hf3.size;have D3:=hf3.blk D2.out (by omega);have L3:=hf3.blk L2.out (by omega);have F3:=F2.out.trans hf3 (fun _ _ e=>e);have l0:=L3.cell 0;have l1:=L3.cell 1;simp only[List.getElem?_cons_zero,List.getElem?_cons_succ] at l0 l1;have A4:=(Fr.refl w3 (fun _=>False)).alloc (.cells #[.int .i64 (i:Int),.int .u8 (x:Int),.iface vT vx,.pointer none] 149);have hz4:(w3.alloc (.cells #[.int .i64 (i:Int),.int .u8 (x:Int),.iface vT vx,.pointer none] 149)).heap.size=w3.heap.size+1:=(by simp);have D4:=A4.blk D3 id;have E4:=Blk.new w3 #[.int .i64 (i:Int),.int .u8 (x:Int),.iface vT vx,.pointer none] 149;have F4:=F3.trans A4 (fun _ _ f=>f.elim);have P4:=A4.blk h3 id;have V4:=(hv3.mono (Q:=fun g=>w3.heap.size≠g∧w.heap.size<g∧w1.heap.size<g) (fun g hg1 hg2=>by omega)).fr A4 (fun _ _ f=>f);replace V4:=hide V4;replace D4:=hide D4;replace E4:=hide E4;replace F4:=hide F4;replace P4:=hide (show PAt _ bp s j from P4);replace hz4:=hide hz4;clear hI3 hf3 h3 hv3 D3 L3 F3 A4)
    |(go_at_call 106;refine(ptake_no 61 P4.out hs hj.2 rfl (by decide) h61.out).mono ?_;rintro e w5 ⟨rfl,hf5,h5⟩;have D5:=hf5.blk D4.out (by omega);have E5:=hf5.blk E4.out (by omega);have r0:=D5.cell 0;have r1:=D5.cell 1;have r2:=D5.cell 2;have r3:=D5.cell 3;have g0:=D5.thaw 0;have g1:=D5.thaw 1;have g2:=D5.thaw 2;have g3:=D5.thaw 3;have e0:=E5.cell 0;have e1:=E5.cell 1;have e2:=E5.cell 2;have e3:=E5.cell 3;simp only[List.getElem?_cons_zero,List.getElem?_cons_succ] at r0 r1 r2 r3 e0 e1 e2 e3;replace D5:=hide D5;replace E5:=hide E5;replace hf5:=hide hf5;replace h5:=hide h5))
   have S2:=Blk.four D5.out (.int .i64 (i:Int)) (.int .u8 (x:Int)) (.iface vT vx) (.pointer none)
   have q0:=S2.cell 0
   have q1:=S2.cell 1
   have q2:=S2.cell 2
   have q3:=S2.cell 3
   simp only[List.getElem?_cons_zero,List.getElem?_cons_succ] at q0 q1 q2 q3
   refine bodyPost_ret (v:=.tuple #[.agg #[.int .i64 (i:Int),.int .u8 (x:Int),.iface vT vx,.pointer none],.nilIface]) (by simp[results,Tryz.results161,go_sem,q0,q1,q2,q3]) rfl ?_
   rw[hPOST.out]
   have h4:=Fr.four w5 w.heap.size (.int .i64 (i:Int)) (.int .u8 (x:Int)) (.iface vT vx) (.pointer none)
   refine⟨(i:Int),(x:Int),.iface vT vx,.pointer none,.nilIface,rfl,.inr ⟨_,_,rfl⟩,⟨_,rfl⟩,(F4.out.trans hf5.out (fun _ _ e=>e)).trans h4 (fun y hy e=>by omega),.inl ⟨⟨x,i,t,none⟩,j,rfl,h4.blk h5.out (by omega),hj.2,⟨rfl,rfl,?_,rfl⟩,.inl hres.out⟩⟩
   exact((V4.out.fr hf5.out (fun g hg e=>by omega)).fr h4 (fun g hg e=>by omega)).mono (fun g _ hg=>by omega)
  case pos=>
   have hlt3:j+1≤s.size:=bt_pos (s:=s) (i:=j) (by omega)
   have hres:=hide (show pField s i=(match pD s (j+1) 0 with|none=>.error s.size|some e=>.ok (⟨x,i,t,some (j+1,e)⟩,e)) by unfold pField;rw[hx,hsm,if_pos rfl,if_pos h58,hp];simp only;rw[if_pos h61];cases pD s (j+1) 0 <;> rfl)
   replace hsm:=hide (show isSmall (bt s i)=true by rw[hx];exact hsm)
   replace hx:=hide hx
   replace h58:=hide h58
   replace hp:=hide hp
   replace h61:=hide h61
   go_enter Tryz.func161,Tryz.ntmps161
   go_wp2_with (first
    |(go_at_call 162;refine(pletter_any h0.out G0.out hne hs hi).mono ?_;rintro e w1 ⟨a,b,ev,rfl,hf1,hm⟩;obtain⟨rfl,rfl,rfl,h1⟩:a=(i:Int)∧b=(x:Int)∧ev=.nilIface∧PAt w1 bp s (i+1):=(by rcases hm with⟨_,q1,q2,q3,q4,_⟩|⟨hq,_⟩;(exact⟨q1,q2.trans (by rw[hx.out]),q3,q4⟩);exact absurd (hsm.out.symm.trans hq) (by decide));have P1:=Blk.alloc h1 (.cells #[.int .i64 (i:Int),.int .u8 (x:Int)] 146);have F1:=(F0.out.trans hf1 (fun _ _ e=>e)).alloc (.cells #[.int .i64 (i:Int),.int .u8 (x:Int)] 146);have G1:=hGw.out.fr F1 (Ne.symm hne);have L1:=Blk.new w1 #[.int .i64 (i:Int),.int .u8 (x:Int)] 146;have D1:=(hf1.blk B0.out (by omega)).alloc (.cells #[.int .i64 (i:Int),.int .u8 (x:Int)] 146);have hs1:=hf1.size;have hz1:(w1.alloc (.cells #[.int .i64 (i:Int),.int .u8 (x:Int)] 146)).heap.size=w1.heap.size+1:=(by simp);rw[hz0.out] at hs1;replace P1:=hide (show PAt _ bp s (i+1) from P1);replace F1:=hide F1;replace G1:=hide G1;replace L1:=hide L1;replace D1:=hide D1;replace hz1:=hide hz1;clear hf1 h1 hm)
    |(go_at_call 105;refine(pexpect_any 58 P1.out G1.out hne hs hlt rfl (by decide)).mono ?_;rintro e w2 ⟨v2,rfl,hf2,hE⟩;obtain⟨rfl,h2⟩:v2=.nilIface∧PAt w2 bp s (i+2):=(by rcases hE with⟨_,q1,q2,_⟩|⟨hq,_⟩;(exact⟨q1,q2⟩);exact absurd h58.out hq);have hs2:=hf2.size;rw[hz1.out] at hs2;have D2:=hf2.blk D1.out (by omega);have L2:=hf2.blk L1.out (by omega);have F2:=F1.out.trans hf2 (fun _ _ e=>e);have G2:=hGw.out.fr F2 (Ne.symm hne);replace D2:=hide D2;replace L2:=hide L2;replace F2:=hide F2;replace G2:=hide G2;replace h2:=hide h2;clear hf2 hE)
    |(go_at_call 74;refine(ptyp_ok hs _ (i+2) (Nat.le_refl _) hlt2 w2 bp et ex h2.out G2.out hne).mono ?_;rintro e w3 ⟨v3,ev3,hI3,rfl,hf3,hm⟩;rw[hp.out] at hm;obtain⟨rfl,h3,hv3⟩:=hm;obtain⟨vT,vx,rfl⟩:∃ T x,v3=.iface T x:=(by cases hv3 <;> exact⟨_,_,rfl⟩);have hs3:=hf3.size;have D3:=hf3.blk D2.out (by omega);have L3:=hf3.blk L2.out (by omega);have F3:=F2.out.trans hf3 (fun _ _ e=>e);have l0:=L3.cell 0;have l1:=L3.cell 1;simp only[List.getElem?_cons_zero,List.getElem?_cons_succ] at l0 l1;have A4:=(Fr.refl w3 (fun _=>False)).alloc (.cells #[.int .i64 (i:Int),.int .u8 (x:Int),.iface vT vx,.pointer none] 149);have hz4:(w3.alloc (.cells #[.int .i64 (i:Int),.int .u8 (x:Int),.iface vT vx,.pointer none] 149)).heap.size=w3.heap.size+1:=(by simp);have D4:=A4.blk D3 id;have E4:=Blk.new w3 #[.int .i64 (i:Int),.int .u8 (x:Int),.iface vT vx,.pointer none] 149;have F4:=F3.trans A4 (fun _ _ f=>f.elim);have P4:=A4.blk h3 id;have V4:=(hv3.mono (Q:=fun g=>w3.heap.size≠g∧w.heap.size<g∧w1.heap.size<g) (fun g hg1 hg2=>by omega)).fr A4 (fun _ _ f=>f);replace V4:=hide V4;replace D4:=hide D4;replace E4:=hide E4;replace F4:=hide F4;replace P4:=hide (show PAt _ bp s j from P4);replace hz4:=hide hz4;clear hI3 hf3 h3 hv3 D3 L3 F3 A4)
    |(go_at_call 106;refine(ptake_yes 61 P4.out hs hj.2 rfl (by decide) h61.out).mono ?_;rintro e w5 ⟨rfl,hf5,h5⟩;have hs5:=hf5.size;rw[hz4.out] at hs5;have D5:=hf5.blk D4.out (by omega);have E5:=hf5.blk E4.out (by omega);replace D5:=hide D5;replace E5:=hide E5;replace hf5:=hide hf5;replace h5:=hide h5)
    |(go_at_call 172;refine(pdefault_any h5.out hs hlt3).mono ?_;rintro e w6 ⟨k6,q6,hk6,hjk6,hk6s,hq6,rfl,hB6,hf6,h6⟩;have hs6:=hf6.size;have D6:=hf6.blk D5.out (by omega);have E6:=hf6.blk E5.out (by omega);have d3:=E6.cell 3;have dg:=E6.thaw 3;have E7:=E6.set 3 (.pointer (some ⟨q6,0,none⟩));have hfs:Fr w6 (w6.setCell ⟨w3.heap.size,3,none⟩ (.pointer (some ⟨q6,0,none⟩))) (fun g=>g=w3.heap.size):=(Fr.refl w6 (fun g=>g=w3.heap.size)).setCell ⟨w3.heap.size,3,none⟩ _ (fun _=>rfl);have D7:=hfs.blk D6 (by omega);have r0:=D7.cell 0;have r1:=D7.cell 1;have r2:=D7.cell 2;have r3:=D7.cell 3;have g0:=D7.thaw 0;have g1:=D7.thaw 1;have g2:=D7.thaw 2;have g3:=D7.thaw 3;have e0:=E7.cell 0;have e1:=E7.cell 1;have e2:=E7.cell 2;have e3:=E7.cell 3;simp only[List.set_cons_zero,List.set_cons_succ,List.getElem?_cons_zero,List.getElem?_cons_succ] at d3 r0 r1 r2 r3 e0 e1 e2 e3;replace D7:=hide D7;replace E7:=hide E7;replace hfs:=hide hfs;replace hf6:=hide hf6;replace h6:=hide h6;replace hB6:=hide hB6;replace hk6:=hide hk6;clear D6 E6))
   have S2:=Blk.four D7.out (.int .i64 (i:Int)) (.int .u8 (x:Int)) (.iface vT vx) (.pointer (some ⟨q6,0,none⟩))
   have q0:=S2.cell 0
   have q1:=S2.cell 1
   have q2:=S2.cell 2
   have q3:=S2.cell 3
   simp only[List.getElem?_cons_zero,List.getElem?_cons_succ] at q0 q1 q2 q3
   refine bodyPost_ret (v:=.tuple #[.agg #[.int .i64 (i:Int),.int .u8 (x:Int),.iface vT vx,.pointer (some ⟨q6,0,none⟩)],.nilIface]) (by simp[results,Tryz.results161,go_sem,q0,q1,q2,q3]) rfl ?_
   rw[hPOST.out]
   have h4:=Fr.four (w6.setCell ⟨w3.heap.size,3,none⟩ (.pointer (some ⟨q6,0,none⟩))) w.heap.size (.int .i64 (i:Int)) (.int .u8 (x:Int)) (.iface vT vx) (.pointer (some ⟨q6,0,none⟩))
   have V7:=((((V4.out.fr hf5.out (fun g hg e=>by omega)).fr hf6.out (fun g hg e=>by omega)).fr hfs.out (fun g hg e=>by omega)).fr h4 (fun g hg e=>by omega)).mono (Q:=fun g=>w.heap.size≤g) (fun g _ hg=>by omega)
   have P7:=h4.blk (hfs.out.blk h6.out (by omega)) (by omega)
   have B7:=h4.blk (hfs.out.blk hB6.out (by omega)) (by omega)
   refine⟨(i:Int),(x:Int),.iface vT vx,.pointer (some ⟨q6,0,none⟩),.nilIface,rfl,.inr ⟨_,_,rfl⟩,⟨_,rfl⟩,(((F4.out.trans hf5.out (fun _ _ e=>e)).trans hf6.out (fun _ _ e=>e)).trans hfs.out (fun y hy e=>by omega)).trans h4 (fun y hy e=>by omega),.inl ⟨⟨x,i,t,some (j+1,k6)⟩,k6,rfl,P7,hk6s,⟨rfl,rfl,V7,?_⟩,?_⟩⟩
   ·exact⟨q6,.nilIface,by omega,rfl,.inl rfl,B7⟩
   ·have hk:=hk6.out
    rw[hres.out]
    cases hd:pD s (j+1) 0 with
    | none=>rw[hd] at hk;exact .inr ⟨rfl,hk⟩
    | some e=>rw[hd] at hk;simp only[Option.getD_some] at hk;subst hk;exact .inl rfl
open Go.RowKit
theorem TyV.iface {w:World}{P:Nat→Prop}{t:PT}{v:Value}(h:TyV w P t v):∃ T x,v=.iface T x:=by
 cases h <;> exact⟨_,_,rfl⟩
def PRecPost (w:World) (bp:Nat) (s:ByteArray) (i:Nat) (et:TypeId) (ex:Value) (e:Ending) (w':World):Prop:=
 ∃ v ev,IfV v∧e=.returned (.tuple #[v,ev])∧Fr w w' (· = bp)∧
 match pRecord s i with
 | .ok (fs,j)=>ev=.nilIface∧PAt w' bp s j∧BodyV w' (fun g=>w.heap.size≤g) s (.recd fs) v
 | .error k=>FaultAt w' w.heap.size ev (k:Int) (.iface et ex)∧∃ j,j≤s.size∧PAt w' bp s j
section
variable {w W W2:World} {bp:Nat} {s:ByteArray} {j b0:Nat} {L:List Value} {T ET:TypeId} {k:Nat} {sv v5:Value} {n:Nat} {xs:List Value}
theorem keepF {fs:List PF}{ys:List Value}(hH:Fr W W2 (fun g=>sv.ownBlock=some g∨g=b0)) (hn:∀ g,v5.ownBlock=some g→b0+1≤g∧(sv.ownBlock=some g∨W.heap.size≤g)) (h:FldsV W (fun g=>b0+1≤g∧sv.ownBlock≠some g) s fs ys):FldsV W2 (fun g=>b0+1≤g∧v5.ownBlock≠some g) s fs ys:=
 ((h.mono (Q:=fun g=>(b0+1≤g∧sv.ownBlock≠some g)∧g<W.heap.size) (fun _ h1 h2=>⟨h2,h1⟩)).fr hH (fun g hg e=>by
   rcases e with e|e
   ·exact hg.1.2 e
   ·have:=hg.1.1;omega)).mono (fun g _ hg=>⟨hg.1.1,fun e=>by
   rcases(hn g e).2 with q|q
   ·exact hg.1.2 q
   ·have:=hg.2;omega⟩)
theorem keepF1 {f:PF}{a b c d:Value}(hH:Fr W W2 (fun g=>sv.ownBlock=some g∨g=b0)) (hn:∀ g,v5.ownBlock=some g→b0+1≤g∧(sv.ownBlock=some g∨W.heap.size≤g)) (h:FldV W (fun g=>b0+1≤g∧sv.ownBlock≠some g) s f a b c d):FldV W2 (fun g=>b0+1≤g∧v5.ownBlock≠some g) s f a b c d:=
 ((h.mono (Q:=fun g=>(b0+1≤g∧sv.ownBlock≠some g)∧g<W.heap.size) (fun _ h1 h2=>⟨h2,h1⟩)).fr hH (fun g hg e=>by
   rcases e with e|e
   ·exact hg.1.2 e
   ·have:=hg.1.1;omega)).mono (fun g _ hg=>⟨hg.1.1,fun e=>by
   rcases(hn g e).2 with q|q
   ·exact hg.1.2 q
   ·have:=hg.2;omega⟩)
end
structure RF (w:World) (bp:Nat) (s:ByteArray) (j b0:Nat) (p:Int) (sv:Value) (fs:List PF) (xs:List Value) (W:World):Prop where
 A:AM w bp s j b0 [.int .i64 p,sv] 211 149 4 sv fs.length xs W
 F:FldsV W (fun g=>b0+1≤g∧sv.ownBlock≠some g) s fs xs
section
variable {w W W':World} {bp:Nat} {s:ByteArray} {j j' b0:Nat} {p:Int} {sv:Value} {fs:List PF} {xs:List Value}
theorem RF.call (M:RF w bp s j b0 p sv fs xs W) (h:PAt W' bp s j') (hf:Fr W W' (· = bp)):RF w bp s j' b0 p sv fs xs W':=by
 have h1:=M.A.lt
 have h2:=M.A.w0
 exact⟨M.A.call h hf,M.F.fr hf (fun g hg e=>by omega)⟩
theorem RF.alloc (M:RF w bp s j b0 p sv fs xs W) (o:Obj):RF w bp s j b0 p sv fs xs (W.alloc o):=M.call (Blk.alloc M.A.here o) ((Fr.refl W _).alloc o)
theorem RF.still (M:RF w bp s j b0 p sv fs xs W) (hW:Still W W'):RF w bp s j b0 p sv fs xs W':=M.call (M.A.here.still hW) ((Fr.refl W _).still hW)
theorem RF.item (M:RF w bp s j b0 p sv fs xs W){o:Obj}{w5:World}{v5 a b c d:Value}{f:PF}(hg:(W.alloc o).grownBy w5 sv.ownBlock) (ho:w5.ownsRow (b0+1) 149 4 v5 (fs.length+1) (xs++[a,b,c,d]))
 (hl:v5.ownBlock=sv.ownBlock∨v5.ownBlock=some (W.alloc o).heap.size) (hv:FldV W (fun g=>b0+1≤g∧sv.ownBlock≠some g) s f a b c d) :
 RF w bp s j b0 p v5 (fs++[f]) (xs++[a,b,c,d]) (w5.setCell ⟨b0,1,none⟩ v5):=by
 obtain⟨h1,h2,h3⟩:=M.A.item ((Fr.refl W _).alloc o) hg ho hl 1
 refine⟨?_,(keepF h2 h3 M.F).snoc M.A.row.1 (keepF1 h2 h3 hv)⟩
 rw[List.length_append,List.length_singleton]
 exact h1
theorem RF.body (M:RF w bp s j b0 p sv fs xs W) (q:Nat) (hp:p=(q:Int)):BodyV W (fun g=>w.heap.size≤g) s (.recd fs) (.iface 211 (.agg #[.int .i64 p,sv])):=by
 subst hp
 have:=M.A.w0
 exact .recd q (own_zero M.A.row) (fun g e=>by have:=M.A.row.lt g e;omega) (M.F.mono (fun g _ hg=>by have:=hg.1;omega))
end
def RFInv (w:World) (bp:Nat) (s:ByteArray) (i b0:Nat) (p:Int) (m:Nat) (W:World):Prop:=
 ∃ j sv fs xs,RF w bp s j b0 p sv fs xs W∧j≤s.size∧i+fs.length≤j∧s.size+1-j≤m∧pFields s i=aheadF fs (pFields s j)
theorem u_PFields:Tryz.prog.underlying 143=some (.slice 149):=by kernel_rfl
theorem i_PField:(Tryz.prog.info? 149).map (fun i=>(i.zero,i.size,i.bytes))=some (some (.agg #[.int .i64 0,.int .u8 0,.nilIface,.pointer none]),4,40):=by kernel_rfl
set_option maxHeartbeats 16000000 in
set_option maxRecDepth 100000 in
theorem precord_any {w:World}{bp:Nat}{s:ByteArray}{i p:Nat}{et:TypeId}{ex:Value}(h:PAt w bp s i) (hG:Gram w et ex) (hne:bp≠0) (hs:s.size≤300) (hi:i≤s.size) :
 Calls Tryz.prog 136 #[.pointer (some ⟨bp,0,none⟩),.int .i64 (p:Int)] w (PRecPost w bp s i et ex):=by
 obtain⟨POST,hPOST⟩:∃ P,Hid (P=PRecPost w bp s i et ex):=⟨_,rfl⟩
 rw[← hPOST.out]
 have hbp:=h.lt
 have hgl:=World.block_lt_of_cell? w ⟨0,0,none⟩ hG
 replace hG:=hide hG
 have hE:=hide (pexpect_any 40 (c:=40) h hG.out hne hs hi rfl (by decide))
 clear h
 by_cases h40:bt s i=40
 case neg=>
  have hres:=hide (show pRecord s i=.error i by unfold pRecord;rw[if_neg h40])
  replace h40:=hide h40
  go_enter Tryz.func136,Tryz.ntmps136
  go_wp2_with (go_at_call 105;refine hE.out.mono ?_;rintro e w1 ⟨v1,rfl,hf1,hm⟩;obtain⟨g,hg1,rfl,hg2,h1⟩:∃ g,w.heap.size≤g∧v1=.iface 139 (.pointer (some ⟨g,0,none⟩))∧Blk w1 g [.int .i64 (i:Int),.iface et ex] 141∧PAt w1 bp s i:=(by rcases hm with⟨hq,_⟩|⟨_,⟨g,q1,q2,q3⟩,q4⟩;(exact absurd hq h40.out);exact⟨g,q1,q2,q3,q4⟩);replace hf1:=hide hf1;replace hg2:=hide hg2;replace h1:=hide h1)
  try go_ret
  rw[hPOST.out]
  refine⟨.nilIface,_,.inl rfl,rfl,hf1.out,?_⟩
  rw[hres.out]
  exact⟨⟨g,hg1,rfl,hg2.out⟩,i,hi,h1.out⟩
 case pos=>
 have hlt:i+1≤s.size:=bt_pos (s:=s) (i:=i) (by omega)
 by_cases h41:bt s (i+1)=41
 case pos=>
  have hres:=hide (show pRecord s i=.ok ([],i+2) by unfold pRecord;rw[if_pos h40,if_pos h41])
  replace h40:=hide h40
  replace h41:=hide h41
  go_enter Tryz.func136,Tryz.ntmps136
  go_wp2_with (first
   |(go_at_call 105;refine hE.out.mono ?_;rintro e w1 ⟨v1,rfl,hf1,hm⟩;obtain⟨rfl,h1⟩:v1=.nilIface∧PAt w1 bp s (i+1):=(by rcases hm with⟨_,q1,q2,_⟩|⟨hq,_⟩;(exact⟨q1,q2⟩);exact absurd h40.out hq);have hs1:=hf1.size;replace hf1:=hide hf1;replace h1:=hide h1)
   |(go_at_call 106;refine(ptake_yes 41 (Blk.alloc h1.out (.cells #[.int .i64 (p:Int),.slice none 0 0] 211)) hs hlt rfl (by decide) h41.out).mono ?_;rintro e w2 ⟨rfl,hf2,h2⟩;have B2:=hf2.blk (Blk.new w1 #[.int .i64 (p:Int),.slice none 0 0] 211) (by omega);have c0:=B2.cell 0;have c1:=B2.cell 1;simp only[List.getElem?_cons_zero,List.getElem?_cons_succ] at c0 c1;replace hf2:=hide hf2;replace h2:=hide h2;replace B2:=hide B2))
  try go_ret
  rw[hPOST.out]
  refine⟨.iface 211 (.agg #[.int .i64 (p:Int),.slice none 0 0]),.nilIface,.inr ⟨_,_,rfl⟩,rfl,(hf1.out.alloc _).trans hf2.out (fun _ _ e=>e),?_⟩
  rw[hres.out]
  exact⟨rfl,h2.out,.recd p (World.ownsRow_nil _ _ _ _) (fun g e=>by simp[Value.ownBlock] at e) (fun i f e=>by simp at e)⟩
 case neg=>
  have hres:=hide (show pRecord s i=pFields s (i+1) by unfold pRecord;rw[if_pos h40,if_neg h41])
  replace h40:=hide h40
  replace h41:=hide h41
  go_enter Tryz.func136,Tryz.ntmps136
  go_wp2_with (first
   |(go_at_call 105;refine hE.out.mono ?_;rintro e w1 ⟨v1,rfl,hf1,hm⟩;obtain⟨rfl,h1⟩:v1=.nilIface∧PAt w1 bp s (i+1):=(by rcases hm with⟨_,q1,q2,_⟩|⟨hq,_⟩;(exact⟨q1,q2⟩);exact absurd h40.out hq);have hs1:=hf1.size;replace hf1:=hide hf1;replace h1:=hide h1;clear hE)
   |(go_at_call 106;refine(ptake_no 41 (Blk.alloc h1.out (.cells #[.int .i64 (p:Int),.slice none 0 0] 211)) hs hlt rfl (by decide) h41.out).mono ?_;rintro e w2 ⟨rfl,hf2,h2⟩;have start:RFInv w bp s (i+1) w1.heap.size (p:Int) (s.size+1) w2:=⟨i+1,.slice none 0 0,[],[],⟨⟨h2,(hf1.out.alloc _).trans hf2 (fun _ _ e=>e),hbp,hs1,(by have:=hf2.size;simp at this;omega),hf2.blk (Blk.new w1 #[.int .i64 (p:Int),.slice none 0 0] 211) (by omega),World.ownsRow_nil _ _ _ _⟩,(fun i f e=>by simp at e)⟩,hlt,(by simp),(by omega),(aheadF_nil _).symm⟩;replace start:=hide start;obtain⟨b0,hb0⟩:∃ b,b=w1.heap.size:=⟨_,rfl⟩;rw[← hb0] at start⊢;clear hf2 h2 h1 hf1 hb0 hs1))
  go_loopg [] (s.size+1) (fun m W=>RFInv w bp s (i+1) b0 (p:Int) m W)
  case atStart=>exact start.out
  case round=>
   clear start
   obtain⟨j,sv,fs,xs,M,hj,hij,hm,hpf⟩:=hrel
   obtain⟨sa,sc,rfl⟩:=own_sl M.A.row
   have hds:fs.length≤300:=by omega
   have hC:=hide (pfield_any M.A.here (hG.out.fr M.A.fr (Ne.symm hne)) hne hs hj)
   have hsz:=M.A.fr.size
   have hbB:=M.A.hB
   have hw0:=M.A.w0
   have hbd:=hide (pField_bounds (s:=s) hj)
   have hst:=hide (pFields_step s j hj)
   obtain⟨ti,hi1,hi2,hi3,hi4⟩:=info_parts i_PField
   replace M:=hide M
   replace hpf:=hide hpf
   go_wp2_with (first
    |(go_at_call 161;refine hC.out.mono ?_;rintro e w2 ⟨a,b,c,d,ev,rfl,hIc,⟨qd,rfl⟩,hf2,hm⟩;replace hf2:=hide hf2;rcases hm with⟨f,j2,rfl,h2,hj2,hv,hor⟩|⟨k,hk,⟨g,hg1,rfl,hg2⟩,j3,hj3,h3⟩
      obtain⟨vT,vx,rfl⟩:=hv.2.2.1.iface
      have M1:=(M.out.call h2 hf2.out).alloc (.cells #[.int .i64 a,.int .u8 b,.iface vT vx,.pointer qd] 149)
      have hv1:=(hv.mono (Q:=fun g=>b0+1≤g∧(Value.slice sa fs.length sc).ownBlock≠some g) (fun g _ hg=>⟨by omega,fun e=>by have:=M.out.A.row.lt g e;omega⟩)).fr ((Fr.refl w2 (fun _=>False)).alloc (.cells #[.int .i64 a,.int .u8 b,.iface vT vx,.pointer qd] 149)) (fun _ _ f=>f)
      have N1:=Blk.new w2 #[.int .i64 a,.int .u8 b,.iface vT vx,.pointer qd] 149
      have t1:=M1.A.b.cell 1
      have n0:=N1.cell 0
      have n1:=N1.cell 1
      have n2:=N1.cell 2
      have n3:=N1.cell 3
      simp only[List.getElem?_cons_zero,List.getElem?_cons_succ] at t1 n0 n1 n2 n3
      have hbB1:=(M.out.call h2 hf2.out).A.hB
      replace M1:=hide M1
      replace hv1:=hide hv1
      replace hor:=hide hor
      clear h2 hv N1 hIc
      rotate_left
      replace hk:=hide hk
      replace hg2:=hide hg2
      replace h3:=hide h3
      rcases hIc with rfl|⟨cT,cx,rfl⟩)
    |(at_builtin;go_must (refine wpList_append_own_at _ rfl _ _ 143 rfl (b0+1) 149 ti _ 4 40 u_PFields hi1 hi2 hi3 hi4 rfl (by decide) (.slice sa fs.length sc) fs.length xs rfl ?hown _ 1 1 [.int .i64 a,.int .u8 b,.iface vT vx,.pointer qd] rfl rfl (news_new _ #[.int .i64 a,.int .u8 b,.iface vT vx,.pointer qd] _ _ ?nn) ?one ?b1 ?b2 ?b3 ?_)
      case hown=>exact World.ownsRow.alloc M1.out.A.row _
      case nn=>simp
      case one=>simp[Value.oneCell']
      case b1=>unfold maxLen;omega
      case b2=>omega
      case b3=>simp;omega
      intro v5 w5 ho5 hg5 hn5 hl5
      have M5:=M1.out.item hg5 ho5 hl5 hv1.out
      have B5:=M1.out.A.itemCell ((Fr.refl _ _).alloc _) hg5
      have e5:=B5.cell 1
      have f5:=B5.thaw 1
      simp only[List.getElem?_cons_zero,List.getElem?_cons_succ] at e5
      obtain⟨g5,cap5,rfl⟩:=own_form ho5 (by omega)
      clear hg5 hl5 hn5 ho5 B5
      replace M5:=hide M5)
    |(go_at_call 106;refine(ptake_any 44 M5.out.A.here hs hj2 rfl (by decide)).mono ?_;rintro e w6 ⟨tb,rfl,hf6,hT⟩;replace hf6:=hide hf6;rcases hT with⟨h44,rfl,h6,hl6⟩|⟨h44,rfl,h6⟩ <;> replace h44:=hide h44 <;> replace h6:=hide h6))
   ·
    try go_ret
    rw[hPOST.out]
    refine⟨.nilIface,_,.inl rfl,rfl,(M.out.A.fr.trans hf2.out (fun _ _ e=>e)).alloc _,?_⟩
    rw[hres.out,hpf.out,hst.out,hk.out]
    exact⟨⟨g,Nat.le_trans hsz hg1,rfl,hg2.out.alloc _⟩,j3,hj3,Blk.alloc h3.out _⟩
   ·
    try go_ret
    rw[hPOST.out]
    refine⟨.nilIface,_,.inl rfl,rfl,(M.out.A.fr.trans hf2.out (fun _ _ e=>e)).alloc _,?_⟩
    rw[hres.out,hpf.out,hst.out,hk.out]
    exact⟨⟨g,Nat.le_trans hsz hg1,rfl,hg2.out.alloc _⟩,j3,hj3,Blk.alloc h3.out _⟩
   ·have M6:=M5.out.call h6.out hf6.out
    replace M6:=hide M6
    have hnx:Hid (pFields s (i+1)=aheadF (fs++[f]) (pFields s (j2+1))∧j<j2):=hide (by
     rcases hor.out with hok|⟨hno,rfl⟩
     ·have:=(hbd.out.1 f j2 hok)
      rw[hpf.out,hst.out,hok]
      simp only
      rw[if_neg (by rw[h44.out];decide),if_pos h44.out,aheadF_aheadF]
      exact⟨rfl,by omega⟩
     ·have:=h44.out
      rw[bt_end (Nat.le_refl _)] at this
      exact absurd this (by decide))
    have hlt2:=hnx.out.2
    go_roundg (s.size+1-(j2+1))
    case measure=>omega
    case rel=>exact⟨j2+1,_,fs++[f],_,M6.out,hl6,by rw[List.length_append,List.length_singleton];omega,Nat.le_refl _,hnx.out.1⟩
   ·have M6:=M5.out.call h6.out hf6.out
    replace M6:=hide M6
    have u0:=M6.out.A.b.cell 0
    have u1:=M6.out.A.b.cell 1
    simp only[List.getElem?_cons_zero,List.getElem?_cons_succ] at u0 u1
    have hd6:Still w6 w6.drew:=Still.drew w6
    have M7:=M6.out.still hd6
    have hC7:=hide (pexpect_any (c:=41) 41 M7.A.here (hG.out.fr M7.A.fr (Ne.symm hne)) hne hs hj2 rfl (by decide))
    replace M7:=hide M7
    refine wp_regionC 5 (fun W=>W.cell? ⟨b0,0,none⟩=some (.int .i64 (p:Int))∧W.cell? ⟨b0,1,none⟩=some (.slice (some ⟨g5,0,none⟩) (fs.length+1) cap5)) (by kernel_rfl) ?_
    refine wpAnyC_take 0 ?v0 rfl (by kernel_rfl) (fun _ _ _ h=>h) (by kernel_rfl) ?y0 ?_
    case y0=>(rintro W ⟨h1,h2⟩;go_simp <;> rfl)
    refine wpAnyC_take 1 ?v1 rfl (by kernel_rfl) (fun _ _ _ h=>h) (by kernel_rfl) ?y1 ?_
    case y1=>(rintro W ⟨h1,h2⟩;go_simp <;> rfl)
    refine wpAnyC_take 2 ?v2 rfl (by kernel_rfl) (fun _ _ _ h=>h) (by kernel_rfl) ?y2 ?_
    case y2=>(rintro W ⟨h1,h2⟩;go_simp <;> rfl)
    refine wpAnyC_one 3 rfl (by kernel_rfl) (fun _=>⟨u0,u1⟩) (fun K hK=>?_)
    go_simp
    refine hC7.out.mono ?_
    rintro e w8 ⟨v8,rfl,hf8,hE⟩
    refine hK _ _ ?_
    clear hK K
    have M8:∃ j8,j8≤s.size∧RF w bp s j8 b0 (p:Int) (.slice (some ⟨g5,0,none⟩) (fs.length+1) cap5) (fs++[f]) (xs++[.int .i64 a,.int .u8 b,.iface vT vx,.pointer qd]) w8:=by
     rcases hE with⟨_,_,h8,hl8⟩|⟨_,_,h8⟩
     ·exact⟨j2+1,hl8,M7.out.call h8 hf8⟩
     ·exact⟨j2,hj2,M7.out.call h8 hf8⟩
    obtain⟨j8,hj8,M8⟩:=M8
    have x0:=M8.A.b.cell 0
    have x1:=M8.A.b.cell 1
    simp only[List.getElem?_cons_zero,List.getElem?_cons_succ] at x0 x1
    refine wpAnyC_one 4 rfl (by kernel_rfl) (fun _=>⟨x0,x1⟩) (fun K hK=>?_)
    go_simp
    refine hK _ _ ?_
    clear hK K
    refine wpAnyC_one 5 rfl (by kernel_rfl) (fun _=>⟨x0,x1⟩) (fun K hK=>?_)
    go_simp
    refine hK _ _ ?_
    clear hK K
    refine wpAnyC_done (by kernel_rfl) (fun hm=>absurd hm (by decide)) ?_ _
    replace M8:=hide M8
    replace hE:=hide hE
    replace hf8:=hide hf8
    clear x0 x1 u0 u1
    go_wp2_with fail
    try go_ret
    rw[hPOST.out]
    refine⟨.iface 211 (.agg #[.int .i64 (p:Int),(.slice (some ⟨g5,0,none⟩) (fs.length+1) cap5)]),v8,.inr ⟨_,_,rfl⟩,rfl,M8.out.A.fr,?_⟩
    rw[hres.out,hpf.out,hst.out]
    have hs7:=M7.out.A.fr.size
    rcases hor.out with hok|⟨hno,rfl⟩
    ·rw[hok]
     simp only
     rcases hE.out with⟨hb,rfl,h8,hl8⟩|⟨hb,hF,h8⟩
     ·rw[if_pos hb]
      exact⟨rfl,h8,M8.out.body p rfl⟩
     ·rw[if_neg hb,if_neg h44.out]
      exact⟨hF.less hs7,j2,hj2,h8⟩
    ·rw[hno]
     rcases hE.out with⟨hb,_⟩|⟨hb,hF,h8⟩
     ·rw[bt_end (Nat.le_refl _)] at hb;exact absurd hb (by decide)
     ·exact⟨hF.less hs7,_,Nat.le_refl _,h8⟩
end Go.Proofs.YtiifagiebikmdaaGreatDoor
