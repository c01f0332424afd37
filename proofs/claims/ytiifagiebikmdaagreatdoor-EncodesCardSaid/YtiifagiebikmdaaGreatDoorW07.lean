import Derived.Test.YtiifagiebikmdaaGreatDoorW06
namespace Go.Proofs.YtiifagiebikmdaaGreatDoor
open Go.RowKit
set_option maxHeartbeats 4000000 in
set_option maxRecDepth 100000 in
theorem symbols_rep {w:World}{X:Nat→Prop}{br bz B:Nat}{s:ByteArray}{i:Nat}{wg mx:Int}{ts:List TR}{us:List (Nat×Nat)}{zs:List Value}{tv u:Value}(R:Rep w X br bz B s i false wg mx ts us zs tv u) :
 Calls Tryz.prog 69 #[.pointer (some ⟨br,0,none⟩)] w (EnumPost w X br bz B s i wg mx ts us zs tv u):=by
 have hsl:=R.sl
 have hil:=R.il
 have M0:=hide (en_start R)
 obtain⟨POST,hPOST⟩:∃ P,Hid (P=EnumPost w X br bz B s i wg mx ts us zs tv u):=⟨_,rfl⟩
 rw[← hPOST.out]
 go_enter Tryz.func69,Tryz.ntmps69
 go_wp2_with (go_at_call 40;refine(eat_rep' 40 M0.out.R rfl (by decide)).mono ?_;rintro e w1 ⟨rfl,hE,st1⟩)
 have start:EnInv (pEnum s i) w X br bz B s (i+1) wg mx ts us zs tv u (s.size+3) (.bool true) w1:=by
  refine⟨⟨#[]⟩,true,rfl,by decide,?_⟩
  rw[pEnum_eq]
  by_cases h40:bt s i=40
  ·rw[if_pos h40] at hE⊢
   exact .inl ⟨[],i+1,M0.out.call hE st1,rfl,by simp,by omega,rfl⟩
  ·rw[if_neg h40] at hE⊢
   exact .inr ⟨i,_,M0.out.call hE st1,rfl⟩
 replace start:=hide start
 clear hE
 go_loopg [4] (s.size+3) (fun m mv W=>EnInv (pEnum s i) w X br bz B s (i+1) wg mx ts us zs tv u m mv W)
 case atStart=>exact start.out
 case round=>
  clear start
  obtain⟨sb,more,rfl,hsb,hA|hC⟩:=hrel
  ·obtain⟨ds,j,M,hkb,hij,hm,hres⟩:=hA
   have hjl:=M.R.il
   have c2:=M.R.here.c2
   have c1:=M.R.here.c1
   have f1:=M.R.here.thaw 1
   have s2:=M.b3.cell 2
   have s2a:∀ x,(wr.alloc x).cell? ⟨w.heap.size+1,2,none⟩=some (.string sb):=fun x=>M.b3.cellAlloc 2 x
   simp only[enumDef,List.getElem?_cons_zero,List.getElem?_cons_succ] at s2
   replace M:=hide M
   replace hkb:=hide hkb
   cases more with
   | true=>
    rw[if_pos rfl] at hres
    cases hsm:isSmall (bt s j) with
    | false=>
     have hr:=hide (show pEnum s i=.error j by rw[hres,aheadS_step,if_neg (by rw[hsm];decide)])
     clear hres
     go_wp2_with (go_at_call 98;refine(small_rep M.out.R).mono ?_;rintro e w3 ⟨rfl,hS,st3⟩;rw[if_neg (by rw[hsm];decide)];rw[if_neg (by rw[hsm];decide)] at hS;have M3:=M.out.call hS st3;have c23:=M3.R.here.c2;have t0:=M3.b3.cell 0;have t1:=M3.b3.cell 1;have t2:=M3.b3.cell 2;have t3:=M3.b3.cell 3;have t4:=M3.b3.cell 4;have r0:=M3.b2.cell 0;have r1:=M3.b2.cell 1;have r2:=M3.b2.cell 2;have r3:=M3.b2.cell 3;have r4:=M3.b2.cell 4;have g0:=M3.b2.thaw 0;have g1:=M3.b2.thaw 1;have g2:=M3.b2.thaw 2;have g3:=M3.b2.thaw 3;have g4:=M3.b2.thaw 4;simp only[enumDef,zeroDef,List.getElem?_cons_zero,List.getElem?_cons_succ] at t0 t1 t2 t3 t4 r0 r1 r2 r3 r4;replace M3:=hide M3)
     have L:=Blk.five M3.out.b2 (.int .u8 101) (.slice none 0 0) (.string sb) (.int .i64 (-1)) (.int .i64 0)
     have q0:=L.cell 0
     have q1:=L.cell 1
     have q2:=L.cell 2
     have q3:=L.cell 3
     have q4:=L.cell 4
     simp only[List.getElem?_cons_zero,List.getElem?_cons_succ] at q0 q1 q2 q3 q4
     have hF:=Fr.five w3 w.heap.size (.int .u8 101) (.slice none 0 0) (.string sb) (.int .i64 (-1)) (.int .i64 0)
     generalize (((((World.setCell w3 ⟨w.heap.size,0,none⟩ (.int .u8 101)).setCell ⟨w.heap.size,1,none⟩ (.slice none 0 0)).setCell ⟨w.heap.size,2,none⟩ (.string sb)).setCell ⟨w.heap.size,3,none⟩ (.int .i64 (-1))).setCell ⟨w.heap.size,4,none⟩ (.int .i64 0))=W5 at *
     refine bodyPost_ret (v:=.agg (enumDef sb (-1)).toArray) (by simp[results,Tryz.results69,go_sem,q0,q1,q2,q3,q4,enumDef]) rfl ?_
     rw[hPOST.out]
     exact en_result M3.out hF (by rw[hr.out];exact⟨rfl,rfl⟩)
    | true=>
     replace hres:=hide hres
     have hjs:j<s.size:=bt_pos (isSmall_pos hsm)
     obtain⟨c,hc⟩:∃ c,bt s j=c:=⟨_,rfl⟩
     have hcv:=fun (W:World) (g:Nat) (c:Int) (h:W.heap.size=g)=>conv_one W g c h
     go_upto_if 34 with(first
      |(go_at_call 98;refine(small_rep M.out.R).mono ?_;rintro e w3 ⟨rfl,hS,st3⟩;rw[if_pos hsm,hc];rw[if_pos hsm] at hS;have M3:=M.out.call hS st3;have c23:=M3.R.here.c2;have s23:=M3.b3.cell 2;simp only[enumDef,List.getElem?_cons_zero,List.getElem?_cons_succ] at s23;replace M3:=hide M3)
      |(go_at_call 99;refine(has_any sb c _ (by omega)).mono ?_;rintro e w' ⟨rfl,rfl⟩))
     clear s2 s2a c1 f1 c2
     go_cut [] (fun W=>∃ wg5,SM w X br bz B s (j+1) false wg5 mx ts us zs tv u (enumDef sb (-1)) W∧wg5=if 0≤plc sb (bt s j) then firstOf j (wrS [] ds wg) else wrS [] ds wg)
     case first=>
      by_cases hq:0≤plc sb c
      ·go_wp2_with (go_at_call 24;refine(wrong_rep M3.out.R).mono ?_;rintro e w5 ⟨rfl,hW,st5⟩)
       go_meet
       case rel=>exact⟨_,M3.out.call hW st5,by rw[hc,if_pos hq]⟩
      ·have hq':decide (0≤plc sb c)=false:=decide_eq_false hq
       go_wp2_with fail
       go_meet
       case rel=>exact⟨_,M3.out,by rw[hc,if_neg (by omega)]⟩
     case rest=>
      obtain⟨wg5,M5,hwg5⟩:=hcut
      clear M3
      have s2:=M5.b3.cell 2
      have s2a:∀ x,(wc.alloc x).cell? ⟨w.heap.size+1,2,none⟩=some (.string sb):=fun x=>M5.b3.cellAlloc 2 x
      have g2a:∀ x,(wc.alloc x).frozen? ⟨w.heap.size+1,2,none⟩=false:=fun x=>(M5.b3.alloc x).thaw 2
      simp only[enumDef,List.getElem?_cons_zero,List.getElem?_cons_succ] at s2
      have M6:SM w X br bz B s (j+1) false wg5 mx ts us zs tv u (enumDef (sb++⟨#[UInt8.ofNat c]⟩) (-1)) ((wc.alloc (.cells #[.int .u8 (c:Int)] 5)).setCell ⟨w.heap.size+1,2,none⟩ (.string (sb++⟨#[UInt8.ofNat c]⟩))):=(M5.alloc (.cells #[.int .u8 (c:Int)] 5)).put 2 (.string (sb++(⟨#[UInt8.ofNat c]⟩:ByteArray)))
      replace M6:=hide M6
      replace hwg5:=hide hwg5
      obtain⟨c1',hc1⟩:∃ c,bt s (j+1)=c:=⟨_,rfl⟩
      replace hc1:=hide hc1
      replace hc:=hide hc
      replace hsm:=hide hsm
      clear M5
      by_cases h44:c1'=44
      ·have hb44:=hide (hc1.out.trans h44)
       have hj1:j+1<s.size:=bt_pos (by rw[hb44.out];decide)
       subst h44
       go_wp2_with (go_at_call 39;refine(peek_rep M6.out.R hc1.out).mono ?_;rintro e w7 ⟨rfl,hw7⟩;have M7:=M6.out.still hw7;have c17:=M7.R.here.c1;have f17:=M7.R.here.thaw 1;replace M7:=hide M7)
       go_roundg (s.size+2-(j+2))
       case measure=>omega
       case rel=>exact en_next _ (j+2) true hres.out hsl hij hkb.out hsm.out hwg5.out (by rw[hc.out];exact M7.out.inc hj1) (Nat.le_refl _) (.inl ⟨rfl,hb44.out,rfl⟩)
      ·have n44:((c1':Int)==44)=false:=by simp;omega
       have hb44:=hide (show bt s (j+1)≠44 by rw[hc1.out];exact h44)
       clear h44
       go_wp2_with (go_at_call 39;refine(peek_rep M6.out.R hc1.out).mono ?_;rintro e w7 ⟨rfl,hw7⟩;have M7:=M6.out.still hw7;replace M7:=hide M7)
       go_roundg (s.size+2-(j+1))
       case measure=>omega
       case rel=>exact en_next _ (j+1) false hres.out hsl hij hkb.out hsm.out hwg5.out (by rw[hc.out];exact M7.out) (Nat.le_refl _) (.inr ⟨rfl,hb44.out,rfl⟩)
   | false=>
    rw[if_neg (by decide)] at hres
    obtain⟨c0,hc⟩:∃ c,bt s j=c:=⟨_,rfl⟩
    replace hc:=hide hc
    by_cases h33:c0=33
    ·have hb33:bt s j=33:=hc.out.trans h33
     subst h33
     have hjs:j<s.size:=bt_pos (by omega)
     rw[finE,if_pos hb33] at hres
     cases hsm:isSmall (bt s (j+1)) with
     | false=>
      have hr:=hide (show pEnum s i=.error (j+1) by rw[hres,if_neg (by rw[hsm];decide)])
      clear hres
      go_wp2_with (first
       |(go_at_call 39;refine(peek_rep M.out.R hc.out).mono ?_;rintro e w2 ⟨rfl,hw2⟩;have M2:=M.out.still hw2;have c12:=M2.R.here.c1;have f12:=M2.R.here.thaw 1;have c22:=M2.R.here.c2;replace M2:=hide M2)
       |(go_at_call 98;refine(small_rep (M2.out.inc hjs).R).mono ?_;rintro e w3 ⟨rfl,hS,st3⟩;rw[if_neg (by rw[hsm];decide)];rw[if_neg (by rw[hsm];decide)] at hS;have M3:=(M2.out.inc hjs).call hS st3;have k2:=M3.b3.cell 2;have k3:=M3.b3.cell 3;have m3:=M3.b3.thaw 3;simp only[enumDef,List.getElem?_cons_zero,List.getElem?_cons_succ] at k2 k3;replace M3:=hide M3)
       |(go_at_call 90;refine(place_any sb 0 _ (by omega)).mono ?_;rintro e w' ⟨rfl,hw'⟩;rw[hw'];have M4:SM w X br bz B s _ _ _ mx ts us zs tv u (enumDef sb (plc sb 0)) _:=M3.out.put 3 (.int .i64 (plc sb 0));have c24:=M4.R.here.c2;have t0:=M4.b3.cell 0;have t1:=M4.b3.cell 1;have t2:=M4.b3.cell 2;have t3:=M4.b3.cell 3;have t4:=M4.b3.cell 4;have r0:=M4.b2.cell 0;have r1:=M4.b2.cell 1;have r2:=M4.b2.cell 2;have r3:=M4.b2.cell 3;have r4:=M4.b2.cell 4;have g0:=M4.b2.thaw 0;have g1:=M4.b2.thaw 1;have g2:=M4.b2.thaw 2;have g3:=M4.b2.thaw 3;have g4:=M4.b2.thaw 4;simp only[enumDef,zeroDef,List.getElem?_cons_zero,List.getElem?_cons_succ] at t0 t1 t2 t3 t4 r0 r1 r2 r3 r4;replace M4:=hide M4))
      have L:=Blk.five M4.out.b2 (.int .u8 101) (.slice none 0 0) (.string sb) (.int .i64 (plc sb 0)) (.int .i64 0)
      have q0:=L.cell 0
      have q1:=L.cell 1
      have q2:=L.cell 2
      have q3:=L.cell 3
      have q4:=L.cell 4
      simp only[List.getElem?_cons_zero,List.getElem?_cons_succ] at q0 q1 q2 q3 q4
      have hF:=Fr.five (w3.setCell ⟨w.heap.size+1,3,none⟩ (.int .i64 (plc sb 0))) w.heap.size (.int .u8 101) (.slice none 0 0) (.string sb) (.int .i64 (plc sb 0)) (.int .i64 0)
      generalize (((((World.setCell (w3.setCell ⟨w.heap.size+1,3,none⟩ (.int .i64 (plc sb 0))) ⟨w.heap.size,0,none⟩ (.int .u8 101)).setCell ⟨w.heap.size,1,none⟩ (.slice none 0 0)).setCell ⟨w.heap.size,2,none⟩ (.string sb)).setCell ⟨w.heap.size,3,none⟩ (.int .i64 (plc sb 0))).setCell ⟨w.heap.size,4,none⟩ (.int .i64 0))=W5 at *
      refine bodyPost_ret (v:=.agg (enumDef sb (plc sb 0)).toArray) (by simp[results,Tryz.results69,go_sem,q0,q1,q2,q3,q4,enumDef]) rfl ?_
      rw[hPOST.out]
      exact en_result M4.out hF (by rw[hr.out];exact⟨rfl,rfl⟩)
     | true=>
      rw[if_pos hsm] at hres
      obtain⟨cc,hcc⟩:∃ c,bt s (j+1)=c:=⟨_,rfl⟩
      replace hcc:=hide hcc
      have hmem:=hide (show 0≤plc sb cc↔cc∈ds.map Prod.fst by rw[plc_mem,hkb.out])
      by_cases h41:bt s (j+2)=41
      ·have hr:=hide (show pEnum s i=.ok ((ds,some (cc,j+1)),j+3) by rw[hres,if_pos h41,hcc.out])
       clear hres
       by_cases hq:0≤plc sb cc
       ·have hwE:=hide (show wrS [] ds wg=wrE ds (some (cc,j+1)) wg by unfold wrE;simp only;rw[if_pos (hmem.out.1 hq)])
        go_wp2_with (first
         |(go_at_call 39;refine(peek_rep M.out.R hc.out).mono ?_;rintro e w2 ⟨rfl,hw2⟩;have M2:=M.out.still hw2;have c12:=M2.R.here.c1;have f12:=M2.R.here.thaw 1;have c22:=M2.R.here.c2;replace M2:=hide M2)
         |(go_at_call 98;refine(small_rep (M2.out.inc hjs).R).mono ?_;rintro e w3 ⟨rfl,hS,st3⟩;rw[if_pos hsm,hcc.out];rw[if_pos hsm] at hS;have M3:=(M2.out.inc hjs).call hS st3;have k2:=M3.b3.cell 2;have k3:=M3.b3.cell 3;have m3:=M3.b3.thaw 3;simp only[enumDef,List.getElem?_cons_zero,List.getElem?_cons_succ] at k2 k3;replace M3:=hide M3)
         |(go_at_call 90;refine(place_any sb cc _ (by omega)).mono ?_;rintro e w' ⟨rfl,hw'⟩;rw[hw'];have M4:SM w X br bz B s _ _ _ mx ts us zs tv u (enumDef sb (plc sb cc)) _:=M3.out.put 3 (.int .i64 (plc sb cc));have c24:=M4.R.here.c2;replace M4:=hide M4)
         |(go_at_call 40;refine(eat_rep' 41 M4.out.R rfl (by decide)).mono ?_;rintro e w9 ⟨rfl,hE,st9⟩;rw[if_pos h41] at hE;have M9:=M4.out.call hE st9;have t0:=M9.b3.cell 0;have t1:=M9.b3.cell 1;have t2:=M9.b3.cell 2;have t3:=M9.b3.cell 3;have t4:=M9.b3.cell 4;have r0:=M9.b2.cell 0;have r1:=M9.b2.cell 1;have r2:=M9.b2.cell 2;have r3:=M9.b2.cell 3;have r4:=M9.b2.cell 4;have g0:=M9.b2.thaw 0;have g1:=M9.b2.thaw 1;have g2:=M9.b2.thaw 2;have g3:=M9.b2.thaw 3;have g4:=M9.b2.thaw 4;simp only[enumDef,zeroDef,List.getElem?_cons_zero,List.getElem?_cons_succ] at t0 t1 t2 t3 t4 r0 r1 r2 r3 r4;replace M9:=hide M9))
        have L:=Blk.five M9.out.b2 (.int .u8 101) (.slice none 0 0) (.string sb) (.int .i64 (plc sb cc)) (.int .i64 0)
        have q0:=L.cell 0
        have q1:=L.cell 1
        have q2:=L.cell 2
        have q3:=L.cell 3
        have q4:=L.cell 4
        simp only[List.getElem?_cons_zero,List.getElem?_cons_succ] at q0 q1 q2 q3 q4
        have hF:=Fr.five w9 w.heap.size (.int .u8 101) (.slice none 0 0) (.string sb) (.int .i64 (plc sb cc)) (.int .i64 0)
        generalize (((((World.setCell w9 ⟨w.heap.size,0,none⟩ (.int .u8 101)).setCell ⟨w.heap.size,1,none⟩ (.slice none 0 0)).setCell ⟨w.heap.size,2,none⟩ (.string sb)).setCell ⟨w.heap.size,3,none⟩ (.int .i64 (plc sb cc))).setCell ⟨w.heap.size,4,none⟩ (.int .i64 0))=W5 at *
        refine bodyPost_ret (v:=.agg (enumDef sb (plc sb cc)).toArray) (by simp[results,Tryz.results69,go_sem,q0,q1,q2,q3,q4,enumDef]) rfl ?_
        rw[hPOST.out]
        exact en_result M9.out hF (by rw[hr.out];exact⟨rfl,rfl,hkb.out,rfl,hwE.out⟩)
       ·have hwE:=hide (show firstOf ((j+1:Nat):Int) (wrS [] ds wg)=wrE ds (some (cc,j+1)) wg by unfold wrE;simp only;rw[if_neg (fun x=>hq (hmem.out.2 x))])
        go_wp2_with (first
         |(go_at_call 39;refine(peek_rep M.out.R hc.out).mono ?_;rintro e w2 ⟨rfl,hw2⟩;have M2:=M.out.still hw2;have c12:=M2.R.here.c1;have f12:=M2.R.here.thaw 1;have c22:=M2.R.here.c2;replace M2:=hide M2)
         |(go_at_call 98;refine(small_rep (M2.out.inc hjs).R).mono ?_;rintro e w3 ⟨rfl,hS,st3⟩;rw[if_pos hsm,hcc.out];rw[if_pos hsm] at hS;have M3:=(M2.out.inc hjs).call hS st3;have k2:=M3.b3.cell 2;have k3:=M3.b3.cell 3;have m3:=M3.b3.thaw 3;simp only[enumDef,List.getElem?_cons_zero,List.getElem?_cons_succ] at k2 k3;replace M3:=hide M3)
         |(go_at_call 90;refine(place_any sb cc _ (by omega)).mono ?_;rintro e w' ⟨rfl,hw'⟩;rw[hw'];have M4:SM w X br bz B s _ _ _ mx ts us zs tv u (enumDef sb (plc sb cc)) _:=M3.out.put 3 (.int .i64 (plc sb cc));have c24:=M4.R.here.c2;replace M4:=hide M4)
         |(go_at_call 24;refine(wrong_rep M4.out.R).mono ?_;rintro e w5 ⟨rfl,hW,st5⟩;have M5:=M4.out.call hW st5;have c25:=M5.R.here.c2;replace M5:=hide M5)
         |(go_at_call 40;refine(eat_rep' 41 M5.out.R rfl (by decide)).mono ?_;rintro e w9 ⟨rfl,hE,st9⟩;rw[if_pos h41] at hE;have M9:=M5.out.call hE st9;have t0:=M9.b3.cell 0;have t1:=M9.b3.cell 1;have t2:=M9.b3.cell 2;have t3:=M9.b3.cell 3;have t4:=M9.b3.cell 4;have r0:=M9.b2.cell 0;have r1:=M9.b2.cell 1;have r2:=M9.b2.cell 2;have r3:=M9.b2.cell 3;have r4:=M9.b2.cell 4;have g0:=M9.b2.thaw 0;have g1:=M9.b2.thaw 1;have g2:=M9.b2.thaw 2;have g3:=M9.b2.thaw 3;have g4:=M9.b2.thaw 4;simp only[enumDef,zeroDef,List.getElem?_cons_zero,List.getElem?_cons_succ] at t0 t1 t2 t3 t4 r0 r1 r2 r3 r4;replace M9:=hide M9))
        have L:=Blk.five M9.out.b2 (.int .u8 101) (.slice none 0 0) (.string sb) (.int .i64 (plc sb cc)) (.int .i64 0)
        have q0:=L.cell 0
        have q1:=L.cell 1
        have q2:=L.cell 2
        have q3:=L.cell 3
        have q4:=L.cell 4
        simp only[List.getElem?_cons_zero,List.getElem?_cons_succ] at q0 q1 q2 q3 q4
        have hF:=Fr.five w9 w.heap.size (.int .u8 101) (.slice none 0 0) (.string sb) (.int .i64 (plc sb cc)) (.int .i64 0)
        generalize (((((World.setCell w9 ⟨w.heap.size,0,none⟩ (.int .u8 101)).setCell ⟨w.heap.size,1,none⟩ (.slice none 0 0)).setCell ⟨w.heap.size,2,none⟩ (.string sb)).setCell ⟨w.heap.size,3,none⟩ (.int .i64 (plc sb cc))).setCell ⟨w.heap.size,4,none⟩ (.int .i64 0))=W5 at *
        refine bodyPost_ret (v:=.agg (enumDef sb (plc sb cc)).toArray) (by simp[results,Tryz.results69,go_sem,q0,q1,q2,q3,q4,enumDef]) rfl ?_
        rw[hPOST.out]
        exact en_result M9.out hF (by rw[hr.out];exact⟨rfl,rfl,hkb.out,rfl,hwE.out⟩)
      ·have hr:=hide (show pEnum s i=.error (j+2) by rw[hres,if_neg h41])
       clear hres
       by_cases hq:0≤plc sb cc
       ·go_wp2_with (first
         |(go_at_call 39;refine(peek_rep M.out.R hc.out).mono ?_;rintro e w2 ⟨rfl,hw2⟩;have M2:=M.out.still hw2;have c12:=M2.R.here.c1;have f12:=M2.R.here.thaw 1;have c22:=M2.R.here.c2;replace M2:=hide M2)
         |(go_at_call 98;refine(small_rep (M2.out.inc hjs).R).mono ?_;rintro e w3 ⟨rfl,hS,st3⟩;rw[if_pos hsm,hcc.out];rw[if_pos hsm] at hS;have M3:=(M2.out.inc hjs).call hS st3;have k2:=M3.b3.cell 2;have k3:=M3.b3.cell 3;have m3:=M3.b3.thaw 3;simp only[enumDef,List.getElem?_cons_zero,List.getElem?_cons_succ] at k2 k3;replace M3:=hide M3)
         |(go_at_call 90;refine(place_any sb cc _ (by omega)).mono ?_;rintro e w' ⟨rfl,hw'⟩;rw[hw'];have M4:SM w X br bz B s _ _ _ mx ts us zs tv u (enumDef sb (plc sb cc)) _:=M3.out.put 3 (.int .i64 (plc sb cc));have c24:=M4.R.here.c2;replace M4:=hide M4)
         |(go_at_call 40;refine(eat_rep' 41 M4.out.R rfl (by decide)).mono ?_;rintro e w9 ⟨rfl,hE,st9⟩;rw[if_neg h41] at hE;have M9:=M4.out.call hE st9;have t0:=M9.b3.cell 0;have t1:=M9.b3.cell 1;have t2:=M9.b3.cell 2;have t3:=M9.b3.cell 3;have t4:=M9.b3.cell 4;have r0:=M9.b2.cell 0;have r1:=M9.b2.cell 1;have r2:=M9.b2.cell 2;have r3:=M9.b2.cell 3;have r4:=M9.b2.cell 4;have g0:=M9.b2.thaw 0;have g1:=M9.b2.thaw 1;have g2:=M9.b2.thaw 2;have g3:=M9.b2.thaw 3;have g4:=M9.b2.thaw 4;simp only[enumDef,zeroDef,List.getElem?_cons_zero,List.getElem?_cons_succ] at t0 t1 t2 t3 t4 r0 r1 r2 r3 r4;replace M9:=hide M9))
        have L:=Blk.five M9.out.b2 (.int .u8 101) (.slice none 0 0) (.string sb) (.int .i64 (plc sb cc)) (.int .i64 0)
        have q0:=L.cell 0
        have q1:=L.cell 1
        have q2:=L.cell 2
        have q3:=L.cell 3
        have q4:=L.cell 4
        simp only[List.getElem?_cons_zero,List.getElem?_cons_succ] at q0 q1 q2 q3 q4
        have hF:=Fr.five w9 w.heap.size (.int .u8 101) (.slice none 0 0) (.string sb) (.int .i64 (plc sb cc)) (.int .i64 0)
        generalize (((((World.setCell w9 ⟨w.heap.size,0,none⟩ (.int .u8 101)).setCell ⟨w.heap.size,1,none⟩ (.slice none 0 0)).setCell ⟨w.heap.size,2,none⟩ (.string sb)).setCell ⟨w.heap.size,3,none⟩ (.int .i64 (plc sb cc))).setCell ⟨w.heap.size,4,none⟩ (.int .i64 0))=W5 at *
        refine bodyPost_ret (v:=.agg (enumDef sb (plc sb cc)).toArray) (by simp[results,Tryz.results69,go_sem,q0,q1,q2,q3,q4,enumDef]) rfl ?_
        rw[hPOST.out]
        exact en_result M9.out hF (by rw[hr.out];exact⟨rfl,rfl⟩)
       ·go_wp2_with (first
         |(go_at_call 39;refine(peek_rep M.out.R hc.out).mono ?_;rintro e w2 ⟨rfl,hw2⟩;have M2:=M.out.still hw2;have c12:=M2.R.here.c1;have f12:=M2.R.here.thaw 1;have c22:=M2.R.here.c2;replace M2:=hide M2)
         |(go_at_call 98;refine(small_rep (M2.out.inc hjs).R).mono ?_;rintro e w3 ⟨rfl,hS,st3⟩;rw[if_pos hsm,hcc.out];rw[if_pos hsm] at hS;have M3:=(M2.out.inc hjs).call hS st3;have k2:=M3.b3.cell 2;have k3:=M3.b3.cell 3;have m3:=M3.b3.thaw 3;simp only[enumDef,List.getElem?_cons_zero,List.getElem?_cons_succ] at k2 k3;replace M3:=hide M3)
         |(go_at_call 90;refine(place_any sb cc _ (by omega)).mono ?_;rintro e w' ⟨rfl,hw'⟩;rw[hw'];have M4:SM w X br bz B s _ _ _ mx ts us zs tv u (enumDef sb (plc sb cc)) _:=M3.out.put 3 (.int .i64 (plc sb cc));have c24:=M4.R.here.c2;replace M4:=hide M4)
         |(go_at_call 24;refine(wrong_rep M4.out.R).mono ?_;rintro e w5 ⟨rfl,hW,st5⟩;have M5:=M4.out.call hW st5;have c25:=M5.R.here.c2;replace M5:=hide M5)
         |(go_at_call 40;refine(eat_rep' 41 M5.out.R rfl (by decide)).mono ?_;rintro e w9 ⟨rfl,hE,st9⟩;rw[if_neg h41] at hE;have M9:=M5.out.call hE st9;have t0:=M9.b3.cell 0;have t1:=M9.b3.cell 1;have t2:=M9.b3.cell 2;have t3:=M9.b3.cell 3;have t4:=M9.b3.cell 4;have r0:=M9.b2.cell 0;have r1:=M9.b2.cell 1;have r2:=M9.b2.cell 2;have r3:=M9.b2.cell 3;have r4:=M9.b2.cell 4;have g0:=M9.b2.thaw 0;have g1:=M9.b2.thaw 1;have g2:=M9.b2.thaw 2;have g3:=M9.b2.thaw 3;have g4:=M9.b2.thaw 4;simp only[enumDef,zeroDef,List.getElem?_cons_zero,List.getElem?_cons_succ] at t0 t1 t2 t3 t4 r0 r1 r2 r3 r4;replace M9:=hide M9))
        have L:=Blk.five M9.out.b2 (.int .u8 101) (.slice none 0 0) (.string sb) (.int .i64 (plc sb cc)) (.int .i64 0)
        have q0:=L.cell 0
        have q1:=L.cell 1
        have q2:=L.cell 2
        have q3:=L.cell 3
        have q4:=L.cell 4
        simp only[List.getElem?_cons_zero,List.getElem?_cons_succ] at q0 q1 q2 q3 q4
        have hF:=Fr.five w9 w.heap.size (.int .u8 101) (.slice none 0 0) (.string sb) (.int .i64 (plc sb cc)) (.int .i64 0)
        generalize (((((World.setCell w9 ⟨w.heap.size,0,none⟩ (.int .u8 101)).setCell ⟨w.heap.size,1,none⟩ (.slice none 0 0)).setCell ⟨w.heap.size,2,none⟩ (.string sb)).setCell ⟨w.heap.size,3,none⟩ (.int .i64 (plc sb cc))).setCell ⟨w.heap.size,4,none⟩ (.int .i64 0))=W5 at *
        refine bodyPost_ret (v:=.agg (enumDef sb (plc sb cc)).toArray) (by simp[results,Tryz.results69,go_sem,q0,q1,q2,q3,q4,enumDef]) rfl ?_
        rw[hPOST.out]
        exact en_result M9.out hF (by rw[hr.out];exact⟨rfl,rfl⟩)
    ·have n33:((c0:Int)==33)=false:=by simp;omega
     rw[finE,if_neg (by rw[hc.out];exact h33)] at hres
     clear h33
     by_cases h41:bt s j=41
     ·have hr:=hide (show pEnum s i=.ok ((ds,none),j+1) by rw[hres,if_pos h41])
      clear hres
      go_wp2_with (first
       |(go_at_call 39;refine(peek_rep M.out.R hc.out).mono ?_;rintro e w2 ⟨rfl,hw2⟩;have M2:=M.out.still hw2;have c12:=M2.R.here.c1;have f12:=M2.R.here.thaw 1;have c22:=M2.R.here.c2;replace M2:=hide M2)
       |(go_at_call 40;refine(eat_rep' 41 M2.out.R rfl (by decide)).mono ?_;rintro e w9 ⟨rfl,hE,st9⟩;rw[if_pos h41] at hE;have M9:=M2.out.call hE st9;have t0:=M9.b3.cell 0;have t1:=M9.b3.cell 1;have t2:=M9.b3.cell 2;have t3:=M9.b3.cell 3;have t4:=M9.b3.cell 4;have r0:=M9.b2.cell 0;have r1:=M9.b2.cell 1;have r2:=M9.b2.cell 2;have r3:=M9.b2.cell 3;have r4:=M9.b2.cell 4;have g0:=M9.b2.thaw 0;have g1:=M9.b2.thaw 1;have g2:=M9.b2.thaw 2;have g3:=M9.b2.thaw 3;have g4:=M9.b2.thaw 4;simp only[enumDef,zeroDef,List.getElem?_cons_zero,List.getElem?_cons_succ] at t0 t1 t2 t3 t4 r0 r1 r2 r3 r4;replace M9:=hide M9))
      have L:=Blk.five M9.out.b2 (.int .u8 101) (.slice none 0 0) (.string sb) (.int .i64 (-1)) (.int .i64 0)
      have q0:=L.cell 0
      have q1:=L.cell 1
      have q2:=L.cell 2
      have q3:=L.cell 3
      have q4:=L.cell 4
      simp only[List.getElem?_cons_zero,List.getElem?_cons_succ] at q0 q1 q2 q3 q4
      have hF:=Fr.five w9 w.heap.size (.int .u8 101) (.slice none 0 0) (.string sb) (.int .i64 (-1)) (.int .i64 0)
      generalize (((((World.setCell w9 ⟨w.heap.size,0,none⟩ (.int .u8 101)).setCell ⟨w.heap.size,1,none⟩ (.slice none 0 0)).setCell ⟨w.heap.size,2,none⟩ (.string sb)).setCell ⟨w.heap.size,3,none⟩ (.int .i64 (-1))).setCell ⟨w.heap.size,4,none⟩ (.int .i64 0))=W5 at *
      refine bodyPost_ret (v:=.agg (enumDef sb (-1)).toArray) (by simp[results,Tryz.results69,go_sem,q0,q1,q2,q3,q4,enumDef]) rfl ?_
      rw[hPOST.out]
      exact en_result M9.out hF (by rw[hr.out];exact⟨rfl,rfl,hkb.out,rfl,rfl⟩)
     ·have hr:=hide (show pEnum s i=.error j by rw[hres,if_neg h41])
      clear hres
      go_wp2_with (first
       |(go_at_call 39;refine(peek_rep M.out.R hc.out).mono ?_;rintro e w2 ⟨rfl,hw2⟩;have M2:=M.out.still hw2;have c12:=M2.R.here.c1;have f12:=M2.R.here.thaw 1;have c22:=M2.R.here.c2;replace M2:=hide M2)
       |(go_at_call 40;refine(eat_rep' 41 M2.out.R rfl (by decide)).mono ?_;rintro e w9 ⟨rfl,hE,st9⟩;rw[if_neg h41] at hE;have M9:=M2.out.call hE st9;have t0:=M9.b3.cell 0;have t1:=M9.b3.cell 1;have t2:=M9.b3.cell 2;have t3:=M9.b3.cell 3;have t4:=M9.b3.cell 4;have r0:=M9.b2.cell 0;have r1:=M9.b2.cell 1;have r2:=M9.b2.cell 2;have r3:=M9.b2.cell 3;have r4:=M9.b2.cell 4;have g0:=M9.b2.thaw 0;have g1:=M9.b2.thaw 1;have g2:=M9.b2.thaw 2;have g3:=M9.b2.thaw 3;have g4:=M9.b2.thaw 4;simp only[enumDef,zeroDef,List.getElem?_cons_zero,List.getElem?_cons_succ] at t0 t1 t2 t3 t4 r0 r1 r2 r3 r4;replace M9:=hide M9))
      have L:=Blk.five M9.out.b2 (.int .u8 101) (.slice none 0 0) (.string sb) (.int .i64 (-1)) (.int .i64 0)
      have q0:=L.cell 0
      have q1:=L.cell 1
      have q2:=L.cell 2
      have q3:=L.cell 3
      have q4:=L.cell 4
      simp only[List.getElem?_cons_zero,List.getElem?_cons_succ] at q0 q1 q2 q3 q4
      have hF:=Fr.five w9 w.heap.size (.int .u8 101) (.slice none 0 0) (.string sb) (.int .i64 (-1)) (.int .i64 0)
      generalize (((((World.setCell w9 ⟨w.heap.size,0,none⟩ (.int .u8 101)).setCell ⟨w.heap.size,1,none⟩ (.slice none 0 0)).setCell ⟨w.heap.size,2,none⟩ (.string sb)).setCell ⟨w.heap.size,3,none⟩ (.int .i64 (-1))).setCell ⟨w.heap.size,4,none⟩ (.int .i64 0))=W5 at *
      refine bodyPost_ret (v:=.agg (enumDef sb (-1)).toArray) (by simp[results,Tryz.results69,go_sem,q0,q1,q2,q3,q4,enumDef]) rfl ?_
      rw[hPOST.out]
      exact en_result M9.out hF (by rw[hr.out];exact⟨rfl,rfl⟩)
  ·obtain⟨k,wg',M,hres⟩:=hC
   have c2:=M.R.here.c2
   replace hres:=hide hres
   replace M:=hide M
   cases more
   all_goals
    go_wp2_with (go_at_call 39;refine(peek_spoilt M.out.R).mono ?_;rintro e w3 ⟨rfl,hw3⟩;have M3:=M.out.still hw3;have c23:=M3.R.here.c2;have t0:=M3.b3.cell 0;have t1:=M3.b3.cell 1;have t2:=M3.b3.cell 2;have t3:=M3.b3.cell 3;have t4:=M3.b3.cell 4;have r0:=M3.b2.cell 0;have r1:=M3.b2.cell 1;have r2:=M3.b2.cell 2;have r3:=M3.b2.cell 3;have r4:=M3.b2.cell 4;have g0:=M3.b2.thaw 0;have g1:=M3.b2.thaw 1;have g2:=M3.b2.thaw 2;have g3:=M3.b2.thaw 3;have g4:=M3.b2.thaw 4;simp only[enumDef,zeroDef,List.getElem?_cons_zero,List.getElem?_cons_succ] at t0 t1 t2 t3 t4 r0 r1 r2 r3 r4;replace M3:=hide M3)
    have L:=Blk.five M3.out.b2 (.int .u8 101) (.slice none 0 0) (.string sb) (.int .i64 (-1)) (.int .i64 0)
    have q0:=L.cell 0
    have q1:=L.cell 1
    have q2:=L.cell 2
    have q3:=L.cell 3
    have q4:=L.cell 4
    simp only[List.getElem?_cons_zero,List.getElem?_cons_succ] at q0 q1 q2 q3 q4
    have hF:=Fr.five w3 w.heap.size (.int .u8 101) (.slice none 0 0) (.string sb) (.int .i64 (-1)) (.int .i64 0)
    generalize (((((World.setCell w3 ⟨w.heap.size,0,none⟩ (.int .u8 101)).setCell ⟨w.heap.size,1,none⟩ (.slice none 0 0)).setCell ⟨w.heap.size,2,none⟩ (.string sb)).setCell ⟨w.heap.size,3,none⟩ (.int .i64 (-1))).setCell ⟨w.heap.size,4,none⟩ (.int .i64 0))=W5 at *
    refine bodyPost_ret (v:=.agg (enumDef sb (-1)).toArray) (by simp[results,Tryz.results69,go_sem,q0,q1,q2,q3,q4,enumDef]) rfl ?_
    rw[hPOST.out]
    exact en_result M3.out hF (by rw[hres.out];exact⟨rfl,rfl⟩)
end Go.Proofs.YtiifagiebikmdaaGreatDoor
