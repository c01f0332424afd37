import Derived.Test.YtiifagiebikmdaaGreatDoorW12
import Derived.Deep.DeepCutAuto
namespace Go.Proofs.YtiifagiebikmdaaGreatDoor
open Go.RowKit
theorem cell_lt {w:World}{b o:Nat}{v:Value}(h:w.cell? ⟨b,o,none⟩=some v):b<w.heap.size:=World.block_lt_of_cell? w ⟨b,o,none⟩ h
theorem cell_alloc {w:World}{b o:Nat}{v:Value}(h:w.cell? ⟨b,o,none⟩=some v) (X:Obj):(w.alloc X).cell? ⟨b,o,none⟩=some v:=by
 rw[World.cell?_alloc_past X b o (cell_lt h)];exact h
theorem cell_alloc3 {w:World}{b o:Nat}{v:Value}(h:w.cell? ⟨b,o,none⟩=some v) (X Y Z:Obj):(((w.alloc X).alloc Y).alloc Z).cell? ⟨b,o,none⟩=some v:=cell_alloc (cell_alloc (cell_alloc h X) Y) Z
theorem LEat.any {w w':World}{P:Nat→Prop}{bl:Nat}{s:ByteArray}{bz:Nat}{pl:Bool}{j:Nat}{bad:Bool}{ts:List TR}{env:Nat→Option PB}{W:World}{d:Nat}(hd:0<d) (M:DM w P bl s bz pl j bad ts env W) (h:LEat W bl s bz pl j bad d w') :
 ∃ j' bad',DM w P bl s bz pl j' bad' ts env w'∧Fr W w' (· = bl)∧Hid ((bad=false∧bt s j=d∧j'=j+1∧bad'=false)∨((bad=true∨bt s j≠d)∧j'=j∧bad'=true)):=by
 have:=M.jl
 obtain⟨h1,h2⟩:=h
 cases bad with
 | true=>
  by_cases hb:lk s j true=d
  ·simp[lk] at hb;omega
  ·rw[if_neg hb] at h1
   exact⟨j,true,M.call h1 h2 M.jl,h2,.inr ⟨.inl rfl,rfl,rfl⟩⟩
 | false=>
  by_cases hb:lk s j false=d
  ·rw[if_pos hb] at h1
   exact⟨j+1,false,M.call h1.1 h2 h1.2,h2,.inl ⟨rfl,by simpa[lk] using hb,rfl,rfl⟩⟩
  ·rw[if_neg hb] at h1
   exact⟨j,true,M.call h1 h2 M.jl,h2,.inr ⟨.inr (by simpa[lk] using hb),rfl,rfl⟩⟩
set_option maxHeartbeats 4000000 in
set_option maxRecDepth 100000 in
theorem dat_n {s:ByteArray}{env:Nat→Option PB}{pl:Bool}{ts:List TR}{f p i:Nat}:DatOK s env pl ts (f+1) (.leaf 110 p) i:=by
 intro w P bl bz k M hk
 simp only[isT] at hk
 obtain⟨g,m,cap,sv,z0,hkm,z1,z2,ho,hoP⟩:=M.Z.type hk
 simp only[Int.cast_ofNat_Int] at z1
 obtain⟨POST,hPOST⟩:∃ Q,Hid (Q=DatPost w bl s bz pl (rdT s env pl (f+1) (.leaf 110 p) i)):=⟨_,rfl⟩
 rw[← hPOST.out]
 have hl1:=M.lt
 have hl2:=cell_lt z0
 have hl3:=cell_lt z1
 have c3:=M.L.c3
 have c2:=M.L.c2
 have hjl:=M.jl
 have hsl:=M.sl
 obtain⟨sa,sn,sc,rfl⟩:=own_slice ho
 have M0:=hide (dw_M M 110 (.slice sa sn sc))
 have B0:=hide (dw_0 w 110 (.slice sa sn sc))
 have B1:=hide (dw_1 w 110 (.slice sa sn sc))
 have B2:=hide (dw_2 w 110 (.slice sa sn sc))
 have d2:=fun X Y Z=>cell_alloc3 c2 X Y Z
 have hkm':(k:Int)<(m:Int):=by omega
 replace M:=hide M
 replace ho:=hide ho
 replace hoP:=hide hoP
 replace hk:=hide hk
 go_enter Tryz.func34,Tryz.ntmps34
 go_wp2_with (go_at_call 59;refine(leat_any 78 M0.out.L hsl hjl rfl (by decide)).mono ?_;rintro e w1 ⟨rfl,hE⟩;obtain⟨j1,bad1,M1,F1,hJ⟩:=LEat.any (by decide) M0.out hE;have D0:=F1.blk B0.out (by omega);have D2:=F1.blk B2.out (by omega);have r0:=D0.cell 0;have r1:=D0.cell 1;have r2:=D0.cell 2;have r3:=D0.cell 3;have r4:=D0.cell 4;have t0:=D2.cell 0;have t1:=D2.cell 1;have t2:=D2.cell 2;have t3:=D2.cell 3;have t4:=D2.cell 4;have g0:=D0.thaw 0;have g1:=D0.thaw 1;have g2:=D0.thaw 2;have g3:=D0.thaw 3;have g4:=D0.thaw 4;simp only[zeroDat,dvals,List.getElem?_cons_zero,List.getElem?_cons_succ,Int.cast_ofNat_Int] at r0 r1 r2 r3 r4 t0 t1 t2 t3 t4;replace M1:=hide M1;replace F1:=hide F1;replace D0:=hide D0;replace D2:=hide D2;clear hE)
 have L5:=Blk.five D0.out (.int .u8 110) (.int .i64 0) (.string noB) (.slice none 0 0) (.slice none 0 0)
 have q0:=L5.cell 0
 have q1:=L5.cell 1
 have q2:=L5.cell 2
 have q3:=L5.cell 3
 have q4:=L5.cell 4
 simp only[List.getElem?_cons_zero,List.getElem?_cons_succ] at q0 q1 q2 q3 q4
 have hF:=Fr.five w1 (w.heap.size) (.int .u8 110) (.int .i64 0) (.string noB) (.slice none 0 0) (.slice none 0 0)
 generalize (((((World.setCell w1 ⟨w.heap.size,0,none⟩ (.int .u8 110)).setCell ⟨w.heap.size,1,none⟩ (.int .i64 0)).setCell ⟨w.heap.size,2,none⟩ (.string noB)).setCell ⟨w.heap.size,3,none⟩ (.slice none 0 0)).setCell ⟨w.heap.size,4,none⟩ (.slice none 0 0))=W5 at *
 refine bodyPost_ret (v:=.agg (dvals 110 0 noB (.slice none 0 0) (.slice none 0 0)).toArray) (by simp[results,Tryz.results34,go_sem,q0,q1,q2,q3,q4,dvals]) rfl ?_
 rw[hPOST.out]
 rcases hJ.out with⟨_,h78,rfl,rfl⟩|⟨h78,rfl,rfl⟩
 ·exact dat_good M1.out (DVal.bare _ _ 110 0 noB) hF (by simp[rdT,rdLeaf,h78])
 ·exact dat_bad M1.out ⟨_,_,_,rfl⟩ ⟨_,_,_,rfl⟩ hF (by simp[rdT,rdLeaf];simpa using h78)
open Go.RowKit
set_option maxHeartbeats 4000000 in
set_option maxRecDepth 100000 in
theorem dat_t {s:ByteArray}{env:Nat→Option PB}{pl:Bool}{ts:List TR}{f p i:Nat}:DatOK s env pl ts (f+1) (.leaf 116 p) i:=by
 intro w P bl bz k M hk
 simp only[isT] at hk
 obtain⟨g,m,cap,sv,z0,hkm,z1,z2,ho,hoP⟩:=M.Z.type hk
 simp only[Int.cast_ofNat_Int] at z1
 obtain⟨POST,hPOST⟩:∃ Q,Hid (Q=DatPost w bl s bz pl (rdT s env pl (f+1) (.leaf 116 p) i)):=⟨_,rfl⟩
 rw[← hPOST.out]
 have hl1:=M.lt
 have hl2:=cell_lt z0
 have hl3:=cell_lt z1
 have c3:=M.L.c3
 have c2:=M.L.c2
 have hjl:=M.jl
 have hsl:=M.sl
 obtain⟨sa,sn,sc,rfl⟩:=own_slice ho
 have M0:=hide (dw_M M 116 (.slice sa sn sc))
 have B0:=hide (dw_0 w 116 (.slice sa sn sc))
 have B1:=hide (dw_1 w 116 (.slice sa sn sc))
 have B2:=hide (dw_2 w 116 (.slice sa sn sc))
 have d2:=fun X Y Z=>cell_alloc3 c2 X Y Z
 have hkm':(k:Int)<(m:Int):=by omega
 replace M:=hide M
 replace ho:=hide ho
 replace hoP:=hide hoP
 replace hk:=hide hk
 obtain⟨c,hc⟩:∃ c,bt s i=c:=⟨_,rfl⟩
 have hlk:=hide (show lk s i false=c by simp[lk,hc])
 by_cases h84:c=84
 ·subst h84
  have his:i<s.size:=bt_pos (by omega)
  replace hc:=hide hc
  go_enter Tryz.func34,Tryz.ntmps34
  go_wp2_with (go_at_call 60;refine(lpeek_any M0.out.L hsl hjl).mono ?_;rintro e w1 ⟨rfl,hw1⟩;rw[hlk.out];have M1:=M0.out.still hw1;have F1:=(Fr.refl _ (fun g=>g=bl)).still hw1;have D0:=F1.blk B0.out (by omega);have D2:=F1.blk B2.out (by omega);have p1:=D2.cell 1;have p2:=D2.thaw 1;simp only[dvals,List.getElem?_cons_zero,List.getElem?_cons_succ] at p1;have M2:=M1.put ⟨w.heap.size+1+1,1,none⟩ (.int .i64 1) (by simp;omega);have E2:=Blk.set D2 1 (.int .i64 1);have E0:=Blk.other D0 (a:=⟨w.heap.size+2,1,none⟩) (.int .i64 1) (by simp);have c1:=M2.L.c1;have f1:=M2.L.thaw 1;have M3:=M2.inc his;have G2:=Blk.other E2 (a:=⟨bl,1,none⟩) (.int .i64 ((i:Int)+1)) (by simp;omega);have G0:=Blk.other E0 (a:=⟨bl,1,none⟩) (.int .i64 ((i:Int)+1)) (by simp;omega);have r0:=G0.cell 0;have r1:=G0.cell 1;have r2:=G0.cell 2;have r3:=G0.cell 3;have r4:=G0.cell 4;have t0:=G2.cell 0;have t1:=G2.cell 1;have t2:=G2.cell 2;have t3:=G2.cell 3;have t4:=G2.cell 4;have g0:=G0.thaw 0;have g1:=G0.thaw 1;have g2:=G0.thaw 2;have g3:=G0.thaw 3;have g4:=G0.thaw 4;simp only[zeroDat,dvals,List.getElem?_cons_zero,List.getElem?_cons_succ,List.set_cons_zero,List.set_cons_succ,Int.cast_ofNat_Int] at r0 r1 r2 r3 r4 t0 t1 t2 t3 t4;replace M1:=hide M1;replace M2:=hide M2;replace M3:=hide M3;replace F1:=hide F1;replace D0:=hide D0;replace D2:=hide D2;replace E0:=hide E0;replace E2:=hide E2;replace G0:=hide G0;replace G2:=hide G2)
  have L5:=Blk.five G0.out (.int .u8 116) (.int .i64 1) (.string noB) (.slice none 0 0) (.slice none 0 0)
  have q0:=L5.cell 0
  have q1:=L5.cell 1
  have q2:=L5.cell 2
  have q3:=L5.cell 3
  have q4:=L5.cell 4
  simp only[List.getElem?_cons_zero,List.getElem?_cons_succ] at q0 q1 q2 q3 q4
  have hF:=Fr.five ((w1.setCell ⟨w.heap.size+1+1,1,none⟩ (.int .i64 1)).setCell ⟨bl,1,none⟩ (.int .i64 ((i:Int)+1))) (w.heap.size) (.int .u8 116) (.int .i64 1) (.string noB) (.slice none 0 0) (.slice none 0 0)
  generalize (((((World.setCell ((w1.setCell ⟨w.heap.size+1+1,1,none⟩ (.int .i64 1)).setCell ⟨bl,1,none⟩ (.int .i64 ((i:Int)+1))) ⟨w.heap.size,0,none⟩ (.int .u8 116)).setCell ⟨w.heap.size,1,none⟩ (.int .i64 1)).setCell ⟨w.heap.size,2,none⟩ (.string noB)).setCell ⟨w.heap.size,3,none⟩ (.slice none 0 0)).setCell ⟨w.heap.size,4,none⟩ (.slice none 0 0))=W5 at *
  refine bodyPost_ret (v:=.agg (dvals 116 1 noB (.slice none 0 0) (.slice none 0 0)).toArray) (by simp[results,Tryz.results34,go_sem,q0,q1,q2,q3,q4,dvals]) rfl ?_
  rw[hPOST.out]
  exact dat_good M3.out (DVal.bare _ _ 116 1 noB) hF (by simp[rdT,rdLeaf,hc.out])
 ·have n84:((c:Int)==84)=false:=by simp;omega
  replace hc:=hide hc
  replace h84:=hide h84
  go_enter Tryz.func34,Tryz.ntmps34
  go_wp2_with (first
   |(go_at_call 60;refine(lpeek_any M0.out.L hsl hjl).mono ?_;rintro e w1 ⟨rfl,hw1⟩;rw[hlk.out];have M1:=M0.out.still hw1;have F1:=(Fr.refl _ (fun g=>g=bl)).still hw1;have D0:=F1.blk B0.out (by omega);have D2:=F1.blk B2.out (by omega);replace M1:=hide M1;replace F1:=hide F1;replace D0:=hide D0;replace D2:=hide D2)
   |(go_at_call 59;refine(leat_any 70 M1.out.L hsl hjl rfl (by decide)).mono ?_;rintro e w2 ⟨rfl,hE⟩;obtain⟨j2,bad2,M2,F2,hJ⟩:=LEat.any (by decide) M1.out hE;have E0:=F2.blk D0.out (by omega);have E2:=F2.blk D2.out (by omega);have r0:=E0.cell 0;have r1:=E0.cell 1;have r2:=E0.cell 2;have r3:=E0.cell 3;have r4:=E0.cell 4;have t0:=E2.cell 0;have t1:=E2.cell 1;have t2:=E2.cell 2;have t3:=E2.cell 3;have t4:=E2.cell 4;have g0:=E0.thaw 0;have g1:=E0.thaw 1;have g2:=E0.thaw 2;have g3:=E0.thaw 3;have g4:=E0.thaw 4;simp only[zeroDat,dvals,List.getElem?_cons_zero,List.getElem?_cons_succ,Int.cast_ofNat_Int] at r0 r1 r2 r3 r4 t0 t1 t2 t3 t4;replace M2:=hide M2;replace F2:=hide F2;replace E0:=hide E0;replace E2:=hide E2;clear hE))
  have L5:=Blk.five E0.out (.int .u8 116) (.int .i64 0) (.string noB) (.slice none 0 0) (.slice none 0 0)
  have q0:=L5.cell 0
  have q1:=L5.cell 1
  have q2:=L5.cell 2
  have q3:=L5.cell 3
  have q4:=L5.cell 4
  simp only[List.getElem?_cons_zero,List.getElem?_cons_succ] at q0 q1 q2 q3 q4
  have hF:=Fr.five w2 (w.heap.size) (.int .u8 116) (.int .i64 0) (.string noB) (.slice none 0 0) (.slice none 0 0)
  generalize (((((World.setCell w2 ⟨w.heap.size,0,none⟩ (.int .u8 116)).setCell ⟨w.heap.size,1,none⟩ (.int .i64 0)).setCell ⟨w.heap.size,2,none⟩ (.string noB)).setCell ⟨w.heap.size,3,none⟩ (.slice none 0 0)).setCell ⟨w.heap.size,4,none⟩ (.slice none 0 0))=W5 at *
  refine bodyPost_ret (v:=.agg (dvals 116 0 noB (.slice none 0 0) (.slice none 0 0)).toArray) (by simp[results,Tryz.results34,go_sem,q0,q1,q2,q3,q4,dvals]) rfl ?_
  rw[hPOST.out]
  rcases hJ.out with⟨_,h70,rfl,rfl⟩|⟨h70,_,rfl⟩
  ·exact dat_good M2.out (DVal.bare _ _ 116 0 noB) hF (by simp[rdT,rdLeaf,h70])
  ·have h70':bt s i≠70:=by simpa using h70
   have h84':bt s i≠84:=by rw[hc.out];exact h84.out
   exact dat_bad M2.out ⟨_,_,_,rfl⟩ ⟨_,_,_,rfl⟩ hF (by simp[rdT,rdLeaf,h70',h84'])
theorem NumPost.any {w:World}{P:Nat→Prop}{bl:Nat}{s:ByteArray}{bz:Nat}{pl:Bool}{j kd:Nat}{ts:List TR}{env:Nat→Option PB}{W W':World}{e:Ending}(M:DM w P bl s bz pl j false ts env W) (h:NumPost W bl s bz pl j kd e W') :
 ∃ v j' bad',e=.returned (.int .i64 v)∧DM w P bl s bz pl j' bad' ts env W'∧Fr W W' (· = bl)∧Hid ((bad'=false∧rdNum s kd j=some (v,j'))∨(bad'=true∧rdNum s kd j=none)):=by
 obtain⟨k,neg,t,hn,ht,hk,h1,h2,hf,hh⟩:=h
 subst hn ht hk
 rcases hh with⟨a,b,c,d⟩|⟨a,c,d⟩
 ·exact⟨_,_,_,d,M.call c hf h2,hf,.inl ⟨rfl,by unfold rdNum;exact if_pos a⟩⟩
 ·exact⟨_,_,_,d,M.call c hf h2,hf,.inr ⟨rfl,by unfold rdNum;exact if_neg a⟩⟩
set_option maxHeartbeats 4000000 in
set_option maxRecDepth 100000 in
theorem dat_i {s:ByteArray}{env:Nat→Option PB}{pl:Bool}{ts:List TR}{f p i:Nat}:DatOK s env pl ts (f+1) (.leaf 105 p) i:=by
 intro w P bl bz k M hk
 simp only[isT] at hk
 obtain⟨g,m,cap,sv,z0,hkm,z1,z2,ho,hoP⟩:=M.Z.type hk
 simp only[Int.cast_ofNat_Int] at z1
 obtain⟨POST,hPOST⟩:∃ Q,Hid (Q=DatPost w bl s bz pl (rdT s env pl (f+1) (.leaf 105 p) i)):=⟨_,rfl⟩
 rw[← hPOST.out]
 have hl1:=M.lt
 have hl2:=cell_lt z0
 have hl3:=cell_lt z1
 have c3:=M.L.c3
 have c2:=M.L.c2
 have hjl:=M.jl
 have hsl:=M.sl
 obtain⟨sa,sn,sc,rfl⟩:=own_slice ho
 have M0:=hide (dw_M M 105 (.slice sa sn sc))
 have B0:=hide (dw_0 w 105 (.slice sa sn sc))
 have B1:=hide (dw_1 w 105 (.slice sa sn sc))
 have B2:=hide (dw_2 w 105 (.slice sa sn sc))
 have d2:=fun X Y Z=>cell_alloc3 c2 X Y Z
 have hkm':(k:Int)<(m:Int):=by omega
 replace M:=hide M
 replace ho:=hide ho
 replace hoP:=hide hoP
 replace hk:=hide hk
 go_enter Tryz.func34,Tryz.ntmps34
 go_wp2_with (go_at_call 61;refine(number_any (kd:=105) M0.out.L hsl hjl).mono ?_;intro e w1 hN;obtain⟨v,j1,bad1,rfl,M1,F1,hJ⟩:=hN.any M0.out;have D0:=F1.blk B0.out (by omega);have D2:=F1.blk B2.out (by omega);have p1:=D2.cell 1;have p2:=D2.thaw 1;simp only[dvals,List.getElem?_cons_zero,List.getElem?_cons_succ] at p1;have M2:=M1.put ⟨w.heap.size+1+1,1,none⟩ (.int .i64 v) (by simp;omega);have E2:=Blk.set D2 1 (.int .i64 v);have E0:=Blk.other D0 (a:=⟨w.heap.size+2,1,none⟩) (.int .i64 v) (by simp);have r0:=E0.cell 0;have r1:=E0.cell 1;have r2:=E0.cell 2;have r3:=E0.cell 3;have r4:=E0.cell 4;have t0:=E2.cell 0;have t1:=E2.cell 1;have t2:=E2.cell 2;have t3:=E2.cell 3;have t4:=E2.cell 4;have g0:=E0.thaw 0;have g1:=E0.thaw 1;have g2:=E0.thaw 2;have g3:=E0.thaw 3;have g4:=E0.thaw 4;simp only[zeroDat,dvals,List.getElem?_cons_zero,List.getElem?_cons_succ,List.set_cons_zero,List.set_cons_succ,Int.cast_ofNat_Int] at r0 r1 r2 r3 r4 t0 t1 t2 t3 t4;replace M1:=hide M1;replace M2:=hide M2;replace F1:=hide F1;replace D0:=hide D0;replace D2:=hide D2;replace E0:=hide E0;replace E2:=hide E2;clear hN)
 have L5:=Blk.five E0.out (.int .u8 105) (.int .i64 v) (.string noB) (.slice none 0 0) (.slice none 0 0)
 have q0:=L5.cell 0
 have q1:=L5.cell 1
 have q2:=L5.cell 2
 have q3:=L5.cell 3
 have q4:=L5.cell 4
 simp only[List.getElem?_cons_zero,List.getElem?_cons_succ] at q0 q1 q2 q3 q4
 have hF:=Fr.five (w1.setCell ⟨w.heap.size+1+1,1,none⟩ (.int .i64 v)) (w.heap.size) (.int .u8 105) (.int .i64 v) (.string noB) (.slice none 0 0) (.slice none 0 0)
 generalize (((((World.setCell (w1.setCell ⟨w.heap.size+1+1,1,none⟩ (.int .i64 v)) ⟨w.heap.size,0,none⟩ (.int .u8 105)).setCell ⟨w.heap.size,1,none⟩ (.int .i64 v)).setCell ⟨w.heap.size,2,none⟩ (.string noB)).setCell ⟨w.heap.size,3,none⟩ (.slice none 0 0)).setCell ⟨w.heap.size,4,none⟩ (.slice none 0 0))=W5 at *
 refine bodyPost_ret (v:=.agg (dvals 105 v noB (.slice none 0 0) (.slice none 0 0)).toArray) (by simp[results,Tryz.results34,go_sem,q0,q1,q2,q3,q4,dvals]) rfl ?_
 rw[hPOST.out]
 rcases hJ.out with⟨rfl,hr⟩|⟨rfl,hr⟩
 ·exact dat_good M2.out (DVal.bare _ _ 105 v noB) hF (by simp[rdT,rdLeaf,hr])
 ·exact dat_bad M2.out ⟨_,_,_,rfl⟩ ⟨_,_,_,rfl⟩ hF (by simp[rdT,rdLeaf,hr])
set_option maxHeartbeats 4000000 in
set_option maxRecDepth 100000 in
theorem dat_l {s:ByteArray}{env:Nat→Option PB}{pl:Bool}{ts:List TR}{f p i:Nat}:DatOK s env pl ts (f+1) (.leaf 108 p) i:=by
 intro w P bl bz k M hk
 simp only[isT] at hk
 obtain⟨g,m,cap,sv,z0,hkm,z1,z2,ho,hoP⟩:=M.Z.type hk
 simp only[Int.cast_ofNat_Int] at z1
 obtain⟨POST,hPOST⟩:∃ Q,Hid (Q=DatPost w bl s bz pl (rdT s env pl (f+1) (.leaf 108 p) i)):=⟨_,rfl⟩
 rw[← hPOST.out]
 have hl1:=M.lt
 have hl2:=cell_lt z0
 have hl3:=cell_lt z1
 have c3:=M.L.c3
 have c2:=M.L.c2
 have hjl:=M.jl
 have hsl:=M.sl
 obtain⟨sa,sn,sc,rfl⟩:=own_slice ho
 have M0:=hide (dw_M M 108 (.slice sa sn sc))
 have B0:=hide (dw_0 w 108 (.slice sa sn sc))
 have B1:=hide (dw_1 w 108 (.slice sa sn sc))
 have B2:=hide (dw_2 w 108 (.slice sa sn sc))
 have d2:=fun X Y Z=>cell_alloc3 c2 X Y Z
 have hkm':(k:Int)<(m:Int):=by omega
 replace M:=hide M
 replace ho:=hide ho
 replace hoP:=hide hoP
 replace hk:=hide hk
 go_enter Tryz.func34,Tryz.ntmps34
 go_wp2_with (go_at_call 61;refine(number_any (kd:=108) M0.out.L hsl hjl).mono ?_;intro e w1 hN;obtain⟨v,j1,bad1,rfl,M1,F1,hJ⟩:=hN.any M0.out;have D0:=F1.blk B0.out (by omega);have D2:=F1.blk B2.out (by omega);have p1:=D2.cell 1;have p2:=D2.thaw 1;simp only[dvals,List.getElem?_cons_zero,List.getElem?_cons_succ] at p1;have M2:=M1.put ⟨w.heap.size+1+1,1,none⟩ (.int .i64 v) (by simp;omega);have E2:=Blk.set D2 1 (.int .i64 v);have E0:=Blk.other D0 (a:=⟨w.heap.size+2,1,none⟩) (.int .i64 v) (by simp);have r0:=E0.cell 0;have r1:=E0.cell 1;have r2:=E0.cell 2;have r3:=E0.cell 3;have r4:=E0.cell 4;have t0:=E2.cell 0;have t1:=E2.cell 1;have t2:=E2.cell 2;have t3:=E2.cell 3;have t4:=E2.cell 4;have g0:=E0.thaw 0;have g1:=E0.thaw 1;have g2:=E0.thaw 2;have g3:=E0.thaw 3;have g4:=E0.thaw 4;simp only[zeroDat,dvals,List.getElem?_cons_zero,List.getElem?_cons_succ,List.set_cons_zero,List.set_cons_succ,Int.cast_ofNat_Int] at r0 r1 r2 r3 r4 t0 t1 t2 t3 t4;replace M1:=hide M1;replace M2:=hide M2;replace F1:=hide F1;replace D0:=hide D0;replace D2:=hide D2;replace E0:=hide E0;replace E2:=hide E2;clear hN)
 have L5:=Blk.five E0.out (.int .u8 108) (.int .i64 v) (.string noB) (.slice none 0 0) (.slice none 0 0)
 have q0:=L5.cell 0
 have q1:=L5.cell 1
 have q2:=L5.cell 2
 have q3:=L5.cell 3
 have q4:=L5.cell 4
 simp only[List.getElem?_cons_zero,List.getElem?_cons_succ] at q0 q1 q2 q3 q4
 have hF:=Fr.five (w1.setCell ⟨w.heap.size+1+1,1,none⟩ (.int .i64 v)) (w.heap.size) (.int .u8 108) (.int .i64 v) (.string noB) (.slice none 0 0) (.slice none 0 0)
 generalize (((((World.setCell (w1.setCell ⟨w.heap.size+1+1,1,none⟩ (.int .i64 v)) ⟨w.heap.size,0,none⟩ (.int .u8 108)).setCell ⟨w.heap.size,1,none⟩ (.int .i64 v)).setCell ⟨w.heap.size,2,none⟩ (.string noB)).setCell ⟨w.heap.size,3,none⟩ (.slice none 0 0)).setCell ⟨w.heap.size,4,none⟩ (.slice none 0 0))=W5 at *
 refine bodyPost_ret (v:=.agg (dvals 108 v noB (.slice none 0 0) (.slice none 0 0)).toArray) (by simp[results,Tryz.results34,go_sem,q0,q1,q2,q3,q4,dvals]) rfl ?_
 rw[hPOST.out]
 rcases hJ.out with⟨rfl,hr⟩|⟨rfl,hr⟩
 ·exact dat_good M2.out (DVal.bare _ _ 108 v noB) hF (by simp[rdT,rdLeaf,hr])
 ·exact dat_bad M2.out ⟨_,_,_,rfl⟩ ⟨_,_,_,rfl⟩ hF (by simp[rdT,rdLeaf,hr])
theorem LetPost.any {w:World}{P:Nat→Prop}{bl:Nat}{s:ByteArray}{bz:Nat}{pl:Bool}{j:Nat}{bad:Bool}{ts:List TR}{env:Nat→Option PB}{W W':World}{e:Ending}(M:DM w P bl s bz pl j bad ts env W) (h:LetPost W bl s bz pl j bad e W') :
 ∃ tx j',e=.returned (.string tx)∧DM w P bl s bz pl j' bad ts env W'∧Fr W W' (· = bl)∧tx.size≤4000∧Hid (tx=s.extract j j'∧j≤j'∧(bad=false→j'=letEnd s j)):=by
 obtain⟨k,h1,h2,h3,h4,h5,h6⟩:=h
 refine⟨_,k,h4,M.call h5 h6 h3,h6,?_,rfl,h2,fun hb=>by rw[h1,hb];rfl⟩
 have:=M.sl
 rw[ByteArray.size_extract];omega
set_option maxHeartbeats 4000000 in
set_option maxRecDepth 100000 in
theorem dat_s {s:ByteArray}{env:Nat→Option PB}{pl:Bool}{ts:List TR}{f p i:Nat}:DatOK s env pl ts (f+1) (.leaf 115 p) i:=by
 intro w P bl bz k M hk
 simp only[isT] at hk
 obtain⟨g,m,cap,sv,z0,hkm,z1,z2,ho,hoP⟩:=M.Z.type hk
 simp only[Int.cast_ofNat_Int] at z1
 obtain⟨POST,hPOST⟩:∃ Q,Hid (Q=DatPost w bl s bz pl (rdT s env pl (f+1) (.leaf 115 p) i)):=⟨_,rfl⟩
 rw[← hPOST.out]
 have hl1:=M.lt
 have hl2:=cell_lt z0
 have hl3:=cell_lt z1
 have c3:=M.L.c3
 have c2:=M.L.c2
 have hjl:=M.jl
 have hsl:=M.sl
 obtain⟨sa,sn,sc,rfl⟩:=own_slice ho
 have M0:=hide (dw_M M 115 (.slice sa sn sc))
 have B0:=hide (dw_0 w 115 (.slice sa sn sc))
 have B1:=hide (dw_1 w 115 (.slice sa sn sc))
 have B2:=hide (dw_2 w 115 (.slice sa sn sc))
 have d2:=fun X Y Z=>cell_alloc3 c2 X Y Z
 have hkm':(k:Int)<(m:Int):=by omega
 replace M:=hide M
 replace ho:=hide ho
 replace hoP:=hide hoP
 replace hk:=hide hk
 go_enter Tryz.func34,Tryz.ntmps34
 go_wp2_with (first
  |(go_at_call 62;refine(letters_any M1.out.L hsl M1.out.jl).mono ?_;intro e w2 hT;obtain⟨tx,j2,rfl,M2,F2,hx,hK⟩:=hT.any M1.out;have E0:=F2.blk D0.out (by omega);have E2:=F2.blk D2.out (by omega);have p1:=E2.cell 2;have p2:=E2.thaw 2;simp only[dvals,List.getElem?_cons_zero,List.getElem?_cons_succ] at p1;have M3:=M2.put ⟨w.heap.size+1+1,2,none⟩ (.string tx) (by simp;omega);have G2:=Blk.set E2 2 (.string tx);have G0:=Blk.other E0 (a:=⟨w.heap.size+2,2,none⟩) (.string tx) (by simp);replace M2:=hide M2;replace M3:=hide M3;replace F2:=hide F2;replace E0:=hide E0;replace E2:=hide E2;replace G0:=hide G0;replace G2:=hide G2;clear hT)
  |(go_at_call 59;refine(leat_any 34 M3.out.L hsl M3.out.jl rfl (by decide)).mono ?_;rintro e w4 ⟨rfl,hE⟩;obtain⟨j4,bad4,M4,F4,hJ4⟩:=LEat.any (by decide) M3.out hE;have H0:=F4.blk G0.out (by omega);have H2:=F4.blk G2.out (by omega);have r0:=H0.cell 0;have r1:=H0.cell 1;have r2:=H0.cell 2;have r3:=H0.cell 3;have r4:=H0.cell 4;have t0:=H2.cell 0;have t1:=H2.cell 1;have t2:=H2.cell 2;have t3:=H2.cell 3;have t4:=H2.cell 4;have g0:=H0.thaw 0;have g1:=H0.thaw 1;have g2:=H0.thaw 2;have g3:=H0.thaw 3;have g4:=H0.thaw 4;simp only[zeroDat,dvals,List.getElem?_cons_zero,List.getElem?_cons_succ,List.set_cons_zero,List.set_cons_succ,Int.cast_ofNat_Int] at r0 r1 r2 r3 r4 t0 t1 t2 t3 t4;replace M4:=hide M4;replace F4:=hide F4;replace H0:=hide H0;replace H2:=hide H2;clear hE)
  |(go_at_call 59;refine(leat_any 34 M0.out.L hsl hjl rfl (by decide)).mono ?_;rintro e w1 ⟨rfl,hE⟩;obtain⟨j1,bad1,M1,F1,hJ⟩:=LEat.any (by decide) M0.out hE;have D0:=F1.blk B0.out (by omega);have D2:=F1.blk B2.out (by omega);replace M1:=hide M1;replace F1:=hide F1;replace D0:=hide D0;replace D2:=hide D2;clear hE))
 have L5:=Blk.five H0.out (.int .u8 115) (.int .i64 0) (.string tx) (.slice none 0 0) (.slice none 0 0)
 have q0:=L5.cell 0
 have q1:=L5.cell 1
 have q2:=L5.cell 2
 have q3:=L5.cell 3
 have q4:=L5.cell 4
 simp only[List.getElem?_cons_zero,List.getElem?_cons_succ] at q0 q1 q2 q3 q4
 have hF:=Fr.five w4 (w.heap.size) (.int .u8 115) (.int .i64 0) (.string tx) (.slice none 0 0) (.slice none 0 0)
 generalize (((((World.setCell w4 ⟨w.heap.size,0,none⟩ (.int .u8 115)).setCell ⟨w.heap.size,1,none⟩ (.int .i64 0)).setCell ⟨w.heap.size,2,none⟩ (.string tx)).setCell ⟨w.heap.size,3,none⟩ (.slice none 0 0)).setCell ⟨w.heap.size,4,none⟩ (.slice none 0 0))=W5 at *
 refine bodyPost_ret (v:=.agg (dvals 115 0 tx (.slice none 0 0) (.slice none 0 0)).toArray) (by simp[results,Tryz.results34,go_sem,q0,q1,q2,q3,q4,dvals]) rfl ?_
 rw[hPOST.out]
 obtain⟨hx1,hx2,hx3⟩:=hK.out
 rcases hJ4.out with⟨rfl,h4,rfl,rfl⟩|⟨h4,rfl,rfl⟩
 ·rcases hJ.out with⟨_,h1,rfl,_⟩|⟨_,_,hb⟩
  ·have e2:=hx3 rfl
   subst hx1
   refine dat_good M4.out (DVal.bare _ _ 115 0 _) hF ?_
   rw[e2] at h4⊢
   simp[rdT,rdLeaf,h1,h4]
  ·cases hb
 ·refine dat_bad M4.out ⟨_,_,_,rfl⟩ ⟨_,_,_,rfl⟩ hF ?_
  rcases hJ.out with⟨_,h1,rfl,rfl⟩|⟨h1,_,hb⟩
  ·have e2:=hx3 rfl
   rw[e2] at h4
   have h4':bt s (letEnd s (i+1))≠34:=by simpa using h4
   simp[rdT,rdLeaf,h4']
  ·have h1':bt s i≠34:=by simpa using h1
   simp[rdT,rdLeaf,h1']
open Go.RowKit
theorem isT_some {ts:List TR}{k:Nat}{t:PT}(h:isT ts k t):∃ l,ts[k]?=some ⟨t.kind,l⟩:=by
 cases t with
 | leaf c p=>exact⟨_,h⟩
 | wrap c p t=>obtain⟨j,h,_⟩:=h;exact⟨_,h⟩
 | alts p l=>obtain⟨j,h,_⟩:=h;exact⟨_,h⟩
set_option maxHeartbeats 4000000 in
set_option maxRecDepth 100000 in
theorem dat_spoilt {s:ByteArray}{env:Nat→Option PB}{pl:Bool}{ts:List TR}(t:PT):DatBad s env pl ts t:=by
 intro w P bl bz k i M hk
 obtain⟨l,hk⟩:=isT_some hk
 obtain⟨c,hc⟩:∃ c,t.kind=c:=⟨_,rfl⟩
 rw[hc] at hk
 obtain⟨g,m,cap,sv,z0,hkm,z1,z2,ho,hoP⟩:=M.Z.type hk
 simp only at z1
 obtain⟨POST,hPOST⟩:∃ Q,Hid (Q=DatPost w bl s bz pl none):=⟨_,rfl⟩
 rw[← hPOST.out]
 have hl1:=M.lt
 have hl2:=cell_lt z0
 have hl3:=cell_lt z1
 have c3:=M.L.c3
 have c2:=M.L.c2
 obtain⟨sa,sn,sc,rfl⟩:=own_slice ho
 have B0:=dw_0 w c (.slice sa sn sc)
 have B2:=dw_2 w c (.slice sa sn sc)
 have r0:=B0.cell 0
 have t0:=B2.cell 0
 have g0:=B0.thaw 0
 have r1:=B0.cell 1
 have t1:=B2.cell 1
 have g1:=B0.thaw 1
 have r2:=B0.cell 2
 have t2:=B2.cell 2
 have g2:=B0.thaw 2
 have r3:=B0.cell 3
 have t3:=B2.cell 3
 have g3:=B0.thaw 3
 have r4:=B0.cell 4
 have t4:=B2.cell 4
 have g4:=B0.thaw 4
 have d2:=fun X Y Z=>cell_alloc3 c2 X Y Z
 simp only[dw,zeroDat,dvals,noB,List.getElem?_cons_zero,List.getElem?_cons_succ,Int.cast_ofNat_Int] at r0 r1 r2 r3 r4 t0 t1 t2 t3 t4 g0 g1 g2 g3 g4
 clear B0 B2
 have hkm':(k:Int)<(m:Int):=by omega
 replace M:=hide M
 replace ho:=hide ho
 replace hoP:=hide hoP
 replace hk:=hide hk
 go_enter Tryz.func34,Tryz.ntmps34
 go_wp2_with fail
 have L5:=((Blk.new w (dvals c 0 noB (.slice none 0 0) (.slice none 0 0)).toArray 37).alloc (.cells #[.int .u8 (c:Int),.slice sa sn sc] 77)).alloc (.cells (dvals c 0 noB (.slice none 0 0) (.slice none 0 0)).toArray 37)
 have q0:=L5.cell 0
 have q1:=L5.cell 1
 have q2:=L5.cell 2
 have q3:=L5.cell 3
 have q4:=L5.cell 4
 simp only[dvals,noB,List.getElem?_cons_zero,List.getElem?_cons_succ] at q0 q1 q2 q3 q4
 refine bodyPost_ret (v:=.agg (dvals c 0 noB (.slice none 0 0) (.slice none 0 0)).toArray) (by simp[results,Tryz.results34,go_sem,q0,q1,q2,q3,q4,dvals,noB]) rfl ?_
 rw[hPOST.out]
 exact dat_bad (((M.out.alloc _).alloc _).alloc _) ⟨_,_,_,rfl⟩ ⟨_,_,_,rfl⟩ (Fr.refl _ _) rfl
open Go.RowKit
theorem own_sl {w:World}{base size n:Nat}{e:TypeId}{v:Value}{xs:List Value}(h:w.ownsRow base e size v n xs):∃ a c,v=.slice a n c:=by
 rcases h.2 with⟨h1,h0⟩|⟨g,cap,_,h1,_⟩
 ·subst h0;exact⟨_,_,h1⟩
 ·exact⟨_,_,h1⟩
section
variable {w W W':World} {P:Nat→Prop} {bl:Nat} {s:ByteArray} {bz:Nat} {pl:Bool} {j:Nat} {bad:Bool} {ts:List TR} {env:Nat→Option PB} {b0 b1 B c:Nat} {vk vs:Value} {ks:List ByteArray} {n:Nat} {xs:List Value}
theorem LEat.lm {d:Nat}(hd:0<d) (Q:LM w P bl s bz pl j bad ts env b0 b1 B c vk vs ks n xs W) (h:LEat W bl s bz pl j bad d W') :
 ∃ j' bad',LM w P bl s bz pl j' bad' ts env b0 b1 B c vk vs ks n xs W'∧Fr W W' (· = bl)∧Hid ((bad=false∧bt s j=d∧j'=j+1∧bad'=false)∨((bad=true∨bt s j≠d)∧j'=j∧bad'=true)):=by
 obtain⟨j',bad',M',hf,hh⟩:=LEat.any hd Q.M h
 exact⟨j',bad',Q.call M'.L hf M'.jl,hf,hh⟩
theorem LetPost.lm {e:Ending}(Q:LM w P bl s bz pl j bad ts env b0 b1 B c vk vs ks n xs W) (h:LetPost W bl s bz pl j bad e W') :
 ∃ tx j',e=.returned (.string tx)∧LM w P bl s bz pl j' bad ts env b0 b1 B c vk vs ks n xs W'∧Fr W W' (· = bl)∧tx.size≤4000∧Hid (tx=s.extract j j'∧j≤j'∧(bad=false→j'=letEnd s j)):=by
 obtain⟨tx,j',he,M',hf,hx,hh⟩:=LetPost.any Q.M h
 exact⟨tx,j',he,Q.call M'.L hf M'.jl,hf,hx,hh⟩
theorem DatPost.lm {r:Option (DT×Nat)}{e:Ending}(Q:LM w P bl s bz pl j bad ts env b0 b1 B c vk vs ks n xs W) (h:DatPost W bl s bz pl r e W') :
 ∃ (k:Nat) (m:Int) (tx:ByteArray) (a1:Option Addr) (m1 c1:Nat) (a2:Option Addr) (m2 c2:Nat) (j':Nat) (bad':Bool),e=.returned (.agg #[.int .u8 (k:Int),.int .i64 m,.string tx,.slice a1 m1 c1,.slice a2 m2 c2])∧LM w P bl s bz pl j' bad' ts env b0 b1 B c vk vs ks n xs W'∧Fr W W' (· = bl)∧
  Hid ((∃ d,r=some (d,j')∧bad'=false∧DVal W' (fun g=>B≤g∧vk.ownBlock≠some g∧vs.ownBlock≠some g) d (dvals k m tx (.slice a1 m1 c1) (.slice a2 m2 c2)))∨(r=none∧bad'=true)):=by
 obtain⟨k,m,tx,vk',vs',he,⟨a1,m1,c1,rfl⟩,⟨a2,m2,c2,rfl⟩,hf,hh⟩:=h
 have hbB:=Q.bB
 cases r with
 | none=>
  obtain⟨j',h1,h2⟩:=hh
  exact⟨k,m,tx,a1,m1,c1,a2,m2,c2,j',true,he,Q.call h2 hf h1,hf,.inr ⟨rfl,rfl⟩⟩
 | some q=>
  obtain⟨d,j'⟩:=q
  obtain⟨h1,h2,h3⟩:=hh
  refine⟨k,m,tx,a1,m1,c1,a2,m2,c2,j',false,he,Q.call h2 hf h1,hf,.inl ⟨d,rfl,rfl,h3.mono (fun g _ hg=>⟨by omega,fun e=>?_,fun e=>?_⟩)⟩⟩
  ·have:=Q.kr.lt g e;omega
  ·have:=Q.vr.lt g e;omega
end
def Out1 (RES:Option (List (ByteArray×DT)×Nat)) (R:Nat→Option (DT×Nat)) (s:ByteArray) (fin:Nat) (keyed:Bool) (acc:List (ByteArray×DT)) (i j j':Nat) (bad':Bool):Prop:=
 (bad'=false∧j≤j'∧i+acc.length≤j'∧∃ nn,s.size<nn+j'∧RES=aheadL acc (rdItems R s fin keyed nn (lastK acc) j'))∨(bad'=true∧RES=none)
def Out2 (RES:Option (List (ByteArray×DT)×Nat)) (R:Nat→Option (DT×Nat)) (s:ByteArray) (fin:Nat) (keyed:Bool) (acc:List (ByteArray×DT)) (i j:Nat) (tx:ByteArray) (j':Nat) (bad':Bool):Prop:=
 (bad'=false∧j≤j'∧i+acc.length≤j'∧∃ nn,s.size<nn+1+j'∧RES=if bt s j'=58 then itemL R s fin keyed nn acc tx (j'+1) else none)∨(bad'=true∧RES=none)
def Out3 (RES:Option (List (ByteArray×DT)×Nat)) (R:Nat→Option (DT×Nat)) (s:ByteArray) (fin:Nat) (keyed:Bool) (acc:List (ByteArray×DT)) (ks:List ByteArray) (i j j':Nat) (bad':Bool):Prop:=
 (bad'=false∧j≤j'∧i+acc.length≤j'∧∃ nn key,(∀ d,ks=keysOf keyed (acc++[(key,d)]))∧s.size<nn+1+j'∧RES=itemL R s fin keyed nn acc key j')∨(bad'=true∧RES=none)
theorem out1_first {RES:Option (List (ByteArray×DT)×Nat)}{R:Nat→Option (DT×Nat)}{s:ByteArray}{fin:Nat}{keyed:Bool}{i j:Nat}(hji:j=i) (hc:bt s j≠fin) (hres:RES=if bt s i=fin then some ([],i+1) else aheadL [] (rdItems R s fin keyed (s.size+2) none i)) :
 Out1 RES R s fin keyed [] i j j false:=by
 subst hji
 rw[if_neg hc] at hres
 exact .inl ⟨rfl,Nat.le_refl _,by simp,s.size+2,by omega,hres⟩
theorem out1_more {RES:Option (List (ByteArray×DT)×Nat)}{R:Nat→Option (DT×Nat)}{s:ByteArray}{fin:Nat}{keyed:Bool}{acc:List (ByteArray×DT)}{i j nn j':Nat}{bad':Bool}(hc:bt s j≠fin) (hij:i+acc.length≤j) (hnn:s.size<nn+j) (hres:RES=contL R s fin keyed nn acc j)
 (hJ:(bt s j=44∧j'=j+1∧bad'=false)∨(bt s j≠44∧j'=j∧bad'=true)):Out1 RES R s fin keyed acc i j j' bad':=by
 unfold contL at hres
 rw[if_neg hc] at hres
 rcases hJ with⟨h,rfl,rfl⟩|⟨h,rfl,rfl⟩
 ·rw[if_pos h] at hres
  exact .inl ⟨rfl,by omega,by omega,nn,by omega,hres⟩
 ·rw[if_neg h] at hres
  exact .inr ⟨rfl,hres⟩
theorem out3_plain {RES:Option (List (ByteArray×DT)×Nat)}{R:Nat→Option (DT×Nat)}{s:ByteArray}{fin:Nat}{acc:List (ByteArray×DT)}{i j j':Nat}{bad':Bool}(hj:j'≤s.size) (h:Out1 RES R s fin false acc i j j' bad') (ks:List ByteArray) (hks:bad'=false→ks=keysOf false acc):Out3 RES R s fin false acc ks i j j' bad':=by
 rcases h with⟨rfl,h1,h2,nn,h3,h4⟩|h
 ·obtain⟨m,rfl⟩:∃ m,nn=m+1:=⟨nn-1,by omega⟩
  rw[aheadL_step] at h4
  refine .inl ⟨rfl,h1,h2,m,noB,fun d=>by rw[hks rfl];rfl,by omega,h4⟩
 ·exact .inr h
theorem out2_of {RES:Option (List (ByteArray×DT)×Nat)}{R:Nat→Option (DT×Nat)}{s:ByteArray}{fin:Nat}{acc:List (ByteArray×DT)}{i j j' j2:Nat}{bad':Bool}{tx:ByteArray}(hj:j'≤s.size) (h:Out1 RES R s fin true acc i j j' bad') (ht:tx=s.extract j' j2∧j'≤j2∧(bad'=false→j2=letEnd s j')) :
 (rises (lastK acc) tx=true→Out2 RES R s fin true acc i j tx j2 bad')∧(rises (lastK acc) tx=false→Out2 RES R s fin true acc i j tx j2 true):=by
 rcases h with⟨rfl,h1,h2,nn,h3,h4⟩|h
 ·obtain⟨m,rfl⟩:∃ m,nn=m+1:=⟨nn-1,by omega⟩
  rw[aheadL_step] at h4
  have e2:=ht.2.2 rfl
  unfold rdKey at h4
  rw[if_pos rfl,← e2,← ht.1] at h4
  refine⟨fun hr=>.inl ⟨rfl,by omega,by omega,m,by omega,?_⟩,fun hr=>.inr ⟨rfl,?_⟩⟩
  ·rw[h4,hr]
   by_cases hb:bt s j2=58
   ·rw[if_pos ⟨hb,rfl⟩,if_pos hb]
   ·rw[if_neg (fun x=>hb x.1),if_neg hb]
  ·rw[h4,hr,if_neg (fun x=>by simp at x)]
 ·exact⟨fun _=>.inr h,fun _=>.inr ⟨rfl,h.2⟩⟩
theorem out3_key {RES:Option (List (ByteArray×DT)×Nat)}{R:Nat→Option (DT×Nat)}{s:ByteArray}{fin:Nat}{acc:List (ByteArray×DT)}{i j j' j2:Nat}{bad bad':Bool}{tx:ByteArray}{ks:List ByteArray}(hks:ks=keysOf true acc) (h:Out2 RES R s fin true acc i j tx j' bad)
 (hJ:(bad=false∧bt s j'=58∧j2=j'+1∧bad'=false)∨((bad=true∨bt s j'≠58)∧j2=j'∧bad'=true)):Out3 RES R s fin true acc (ks++[tx]) i j j2 bad':=by
 rcases h with⟨rfl,h1,h2,nn,h3,h4⟩|⟨rfl,h⟩
 ·rcases hJ with⟨_,hb,rfl,rfl⟩|⟨hb,rfl,rfl⟩
  ·rw[if_pos hb] at h4
   exact .inl ⟨rfl,by omega,by omega,nn,tx,fun d=>by rw[hks];simp[keysOf],by omega,h4⟩
  ·have hb':bt s j2≠58:=by simpa using hb
   rw[if_neg hb'] at h4
   exact .inr ⟨rfl,h4⟩
 ·rcases hJ with⟨hb,_⟩|⟨_,rfl,rfl⟩
  ·cases hb
  ·exact .inr ⟨rfl,h⟩
theorem rises_last {acc:List (ByteArray×DT)}{ks:List ByteArray}(hks:ks=keysOf true acc):(ks=[]→lastK acc=none)∧(∀ q kl,ks=q++[kl]→lastK acc=some kl):=by
 unfold keysOf at hks
 rw[if_pos rfl] at hks
 subst hks
 refine⟨fun h=>?_,fun q kl h=>?_⟩
 ·rw[List.map_eq_nil_iff] at h;subst h;rfl
 ·unfold lastK
  rw[← List.getLast?_map,h]
  simp
end Go.Proofs.YtiifagiebikmdaaGreatDoor
