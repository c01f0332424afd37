import Derived.Test.YtiifagiebikmdaaGreatDoorW15
import Derived.Test.YtiifagiebikmdaaGreatDoorW01
import Derived.Deep.DeepCutAuto
namespace Go.Proofs.YtiifagiebikmdaaGreatDoor
open Go.RowKit
def NmOK (s:ByteArray) (env:Nat→Option PB) (pl:Bool) (ts:List TR) (f:Nat) (pb:PB) (i:Nat):Prop:=
 ∀ (w:World) (P:Nat→Prop) (bl bz:Nat) (so:Int) (fv:Value) (sb:ByteArray) (o n:Int),DM w P bl s bz pl i false ts env w→NamedAt w P ts pb so fv sb n→
  Calls Tryz.prog 65 #[.pointer (some ⟨bl,0,none⟩),.agg #[.int .u8 so,fv,.string sb,.int .i64 o,.int .i64 n]] w (DatPost w bl s bz pl (rdNamed (rdT s env pl f) s pb i))
def nw (w:World) (c:Nat) (fv:Value) (sb:ByteArray) (o n:Int):World:=
 ((w.alloc (.cells #[.int .u8 (c:Int),fv,.string sb,.int .i64 o,.int .i64 n] 44)).alloc (.cells zeroDat.toArray 37)).alloc (.cells (dvals c 0 noB (.slice none 0 0) (.slice none 0 0)).toArray 37)
theorem nw_0 (w:World) (c:Nat) (fv:Value) (sb:ByteArray) (o n:Int):Blk (nw w c fv sb o n) w.heap.size [.int .u8 (c:Int),fv,.string sb,.int .i64 o,.int .i64 n] 44:=((Blk.new w _ _).alloc _).alloc _
theorem nw_1 (w:World) (c:Nat) (fv:Value) (sb:ByteArray) (o n:Int):Blk (nw w c fv sb o n) (w.heap.size+1) zeroDat 37:=by
 have:=(Blk.new (w.alloc (.cells #[.int .u8 (c:Int),fv,.string sb,.int .i64 o,.int .i64 n] 44)) zeroDat.toArray 37).alloc (.cells (dvals c 0 noB (.slice none 0 0) (.slice none 0 0)).toArray 37)
 simpa[nw] using this
theorem nw_2 (w:World) (c:Nat) (fv:Value) (sb:ByteArray) (o n:Int):Blk (nw w c fv sb o n) (w.heap.size+2) (dvals c 0 noB (.slice none 0 0) (.slice none 0 0)) 37:=by
 have:=Blk.new ((w.alloc (.cells #[.int .u8 (c:Int),fv,.string sb,.int .i64 o,.int .i64 n] 44)).alloc (.cells zeroDat.toArray 37)) (dvals c 0 noB (.slice none 0 0) (.slice none 0 0)).toArray 37
 simpa[nw] using this
theorem nw_M {w:World}{P:Nat→Prop}{bl:Nat}{s:ByteArray}{bz:Nat}{pl:Bool}{j:Nat}{bad:Bool}{ts:List TR}{env:Nat→Option PB}(M:DM w P bl s bz pl j bad ts env w) (c:Nat) (fv:Value) (sb:ByteArray) (o n:Int):DM w P bl s bz pl j bad ts env (nw w c fv sb o n):=((M.alloc _).alloc _).alloc _
set_option maxHeartbeats 8000000 in
set_option maxRecDepth 100000 in
theorem nm_bytes {s:ByteArray}{env:Nat→Option PB}{pl:Bool}{ts:List TR}{f m i:Nat}:NmOK s env pl ts f (.bytes m) i:=by
 intro w P bl bz so fv sb o n M hN
 obtain⟨⟨fa,fn,fc,rfl⟩,hfP,rfl,hN⟩:=hN
 obtain⟨POST,hPOST⟩:∃ Q,Hid (Q=DatPost w bl s bz pl (rdNamed (rdT s env pl f) s (.bytes m) i)):=⟨_,rfl⟩
 rw[← hPOST.out]
 have hl1:=M.lt
 have hjl:=M.jl
 have hsl:=M.sl
 have M0:=hide (nw_M M 102 (.slice fa fn fc) sb o n)
 have B0:=hide (nw_0 w 102 (.slice fa fn fc) sb o n)
 have B1:=hide (nw_1 w 102 (.slice fa fn fc) sb o n)
 have B2:=hide (nw_2 w 102 (.slice fa fn fc) sb o n)
 have hdl:=hide (show(nw w 102 (.slice fa fn fc) sb o n).heap.size=w.heap.size+3 by simp[nw])
 replace M:=hide M
 replace hfP:=hide hfP
 replace hN:=hide hN
 have hn:=hN.out
 subst hn
 clear hN
 go_enter Tryz.func65,Tryz.ntmps65
 go_upto_if 94 with(first
  |(go_at_call 62;refine(letters_any M1.out.L hsl M1.out.jl).mono ?_;intro e w2 hT;obtain⟨tx,j2,rfl,M2,F2,hx,hK⟩:=hT.any M1.out;have E0:=F2.blk D0.out (by omega);have E1:=F2.blk D1.out (by omega);have E2:=F2.blk D2.out (by omega);have p1:=E2.cell 2;have p2:=E2.thaw 2;have M3:=M2.put ⟨w.heap.size+1+1,2,none⟩ (.string tx) (by show w.heap.size≤w.heap.size+1+1;omega);have G2:=Blk.set E2 2 (.string tx);have G1:=Blk.other E1 (a:=⟨w.heap.size+1+1,2,none⟩) (.string tx) (by show ¬ (w.heap.size+1=w.heap.size+1+1);omega);have G0:=Blk.other E0 (a:=⟨w.heap.size+1+1,2,none⟩) (.string tx) (by show ¬ (w.heap.size=w.heap.size+1+1);omega);have p3:=G2.cell 2;have p4:=G0.cell 4;have c23:=M3.L.c2;have f23:=M3.L.thaw 2;simp only[dvals,List.getElem?_cons_zero,List.getElem?_cons_succ,List.set_cons_zero,List.set_cons_succ] at p1 p3 p4;replace M2:=hide M2;replace M3:=hide M3;replace F2:=hide F2;replace E0:=hide E0;replace E1:=hide E1;replace E2:=hide E2;replace G0:=hide G0;replace G1:=hide G1;replace G2:=hide G2;clear hT)
  |(go_at_call 59;refine(leat_any 39 M0.out.L hsl hjl rfl (by decide)).mono ?_;rintro e w1 ⟨rfl,hE⟩;obtain⟨j1,bad1,M1,F1,hJ⟩:=LEat.any (by decide) M0.out hE;have D0:=F1.blk B0.out (by omega);have D1:=F1.blk B1.out (by omega);have D2:=F1.blk B2.out (by omega);replace M1:=hide M1;replace F1:=hide F1;replace D0:=hide D0;replace D1:=hide D1;replace D2:=hide D2;clear hE))
 go_cut [] (fun W=>∃ bad3,DM w P bl s bz pl j2 bad3 ts env W∧Blk W (w.heap.size+1) zeroDat 37∧Blk W (w.heap.size+2) (dvals 102 0 tx (.slice none 0 0) (.slice none 0 0)) 37∧((bad3=bad1∧tx.size=m)∨(bad3=true∧tx.size≠m)))
 case first=>
  by_cases hsz:tx.size=m
  ·have en:(((tx.size:Nat):Int) != (m:Int))=false:=by simp;omega
   replace hsz:=hide hsz
   go_wp2_with fail
   go_meet
   case rel=>exact⟨bad1,M3.out,G1.out,G2.out,.inl ⟨rfl,hsz.out⟩⟩
  ·have en:(((tx.size:Nat):Int) != (m:Int))=true:=by simp;omega
   replace hsz:=hide hsz
   go_wp2_with fail
   go_meet
   case rel=>exact⟨true,M3.out.spoil,Blk.other G1.out _ (by show ¬ (w.heap.size+1=bl);omega),Blk.other G2.out _ (by show ¬ (w.heap.size+2=bl);omega),.inr ⟨rfl,hsz.out⟩⟩
 case rest=>
  clear M3 G0 G1 G2 p1 p2 p3 p4 c23 f23 D0 D1 D2 E0 E1 E2
  obtain⟨bad3,M3,G1,G2,hS⟩:=hcut
  replace M3:=hide M3
  replace G1:=hide G1
  replace G2:=hide G2
  replace hS:=hide hS
  go_wp2_with (go_at_call 59;refine(leat_any 39 M3.out.L hsl M3.out.jl rfl (by decide)).mono ?_;rintro e w4 ⟨rfl,hE⟩;obtain⟨j4,bad4,M4,F4,hJ4⟩:=LEat.any (by decide) M3.out hE;have H1:=F4.blk G1.out (by omega);have H2:=F4.blk G2.out (by omega);have r0:=H1.cell 0;have r1:=H1.cell 1;have r2:=H1.cell 2;have r3:=H1.cell 3;have r4:=H1.cell 4;have t0:=H2.cell 0;have t1:=H2.cell 1;have t2:=H2.cell 2;have t3:=H2.cell 3;have t4:=H2.cell 4;have g0:=H1.thaw 0;have g1:=H1.thaw 1;have g2:=H1.thaw 2;have g3:=H1.thaw 3;have g4:=H1.thaw 4;simp only[zeroDat,dvals,List.getElem?_cons_zero,List.getElem?_cons_succ,Int.cast_ofNat_Int] at r0 r1 r2 r3 r4 t0 t1 t2 t3 t4;replace M4:=hide M4;replace F4:=hide F4;replace H1:=hide H1;replace H2:=hide H2;clear hE)
  have L5:=Blk.five H1.out (.int .u8 102) (.int .i64 0) (.string tx) (.slice none 0 0) (.slice none 0 0)
  have q0:=L5.cell 0
  have q1:=L5.cell 1
  have q2:=L5.cell 2
  have q3:=L5.cell 3
  have q4:=L5.cell 4
  simp only[List.getElem?_cons_zero,List.getElem?_cons_succ] at q0 q1 q2 q3 q4
  have hF:=Fr.five w4 (w.heap.size+1) (.int .u8 102) (.int .i64 0) (.string tx) (.slice none 0 0) (.slice none 0 0)
  generalize (((((World.setCell w4 ⟨w.heap.size+1,0,none⟩ (.int .u8 102)).setCell ⟨w.heap.size+1,1,none⟩ (.int .i64 0)).setCell ⟨w.heap.size+1,2,none⟩ (.string tx)).setCell ⟨w.heap.size+1,3,none⟩ (.slice none 0 0)).setCell ⟨w.heap.size+1,4,none⟩ (.slice none 0 0))=W5 at *
  refine bodyPost_ret (v:=.agg (dvals 102 0 tx (.slice none 0 0) (.slice none 0 0)).toArray) (by simp[results,Tryz.results65,go_sem,q0,q1,q2,q3,q4,dvals]) rfl ?_
  rw[hPOST.out]
  obtain⟨hx1,hx2,hx3⟩:=hK.out
  rcases hJ4.out with⟨rfl,h4,rfl,rfl⟩|⟨h4,_,rfl⟩
  ·rcases hS.out with⟨hb,hsz⟩|⟨hb,_⟩
   ·subst hb
    rcases hJ.out with⟨_,h1,rfl,_⟩|⟨_,_,hb⟩
    ·have e2:=hx3 rfl
     have e3:j2-(i+1)=m:=by
      rw[← hsz,hx1,ByteArray.size_extract]
      have:=M3.out.jl
      omega
     subst hx1
     refine dat_good' (w.heap.size+1) (by omega) M4.out (DVal.bare _ _ 102 0 _) hF ?_
     unfold rdNamed
     simp only
     rw[← e2,if_pos ⟨h1,e3,h4⟩]
    ·cases hb
   ·cases hb
  ·refine dat_bad' (w.heap.size+1) (by omega) M4.out ⟨_,_,_,rfl⟩ ⟨_,_,_,rfl⟩ hF ?_
   unfold rdNamed
   simp only
   refine if_neg (fun hh=>?_)
   rcases hJ.out with⟨_,h1,rfl,rfl⟩|⟨h1,_,hb⟩
   ·have e2:=hx3 rfl
    rw[← e2] at hh
    have e3:tx.size=m:=by
     rw[hx1,ByteArray.size_extract]
     have:=M3.out.jl
     omega
    rcases hS.out with⟨hb,_⟩|⟨_,hb⟩
    ·rcases h4 with h4|h4
     ·rw[h4] at hb;cases hb
     ·exact h4 hh.2.2
    ·exact hb e3
   ·rcases h1 with h1|h1
    ·cases h1
    ·exact h1 hh.1
open Go.RowKit
theorem plc_find {sb:ByteArray}{l:List (Nat×Nat)}(h:sb.data.toList.map UInt8.toNat=l.map Prod.fst) (c:Nat):plc sb c=match (l.map Prod.fst).findIdx? (fun x=>x==c) with|some k=>(k:Int)|none=>-1:=by
 rw[← h,List.findIdx?_map]
 rfl
set_option maxHeartbeats 8000000 in
set_option maxRecDepth 100000 in
theorem nm_enum {s:ByteArray}{env:Nat→Option PB}{pl:Bool}{ts:List TR}{f i:Nat}{l:List (Nat×Nat)}{unk:Option (Nat×Nat)}(hok:∀ c∈l.map Prod.fst,0<c) (hlen:l.length≤300):NmOK s env pl ts f (.enum l unk) i:=by
 intro w P bl bz so fv sb o n M hN
 obtain⟨⟨fa,fn,fc,rfl⟩,hfP,rfl,hN⟩:=hN
 obtain⟨POST,hPOST⟩:∃ Q,Hid (Q=DatPost w bl s bz pl (rdNamed (rdT s env pl f) s (.enum l unk) i)):=⟨_,rfl⟩
 rw[← hPOST.out]
 have hl1:=M.lt
 have hjl:=M.jl
 have hsl:=M.sl
 have M0:=hide (nw_M M 101 (.slice fa fn fc) sb o n)
 have B0:=hide (nw_0 w 101 (.slice fa fn fc) sb o n)
 have B1:=hide (nw_1 w 101 (.slice fa fn fc) sb o n)
 have B2:=hide (nw_2 w 101 (.slice fa fn fc) sb o n)
 have hdl:=hide (show(nw w 101 (.slice fa fn fc) sb o n).heap.size=w.heap.size+3 by simp[nw])
 replace M:=hide M
 replace hfP:=hide hfP
 replace hN:=hide hN
 have hsb:sb.size≤100000:=by
  have:=congrArg List.length hN.out
  rw[List.length_map,List.length_map] at this
  have e:sb.size=sb.data.toList.length:=by rw[Array.length_toList];rfl
  omega
 obtain⟨c,hc⟩:∃ c,bt s i=c:=⟨_,rfl⟩
 have hlk:=hide (show lk s i false=c by simp[lk,hc])
 obtain⟨v,hv⟩:∃ v,plc sb c=v:=⟨_,rfl⟩
 replace hc:=hide hc
 replace hv:=hide hv
 replace hok:=hide hok
 go_enter Tryz.func65,Tryz.ntmps65
 go_wp2_with fail
 change Code.wp _ _ _ _ (nw w 101 (.slice fa fn fc) sb o n)
 generalize nw w 101 (.slice fa fn fc) sb o n=W0 at *
 have u2:=B0.out.cell 2
 simp only[List.getElem?_cons_zero,List.getElem?_cons_succ] at u2
 refine wp_regionC 6 (fun W=>W.cell? ⟨w.heap.size,2,none⟩=some (.string sb)) (by kernel_rfl) ?_
 refine wpAnyC_take 0 ?v0 rfl (by kernel_rfl) (fun _ _ _ h=>h) (by rfl) ?y0 ?_
 case y0=>(intro W hW;go_simp <;> rfl)
 refine wpAnyC_take 1 ?v1 rfl (by kernel_rfl) (fun _ _ _ h=>h) (by rfl) ?y1 ?_
 case y1=>(intro W hW;go_simp <;> rfl)
 refine wpAnyC_take 2 ?v2 rfl (by kernel_rfl) (fun _ _ _ h=>h) (by rfl) ?y2 ?_
 case y2=>(intro W hW;go_simp <;> rfl)
 refine wpAnyC_one 3 rfl (by kernel_rfl) (fun _=>u2) (fun K hK=>?_)
 go_simp
 refine(lpeek_any (M0.out.still (Still.drew W0)).L hsl hjl).mono ?_
 rintro e w1 ⟨rfl,hw1⟩
 rw[hlk.out]
 refine hK _ _ ?_
 clear hK K
 have hw01:Still W0 w1:=(Still.drew W0).trans hw1
 have M1:=M0.out.still hw01
 have F1:=(Fr.refl W0 (fun g=>g=bl)).still hw01
 have D0:=F1.blk B0.out (by omega)
 have D1:=F1.blk B1.out (by omega)
 have D2:=F1.blk B2.out (by omega)
 have u21:=D0.cell 2
 have p1:=D2.cell 1
 have p2:=D2.thaw 1
 simp only[dvals,List.getElem?_cons_zero,List.getElem?_cons_succ] at u21 p1
 refine wpAnyC_one 4 rfl (by kernel_rfl) (fun _=>u21) (fun K hK=>?_)
 go_simp
 refine(place_any sb c w1 hsb).mono ?_
 rintro e w' ⟨rfl,hw'⟩
 rw[hv.out]
 refine hK _ _ ?_
 clear hK K
 rw[hw']
 clear hw' w'
 refine wpAnyC_one 5 rfl (by kernel_rfl) (fun _=>u21) (fun K hK=>?_)
 go_simp
 refine hK _ _ ?_
 clear hK K
 refine wpAnyC_one 6 rfl (by kernel_rfl) (fun _=>u21) (fun K hK=>?_)
 go_simp
 refine hK _ _ ?_
 clear hK K
 refine wpAnyC_done (by kernel_rfl) (fun hm=>absurd hm (by decide)) ?_ _
 have M2:=M1.put ⟨w.heap.size+1+1,1,none⟩ (.int .i64 v) (by show w.heap.size≤w.heap.size+1+1;omega)
 have E2:=Blk.set D2 1 (.int .i64 v)
 have E1:=Blk.other D1 (a:=⟨w.heap.size+1+1,1,none⟩) (.int .i64 v) (by show ¬ (w.heap.size+1=w.heap.size+1+1);omega)
 have p3:=E2.cell 1
 have c12:=M2.L.c1
 have c22:=M2.L.c2
 have f12:=M2.L.thaw 1
 have f22:=M2.L.thaw 2
 simp only[dvals,List.getElem?_cons_zero,List.getElem?_cons_succ,List.set_cons_zero,List.set_cons_succ] at p3
 have hpf:=plc_find hN.out c
 have hge:=plc_ge sb c
 rw[hv.out] at hpf hge
 replace M1:=hide M1
 replace F1:=hide F1
 replace D0:=hide D0
 replace D1:=hide D1
 replace D2:=hide D2
 replace hpf:=hide hpf
 clear u2 u21 p1 p2
 by_cases hv0:v<0
 ·have M3:=M2.spoil
  have H1:=Blk.other E1 (a:=⟨bl,2,none⟩) (.bool true) (by show ¬ (w.heap.size+1=bl);omega)
  have H2:=Blk.other E2 (a:=⟨bl,2,none⟩) (.bool true) (by show ¬ (w.heap.size+2=bl);omega)
  have r0:=H1.cell 0
  have r1:=H1.cell 1
  have r2:=H1.cell 2
  have r3:=H1.cell 3
  have r4:=H1.cell 4
  have t0:=H2.cell 0
  have t1:=H2.cell 1
  have t2:=H2.cell 2
  have t3:=H2.cell 3
  have t4:=H2.cell 4
  have g0:=H1.thaw 0
  have g1:=H1.thaw 1
  have g2:=H1.thaw 2
  have g3:=H1.thaw 3
  have g4:=H1.thaw 4
  simp only[zeroDat,dvals,List.getElem?_cons_zero,List.getElem?_cons_succ,List.set_cons_zero,List.set_cons_succ,Int.cast_ofNat_Int] at r0 r1 r2 r3 r4 t0 t1 t2 t3 t4
  replace M2:=hide M2
  replace M3:=hide M3
  replace E1:=hide E1
  replace E2:=hide E2
  replace H1:=hide H1
  replace H2:=hide H2
  go_wp2_with fail
  have L5:=Blk.five H1.out (.int .u8 101) (.int .i64 v) (.string noB) (.slice none 0 0) (.slice none 0 0)
  have q0:=L5.cell 0
  have q1:=L5.cell 1
  have q2:=L5.cell 2
  have q3:=L5.cell 3
  have q4:=L5.cell 4
  simp only[List.getElem?_cons_zero,List.getElem?_cons_succ] at q0 q1 q2 q3 q4
  have hF:=Fr.five ((World.setCell w1 ⟨w.heap.size+1+1,1,none⟩ (.int .i64 v)).setCell ⟨bl,2,none⟩ (.bool true)) (w.heap.size+1) (.int .u8 101) (.int .i64 v) (.string noB) (.slice none 0 0) (.slice none 0 0)
  generalize (((((World.setCell ((World.setCell w1 ⟨w.heap.size+1+1,1,none⟩ (.int .i64 v)).setCell ⟨bl,2,none⟩ (.bool true)) ⟨w.heap.size+1,0,none⟩ (.int .u8 101)).setCell ⟨w.heap.size+1,1,none⟩ (.int .i64 v)).setCell ⟨w.heap.size+1,2,none⟩ (.string noB)).setCell ⟨w.heap.size+1,3,none⟩ (.slice none 0 0)).setCell ⟨w.heap.size+1,4,none⟩ (.slice none 0 0))=W5 at *
  refine bodyPost_ret (v:=.agg (dvals 101 v noB (.slice none 0 0) (.slice none 0 0)).toArray) (by simp[results,Tryz.results65,go_sem,q0,q1,q2,q3,q4,dvals]) rfl ?_
  rw[hPOST.out]
  refine dat_bad' (w.heap.size+1) (by omega) M3.out ⟨_,_,_,rfl⟩ ⟨_,_,_,rfl⟩ hF ?_
  unfold rdNamed
  simp only
  rw[hc.out]
  have h:=hpf.out
  cases hq:(l.map Prod.fst).findIdx? (fun x=>x==c) with
  | none=>rw[ite_self]
  | some q=>rw[hq] at h;simp only at h;omega
 ·have hv1:0≤v:=by omega
  have his:i<s.size:=by
   refine bt_pos (s:=s) (i:=i) ?_
   rw[hc.out]
   have h:=hpf.out
   cases hq:(l.map Prod.fst).findIdx? (fun x=>x==c) with
   | none=>rw[hq] at h;simp only at h;omega
   | some q=>
    obtain⟨hq1,hq2,_⟩:=List.findIdx?_eq_some_iff_getElem.1 hq
    have:=hok.out _ (List.getElem_mem hq1)
    simp only[beq_iff_eq] at hq2
    omega
  have M3:=M2.inc his
  have H1:=Blk.other E1 (a:=⟨bl,1,none⟩) (.int .i64 ((i:Int)+1)) (by show ¬ (w.heap.size+1=bl);omega)
  have H2:=Blk.other E2 (a:=⟨bl,1,none⟩) (.int .i64 ((i:Int)+1)) (by show ¬ (w.heap.size+2=bl);omega)
  have r0:=H1.cell 0
  have r1:=H1.cell 1
  have r2:=H1.cell 2
  have r3:=H1.cell 3
  have r4:=H1.cell 4
  have t0:=H2.cell 0
  have t1:=H2.cell 1
  have t2:=H2.cell 2
  have t3:=H2.cell 3
  have t4:=H2.cell 4
  have g0:=H1.thaw 0
  have g1:=H1.thaw 1
  have g2:=H1.thaw 2
  have g3:=H1.thaw 3
  have g4:=H1.thaw 4
  simp only[zeroDat,dvals,List.getElem?_cons_zero,List.getElem?_cons_succ,List.set_cons_zero,List.set_cons_succ,Int.cast_ofNat_Int] at r0 r1 r2 r3 r4 t0 t1 t2 t3 t4
  replace M2:=hide M2
  replace M3:=hide M3
  replace E1:=hide E1
  replace E2:=hide E2
  replace H1:=hide H1
  replace H2:=hide H2
  clear hv0
  go_wp2_with fail
  have L5:=Blk.five H1.out (.int .u8 101) (.int .i64 v) (.string noB) (.slice none 0 0) (.slice none 0 0)
  have q0:=L5.cell 0
  have q1:=L5.cell 1
  have q2:=L5.cell 2
  have q3:=L5.cell 3
  have q4:=L5.cell 4
  simp only[List.getElem?_cons_zero,List.getElem?_cons_succ] at q0 q1 q2 q3 q4
  have hF:=Fr.five ((World.setCell w1 ⟨w.heap.size+1+1,1,none⟩ (.int .i64 v)).setCell ⟨bl,1,none⟩ (.int .i64 ((i:Int)+1))) (w.heap.size+1) (.int .u8 101) (.int .i64 v) (.string noB) (.slice none 0 0) (.slice none 0 0)
  generalize (((((World.setCell ((World.setCell w1 ⟨w.heap.size+1+1,1,none⟩ (.int .i64 v)).setCell ⟨bl,1,none⟩ (.int .i64 ((i:Int)+1))) ⟨w.heap.size+1,0,none⟩ (.int .u8 101)).setCell ⟨w.heap.size+1,1,none⟩ (.int .i64 v)).setCell ⟨w.heap.size+1,2,none⟩ (.string noB)).setCell ⟨w.heap.size+1,3,none⟩ (.slice none 0 0)).setCell ⟨w.heap.size+1,4,none⟩ (.slice none 0 0))=W5 at *
  refine bodyPost_ret (v:=.agg (dvals 101 v noB (.slice none 0 0) (.slice none 0 0)).toArray) (by simp[results,Tryz.results65,go_sem,q0,q1,q2,q3,q4,dvals]) rfl ?_
  rw[hPOST.out]
  refine dat_good' (w.heap.size+1) (by omega) M3.out (DVal.bare _ _ 101 v noB) hF ?_
  unfold rdNamed
  simp only
  rw[if_pos his,hc.out]
  have h:=hpf.out
  cases hq:(l.map Prod.fst).findIdx? (fun x=>x==c) with
  | none=>rw[hq] at h;simp only at h;omega
  | some q=>rw[hq] at h;simp only at h;rw[h]
open Go.RowKit
def aheadR (ds:List DT):Option (List DT×Nat)→Option (List DT×Nat)
 | none=>none
 | some (l,e)=>some (ds++l,e)
theorem aheadR_nil (x:Option (List DT×Nat)):aheadR [] x=x:=by
 match x with
 | none=>rfl
 | some (r,j)=>rfl
def fieldD (R:PT→Nat→Option (DT×Nat)) (s:ByteArray) (ds:List DT) (t:PT) (r:List PT) (j:Nat):Option (List DT×Nat):=
 match R t j with
 | none=>none
 | some (d,e)=>aheadR (ds++[d]) (rdFields R s false r e)
theorem rdFields_cons (R:PT→Nat→Option (DT×Nat)) (s:ByteArray) (ds:List DT) (first:Bool) (t:PT) (r:List PT) (j:Nat) :
 aheadR ds (rdFields R s first (t::r) j)=if first=true then fieldD R s ds t r j else if bt s j=44 then fieldD R s ds t r (j+1) else none:=by
 conv=>lhs;rw[rdFields]
 unfold fieldD
 split
 ·cases R t j with
  | none=>rfl
  | some q=>
   obtain⟨d,e⟩:=q
   simp only
   cases rdFields R s false r e with
   | none=>rfl
   | some q=>simp[aheadR]
 ·split
  ·cases R t (j+1) with
   | none=>rfl
   | some q=>
    obtain⟨d,e⟩:=q
    simp only
    cases rdFields R s false r e with
    | none=>rfl
    | some q=>simp[aheadR]
  ·rfl
def closeR (s:ByteArray):Option (List DT×Nat)→Option (DT×Nat)
 | none=>none
 | some (ds,j)=>if bt s j=41 then some (.mk 114 0 noB [] ds,j+1) else none
theorem rdNamed_recd (R:PT→Nat→Option (DT×Nat)) (s:ByteArray) (fs:List PF) (i:Nat):rdNamed R s (.recd fs) i=closeR s (if bt s i=40 then rdFields R s true (fs.map PF.ty) (i+1) else none):=by
 unfold rdNamed closeR
 by_cases h40:bt s i=40
 ·simp only[if_pos h40]
  rfl
 ·simp only[if_neg h40]
def FInv (RES:Option (List DT×Nat)) (R:PT→Nat→Option (DT×Nat)) (fs:List PF) (i:Nat) (w:World) (P:Nat→Prop) (bl:Nat) (s:ByteArray) (bz:Nat) (pl:Bool) (ts:List TR) (env:Nat→Option PB) (fa:Option Addr) (fc:Nat) (sb:ByteArray) (o n:Int) (mm:Nat) (iv:Value) (W:World):Prop:=
 ∃ q:Nat,iv=.int .i64 (q:Int)∧q≤fs.length∧fs.length+1-q≤mm∧Blk W w.heap.size [.int .u8 114,.slice fa fs.length fc,.string sb,.int .i64 o,.int .i64 n] 44∧∃ sa m sc xs,
  ((∃ ds j,LM w P bl s bz pl j false ts env (w.heap.size+1) (w.heap.size+2) (w.heap.size+3) 114 (.slice none 0 0) (.slice sa m sc) [] m xs W∧Dts W (w.heap.size+3) (.slice none 0 0) (.slice sa m sc) ds m xs∧ds.length=q∧i+1+q≤j∧RES=aheadR ds (rdFields R s (decide (q=0)) ((fs.map PF.ty).drop q) j))∨
   (∃ j,LM w P bl s bz pl j true ts env (w.heap.size+1) (w.heap.size+2) (w.heap.size+3) 114 (.slice none 0 0) (.slice sa m sc) [] m xs W∧RES=none))
def Out4 (RES:Option (List DT×Nat)) (R:PT→Nat→Option (DT×Nat)) (s:ByteArray) (ds:List DT) (t:PT) (r:List PT) (j j':Nat) (bad':Bool):Prop:=
 (bad'=false∧j≤j'∧RES=fieldD R s ds t r j')∨(bad'=true∧RES=none)
theorem LM.itemKeep {w W w5:World}{P:Nat→Prop}{bl:Nat}{s:ByteArray}{bz:Nat}{pl:Bool}{j:Nat}{bad:Bool}{ts:List TR}{env:Nat→Option PB}{b0 b1 B c:Nat}{vk vs:Value}{ks:List ByteArray}{n:Nat}{xs:List Value}{o:Obj}{b t:Nat}{cs:List Value}(Q:LM w P bl s bz pl j bad ts env b0 b1 B c vk vs ks n xs W) (hg:(W.alloc o).grownBy w5 vs.ownBlock) (hb:Blk W b cs t) (h1:b<B) (h2:b≠b1) (v5:Value):Blk (w5.setCell ⟨b1,4,none⟩ v5) b cs t:=by
 have hF:Fr W w5 (fun g=>vs.ownBlock=some g):=Fr.grown ((Fr.refl W _).alloc o) hg (fun k e _=>e)
 exact Blk.other (hF.blk hb (fun e=>by have:=Q.vr.lt _ e;omega)) v5 h2
theorem nlm_start {w:World}{P:Nat→Prop}{bl:Nat}{s:ByteArray}{bz:Nat}{pl:Bool}{i:Nat}{bad:Bool}{ts:List TR}{env:Nat→Option PB}{fv:Value}{sb:ByteArray}{o n:Int}(M:DM w P bl s bz pl i bad ts env w) :
 LM w P bl s bz pl i bad ts env (w.heap.size+1) (w.heap.size+2) (w.heap.size+3) 114 (.slice none 0 0) (.slice none 0 0) [] 0 [] (nw w 114 fv sb o n):=
 ⟨nw_M M 114 fv sb o n,by omega,by simp[nw],nw_1 w 114 fv sb o n,nw_2 w 114 fv sb o n,World.ownsRow_nil _ _ _ _,World.ownsRow_nil _ _ _ _,fun g hg=>by simp[Value.ownBlock] at hg⟩
set_option maxHeartbeats 8000000 in
set_option maxRecDepth 100000 in
theorem nm_recd {s:ByteArray}{env:Nat→Option PB}{pl:Bool}{ts:List TR}{f i:Nat}{fs:List PF}(hR:∀ g∈fs,∀ j,i<j→j≤s.size→DatOK s env pl ts f g.ty j):NmOK s env pl ts f (.recd fs) i:=by
 intro w P bl bz so fv sb o n M hN
 obtain⟨⟨fa,fn,fc,rfl⟩,hfP,rfl,fxs,hown,hflds⟩:=hN
 have hfn:=own_n hown
 subst hfn
 obtain⟨RES,hRES⟩:∃ r,r=if bt s i=40 then rdFields (rdT s env pl f) s true (fs.map PF.ty) (i+1) else none:=⟨_,rfl⟩
 have hrd:rdNamed (rdT s env pl f) s (.recd fs) i=closeR s RES:=by rw[hRES];exact rdNamed_recd _ _ _ _
 rw[hrd]
 obtain⟨POST,hPOST⟩:∃ Q,Hid (Q=DatPost w bl s bz pl (closeR s RES)):=⟨_,rfl⟩
 rw[← hPOST.out]
 have hl1:=M.lt
 have hjl:=M.jl
 have hsl:=M.sl
 have Q0:=hide (nlm_start (fv:=.slice fa fs.length fc) (sb:=sb) (o:=o) (n:=n) M)
 have B0:=hide (nw_0 w 114 (.slice fa fs.length fc) sb o n)
 replace M:=hide M
 replace hfP:=hide hfP
 replace hown:=hide hown
 replace hflds:=hide hflds
 replace hRES:=hide hRES
 replace hR:=hide hR
 obtain⟨R,hRR⟩:∃ R,R=rdT s env pl f:=⟨_,rfl⟩
 replace hRR:=hide hRR
 clear hrd
 go_enter Tryz.func65,Tryz.ntmps65
 go_wp2_with (go_at_call 59;refine(leat_any 40 Q0.out.M.L hsl hjl rfl (by decide)).mono ?_;rintro e w1 ⟨rfl,hE⟩;obtain⟨j1,bad1,Q1,F1,hJ⟩:=LEat.lm (by decide) Q0.out hE;have D1:=Q0.out.dts (Dts.nil _ _ _ _) F1;have X1:=F1.blk B0.out (by omega);replace Q1:=hide Q1;replace F1:=hide F1;replace D1:=hide D1;replace X1:=hide X1;clear hE)
 have start:FInv RES R fs i w P bl s bz pl ts env fa fc sb o n (fs.length+1) (.int .i64 0) w1:=by
  refine⟨0,rfl,by omega,by omega,X1.out,none,0,0,[],?_⟩
  rcases hJ.out with⟨_,h40,rfl,rfl⟩|⟨h40,_,rfl⟩
  ·refine .inl ⟨[],i+1,Q1.out,D1.out,rfl,by omega,?_⟩
   rw[hRES.out,if_pos h40,hRR.out,aheadR_nil]
   rfl
  ·refine .inr ⟨j1,Q1.out,?_⟩
   rw[hRES.out,if_neg (by simpa using h40)]
 replace start:=hide start
 clear Q1 D1 X1 F1 hJ Q0 B0
 go_loopg [6] (fs.length+1) (fun mm iv W=>FInv RES R fs i w P bl s bz pl ts env fa fc sb o n mm iv W)
 case atStart=>exact start.out
 case round=>
  clear start
  obtain⟨q,rfl,hq,hm,X,sa,m,sc,xs,hG|hB⟩:=hrel
  ·obtain⟨ds,j,Q,D,hdq,hij,hres⟩:=hG
   have hjl2:=Q.M.jl
   have c2:=Q.M.L.c2
   have x1:=X.cell 1
   simp only[List.getElem?_cons_zero,List.getElem?_cons_succ] at x1
   have hmq:m=q:=by have:=D.1;omega
   subst hmq
   replace X:=hide X
   replace D:=hide D
   replace hdq:=hide hdq
   by_cases hlt:m<fs.length
   ·have hlt':(m:Int)<(fs.length:Int):=by omega
    obtain⟨g,hg⟩:∃ g,fs[m]?=some g:=⟨_,List.getElem?_eq_getElem hlt⟩
    have hgm:g∈fs:=List.mem_of_getElem? hg
    obtain⟨num,hnum,hisT⟩:=hflds.out m g hg
    obtain⟨gf,cf,hgf⟩:=own_form hown.out (by omega)
    simp only[Value.slice.injEq,true_and] at hgf
    obtain⟨rfl,rfl⟩:=hgf
    obtain⟨rest,hrest⟩:∃ r,r=(fs.map PF.ty).drop (m+1):=⟨_,rfl⟩
    have hdrop:(fs.map PF.ty).drop m=g.ty::rest:=by
     rw[hrest,List.drop_eq_getElem_cons (by simpa using hlt)]
     congr 1
     rw[List.getElem_map]
     congr 1
     exact(List.getElem?_eq_some_iff.1 hg).2
    rw[hdrop,rdFields_cons] at hres
    have hm4:m≤4000:=by omega
    replace hres:=hide hres
    replace hrest:=hide hrest
    replace hnum:=hide hnum
    replace hisT:=hide hisT
    replace hgm:=hide hgm
    replace Q:=hide Q
    clear hdrop hg hlt
    go_upto_if 32 with fail
    go_cut [] (fun W=>∃ j' bad',LM w P bl s bz pl j' bad' ts env (w.heap.size+1) (w.heap.size+2) (w.heap.size+3) 114 (.slice none 0 0) (.slice sa m sc) [] m xs W∧Dts W (w.heap.size+3) (.slice none 0 0) (.slice sa m sc) ds m xs∧Blk W w.heap.size [.int .u8 114,.slice (some ⟨gf,0,none⟩) fs.length fc,.string sb,.int .i64 o,.int .i64 n] 44∧Out4 RES R s ds g.ty rest j j' bad')
    case first=>
     by_cases hq0:m=0
     ·subst hq0
      go_wp2_with fail
      go_meet
      case rel=>exact⟨j,false,Q.out,D.out,X.out,.inl ⟨rfl,Nat.le_refl _,by rw[hres.out];exact if_pos (by decide)⟩⟩
     ·have h0:(0:Int)<(m:Int):=by omega
      go_wp2_with (go_at_call 59;refine(leat_any 44 Q.out.M.L hsl hjl2 rfl (by decide)).mono ?_;rintro e w2 ⟨rfl,hE⟩;obtain⟨j2,bad2,Q2,F2,hJ⟩:=LEat.lm (by decide) Q.out hE;have D2:=Q.out.dts D.out F2;have X2:=F2.blk X.out (by omega);replace Q2:=hide Q2;replace D2:=hide D2;replace X2:=hide X2;clear hE)
      go_meet
      case rel=>
       refine⟨j2,bad2,Q2.out,D2.out,X2.out,?_⟩
       have hr:=hres.out
       rw[if_neg (by simpa using hq0)] at hr
       rcases hJ.out with⟨_,h44,rfl,rfl⟩|⟨h44,_,rfl⟩
       ·exact .inl ⟨rfl,by omega,by rw[hr,if_pos h44]⟩
       ·exact .inr ⟨rfl,by rw[hr,if_neg (by simpa using h44)]⟩
    case rest=>
     clear x1 c2 X D
     obtain⟨j1,bad1,Q1,D1,X1,o1⟩:=hcut
     have hj1:=Q1.M.jl
     have c21:=Q1.M.L.c2
     cases bad1 with
     | true=>
      have hres':RES=none:=by
       rcases o1 with⟨h,_⟩|⟨_,h⟩
       ·cases h
       ·exact h
      replace Q1:=hide Q1
      replace D1:=hide D1
      replace X1:=hide X1
      replace hres':=hide hres'
      clear o1
      go_wp2_with fail
      go_roundg (fs.length+1-(m+1))
      case measure=>omega
      case rel=>exact⟨m+1,by simp,by omega,Nat.le_refl _,X1.out,sa,m,sc,xs,.inr ⟨j1,Q1.out,hres'.out⟩⟩
     | false=>
      have hbr:j≤j1∧RES=fieldD R s ds g.ty rest j1:=by
       rcases o1 with⟨_,h⟩|⟨h,_⟩
       ·exact h
       ·cases h
      obtain⟨hjj,hres'⟩:=hbr
      have x1:=X1.cell 1
      simp only[List.getElem?_cons_zero,List.getElem?_cons_succ] at x1
      have hown2:=ownsRow_fr hown.out Q1.M.fr (fun g hg e=>Q1.M.nP (e▸hfP.out g hg))
      have fcell:=own_cell hown2 rfl hnum.out
      rw[Nat.mul_comm] at fcell
      obtain⟨ti,hi1,hi2,hi3,hi4⟩:=info_parts i_Datum
      have hC:=hide (hR.out g hgm.out j1 (by omega) hj1 wc P bl bz num Q1.M.here hisT.out)
      have hBl:=Q1.bB
      replace Q1:=hide Q1
      replace D1:=hide D1
      replace X1:=hide X1
      replace hres':=hide hres'
      clear o1 hown2
      go_wp2_with (first
       |(go_at_call 34;refine hC.out.mono ?_;intro e w3 hP;obtain⟨dk,dm,dtx,a1,m1,c1,a2,m2,c2,j3,bad3,rfl,Q3,F3,hJ⟩:=DatPost.lm Q1.out hP;have D3:=Q1.out.dts D1.out F3;have X3:=F3.blk X1.out (by omega);have Q4:=Q3.alloc (.cells (dvals dk dm dtx (.slice a1 m1 c1) (.slice a2 m2 c2)).toArray 37);have D4:=D3.alloc (.cells (dvals dk dm dtx (.slice a1 m1 c1) (.slice a2 m2 c2)).toArray 37);have X4:=X3.alloc (.cells (dvals dk dm dtx (.slice a1 m1 c1) (.slice a2 m2 c2)).toArray 37);have t4:=Q4.r1.cell 4;simp only[dvals,List.getElem?_cons_zero,List.getElem?_cons_succ] at t4;have hBl3:=Q3.bB;replace Q3:=hide Q3;replace D3:=hide D3;replace Q4:=hide Q4;replace D4:=hide D4;replace X3:=hide X3;replace X4:=hide X4;clear hP)
       |(at_builtin;go_must (refine wpList_append_own_at _ rfl _ _ 35 rfl (w.heap.size+3) 37 ti _ 5 80 u_Datum hi1 hi2 hi3 hi4 rfl (by decide) (.slice sa m sc) m xs rfl ?hown _ 1 1 (dvals dk dm dtx (.slice a1 m1 c1) (.slice a2 m2 c2)) rfl rfl (news_new _ (dvals dk dm dtx (.slice a1 m1 c1) (.slice a2 m2 c2)).toArray _ _ ?nn) ?one ?b1 ?b2 ?b3 ?_)
         case hown=>exact World.ownsRow.alloc Q4.out.vr _
         case nn=>simp
         case one=>simp[dvals,Value.oneCell']
         case b1=>unfold maxLen;omega
         case b2=>omega
         case b3=>simp;omega
         intro v5 w5 ho5 hg5 hn5 hl5
         have I5:=Q4.out.item hg5 ho5 hl5
         have X5:=Q4.out.itemKeep hg5 X4.out (by omega) (by omega) v5
         obtain⟨e5,f5⟩:=Q4.out.itemCell hg5
         obtain⟨g5,cap5,rfl⟩:=own_form ho5 (by omega)
         clear hg5 hl5 hn5 ho5
         replace I5:=hide I5
         replace X5:=hide X5))
      obtain⟨Q5,hD5⟩:=I5.out
      rcases hJ.out with⟨d,hr,rfl,hdv⟩|⟨hr,rfl⟩
      ·have hgo:=rdT_goes s env pl f g.ty j1 d j3 hr
       have D5:=hD5 _ d D4.out (hdv.fr ((Fr.refl w3 (fun _=>False)).alloc _) (fun _ _ f=>f))
       go_roundg (fs.length+1-(m+1))
       case measure=>omega
       case rel=>
        refine⟨m+1,by simp,by omega,Nat.le_refl _,X5.out,_,m+1,_,_,.inl ⟨ds++[d],j3,Q5,D5,by rw[List.length_append,List.length_singleton,hdq.out],by omega,?_⟩⟩
        rw[hres'.out,fieldD,hRR.out,hr,← hrest.out]
        rfl
      ·go_roundg (fs.length+1-(m+1))
       case measure=>omega
       case rel=>
        refine⟨m+1,by simp,by omega,Nat.le_refl _,X5.out,_,m+1,_,_,.inr ⟨j3,Q5,?_⟩⟩
        rw[hres'.out,fieldD,hRR.out,hr]
   ·have hge:¬ ((m:Int)<(fs.length:Int)):=by omega
    have he:m=fs.length:=by omega
    have hres':=hide (show RES=some (ds,j) by rw[hres,he,List.drop_of_length_le (by simp)];simp[rdFields,aheadR])
    replace he:=hide he
    clear hres hlt
    replace Q:=hide Q
    go_wp2_with (go_at_call 59;refine(leat_any 41 Q.out.M.L hsl hjl2 rfl (by decide)).mono ?_;rintro e w2 ⟨rfl,hE⟩;obtain⟨j2,bad2,Q2,F2,hJ⟩:=LEat.lm (by decide) Q.out hE;have D2:=Q.out.dts D.out F2;have r0:=Q2.r0.cell 0;have r1:=Q2.r0.cell 1;have r2:=Q2.r0.cell 2;have r3:=Q2.r0.cell 3;have r4:=Q2.r0.cell 4;have g0:=Q2.r0.thaw 0;have g1:=Q2.r0.thaw 1;have g2:=Q2.r0.thaw 2;have g3:=Q2.r0.thaw 3;have g4:=Q2.r0.thaw 4;have t0:=Q2.r1.cell 0;have t1:=Q2.r1.cell 1;have t2:=Q2.r1.cell 2;have t3:=Q2.r1.cell 3;have t4:=Q2.r1.cell 4;simp only[zeroDat,dvals,List.getElem?_cons_zero,List.getElem?_cons_succ,Int.cast_ofNat_Int] at r0 r1 r2 r3 r4 t0 t1 t2 t3 t4;have R0:=hide Q2.r0;replace Q2:=hide Q2;replace D2:=hide D2;clear hE)
    have L5:=Blk.five R0.out (.int .u8 114) (.int .i64 0) (.string noB) (.slice none 0 0) (.slice sa m sc)
    have q0:=L5.cell 0
    have q1:=L5.cell 1
    have q2:=L5.cell 2
    have q3:=L5.cell 3
    have q4:=L5.cell 4
    simp only[List.getElem?_cons_zero,List.getElem?_cons_succ] at q0 q1 q2 q3 q4
    have hF:=Fr.five w2 (w.heap.size+1) (.int .u8 114) (.int .i64 0) (.string noB) (.slice none 0 0) (.slice sa m sc)
    generalize (((((World.setCell w2 ⟨w.heap.size+1,0,none⟩ (.int .u8 114)).setCell ⟨w.heap.size+1,1,none⟩ (.int .i64 0)).setCell ⟨w.heap.size+1,2,none⟩ (.string noB)).setCell ⟨w.heap.size+1,3,none⟩ (.slice none 0 0)).setCell ⟨w.heap.size+1,4,none⟩ (.slice sa m sc))=W5 at *
    refine bodyPost_ret (v:=.agg (dvals 114 0 noB (.slice none 0 0) (.slice sa m sc)).toArray) (by simp[results,Tryz.results65,go_sem,q0,q1,q2,q3,q4,dvals]) rfl ?_
    rw[hPOST.out]
    rcases hJ.out with⟨_,h41,rfl,rfl⟩|⟨h41,_,rfl⟩
    ·exact dat_good' (w.heap.size+1) (by omega) Q2.out.M ((Q2.out.dval D2.out 114).mono (fun g _ hg=>⟨by omega,by omega⟩)) hF (by rw[hres'.out];exact if_pos h41)
    ·exact dat_bad' (w.heap.size+1) (by omega) Q2.out.M ⟨_,_,_,rfl⟩ ⟨_,_,_,rfl⟩ hF (by rw[hres'.out];exact if_neg (by simpa using h41))
  ·obtain⟨j,Q,hres⟩:=hB
   have c2:=Q.M.L.c2
   have x1:=X.cell 1
   simp only[List.getElem?_cons_zero,List.getElem?_cons_succ] at x1
   have r0:=Q.r0.cell 0
   have r1:=Q.r0.cell 1
   have r2:=Q.r0.cell 2
   have r3:=Q.r0.cell 3
   have r4:=Q.r0.cell 4
   have g0:=Q.r0.thaw 0
   have g1:=Q.r0.thaw 1
   have g2:=Q.r0.thaw 2
   have g3:=Q.r0.thaw 3
   have g4:=Q.r0.thaw 4
   have t0:=Q.r1.cell 0
   have t1:=Q.r1.cell 1
   have t2:=Q.r1.cell 2
   have t3:=Q.r1.cell 3
   have t4:=Q.r1.cell 4
   simp only[zeroDat,dvals,List.getElem?_cons_zero,List.getElem?_cons_succ,Int.cast_ofNat_Int] at r0 r1 r2 r3 r4 t0 t1 t2 t3 t4
   have R0:=hide Q.r0
   replace Q:=hide Q
   replace X:=hide X
   replace hres:=hide hres
   by_cases hlt:(q:Int)<(fs.length:Int)
   all_goals
    go_wp2_with fail
    have L5:=Blk.five R0.out (.int .u8 114) (.int .i64 0) (.string noB) (.slice none 0 0) (.slice sa m sc)
    have q0:=L5.cell 0
    have q1:=L5.cell 1
    have q2:=L5.cell 2
    have q3:=L5.cell 3
    have q4:=L5.cell 4
    simp only[List.getElem?_cons_zero,List.getElem?_cons_succ] at q0 q1 q2 q3 q4
    have hF:=Fr.five wr (w.heap.size+1) (.int .u8 114) (.int .i64 0) (.string noB) (.slice none 0 0) (.slice sa m sc)
    generalize (((((World.setCell wr ⟨w.heap.size+1,0,none⟩ (.int .u8 114)).setCell ⟨w.heap.size+1,1,none⟩ (.int .i64 0)).setCell ⟨w.heap.size+1,2,none⟩ (.string noB)).setCell ⟨w.heap.size+1,3,none⟩ (.slice none 0 0)).setCell ⟨w.heap.size+1,4,none⟩ (.slice sa m sc))=W5 at *
    refine bodyPost_ret (v:=.agg (dvals 114 0 noB (.slice none 0 0) (.slice sa m sc)).toArray) (by simp[results,Tryz.results65,go_sem,q0,q1,q2,q3,q4,dvals]) rfl ?_
    rw[hPOST.out]
    exact dat_bad' (w.heap.size+1) (by omega) Q.out.M ⟨_,_,_,rfl⟩ ⟨_,_,_,rfl⟩ hF (by rw[hres.out];rfl)
end Go.Proofs.YtiifagiebikmdaaGreatDoor
