import Derived.Test.YtiifagiebikmdaaGreatDoorW22
namespace Go.Proofs.YtiifagiebikmdaaGreatDoor
open Go.RowKit
theorem DVal.keys {w:World}{P:Nat→Prop}{k:Nat}{n:Int}{tx:ByteArray}{ks:List ByteArray}{ds:List DT}{vk vs:Value}(h:DVal w P (.mk k n tx ks ds) (dvals k n tx vk vs)) :
 ∃ a c,vk=.slice a ks.length c∧∀ q,q<ks.length→∃ g,a=some ⟨g,0,none⟩∧w.cell? ⟨g,q,none⟩=some (.string (ks.getD q noB)):=by
 generalize hv:dvals k n tx vk vs=v at h
 cases h with
 | mk X hk hkP hs hsP hd=>
  simp only[dvals,List.cons.injEq,and_true] at hv
  obtain⟨_,_,_,rfl,rfl⟩:=hv
  obtain⟨a,c,rfl⟩:=own_sl hk
  refine⟨a,c,rfl,fun q hq=>?_⟩
  obtain⟨g,cap,hgc⟩:=own_form hk (by omega)
  cases hgc
  exact⟨g,rfl,own_cell hk rfl (by rw[List.getElem?_map,List.getElem?_eq_getElem hq,List.getD_eq_getElem?_getD,List.getElem?_eq_getElem hq];rfl)⟩
def ByOK (m:Nat):Prop:=∀ (d:DT),ndT d≤m→ndT d≤100000→okD d→∀ (w:World) (P:Nat→Prop) (k:Nat) (n:Int) (tx:ByteArray) (vk vs:Value),DVal w P d (dvals k n tx vk vs)→
 Calls Tryz.prog 21 #[.agg (dvals k n tx vk vs).toArray] w fun e w'=>e=.returned (.string (byT d))∧Fr w w' (fun _=>False)
theorem okDs_take:∀ {ds:List DT},okDs ds→∀ q,okDs (ds.take q)
 | [],h,q=>by simpa using h
 | d::r,h,0=>by simp[okDs]
 | d::r,h,q+1=>by
  unfold okDs at h
  simp only[List.take_succ_cons,okDs]
  exact⟨h.1,okDs_take h.2 q⟩
set_option maxHeartbeats 8000000 in
set_option maxRecDepth 100000 in
theorem by_116 {m:Nat}(_ih:ByOK m){n0:Int}{tx0:ByteArray}{ks:List ByteArray}{ds:List DT}(_hm:1+ndTs ds≤m+1) (_hb:1+ndTs ds≤100000) (hok:okD (.mk 116 n0 tx0 ks ds)){w:World}{P:Nat→Prop}{vk vs:Value}(hD:DVal w P (.mk 116 n0 tx0 ks ds) (dvals 116 n0 tx0 vk vs)) :
 Calls Tryz.prog 21 #[.agg (dvals 116 n0 tx0 vk vs).toArray] w fun e w'=>e=.returned (.string (byT (.mk 116 n0 tx0 ks ds)))∧Fr w w' (fun _=>False):=by
 obtain⟨a1,c1,rfl,hkeys⟩:=hD.keys
 obtain⟨a2,c2,rfl,hsub⟩:=hD.sub
 unfold okD at hok
 obtain⟨POST,hPOST⟩:∃ Q,Hid (Q=fun (e:Ending) (w':World)=>e=.returned (.string (byT (.mk 116 n0 tx0 ks ds)))∧Fr w w' (fun _=>False)):=⟨_,rfl⟩
 rw[← hPOST.out]
 have hf0:=hide (show Fr w (w.alloc (.cells (dvals 116 n0 tx0 (.slice a1 ks.length c1) (.slice a2 ds.length c2)).toArray 37)) (fun _=>False) from(Fr.refl w _).alloc _)
 have hB0:=hide (Blk.new w (dvals 116 n0 tx0 (.slice a1 ks.length c1) (.slice a2 ds.length c2)).toArray 37)
 have hby:=hide (show byT (.mk 116 n0 tx0 ks ds)=bts [n0.toNat] by unfold byT;rw[if_pos rfl])
 have z0:(w.alloc (.cells (dvals 116 n0 tx0 (.slice a1 ks.length c1) (.slice a2 ds.length c2)).toArray 37)).cell? ⟨w.heap.size,0,none⟩=some (.int .u8 116):=by rw[hB0.out.cell 0];rfl
 have z1:(w.alloc (.cells (dvals 116 n0 tx0 (.slice a1 ks.length c1) (.slice a2 ds.length c2)).toArray 37)).cell? ⟨w.heap.size,1,none⟩=some (.int .i64 n0):=by rw[hB0.out.cell 1];rfl
 have z2:(w.alloc (.cells (dvals 116 n0 tx0 (.slice a1 ks.length c1) (.slice a2 ds.length c2)).toArray 37)).cell? ⟨w.heap.size,2,none⟩=some (.string tx0):=by rw[hB0.out.cell 2];rfl
 have z4:(w.alloc (.cells (dvals 116 n0 tx0 (.slice a1 ks.length c1) (.slice a2 ds.length c2)).toArray 37)).cell? ⟨w.heap.size,4,none⟩=some (.slice a2 ds.length c2):=by rw[hB0.out.cell 4];rfl
 have hn0:=hok.1.1
 have hn1:=hok.1.2.1
 have htz:=hok.2.2.1
 replace hok:=hide hok
 replace hkeys:=hide hkeys
 replace hsub:=hide hsub
 replace hD:=hide hD
 have h01:=hok.out.2.1 rfl
 have hv:=conv1 (w.alloc (.cells (dvals 116 n0 tx0 (.slice a1 ks.length c1) (.slice a2 ds.length c2)).toArray 37)) n0.toNat n0 (by omega)
 rw[show(w.alloc (.cells (dvals 116 n0 tx0 (.slice a1 ks.length c1) (.slice a2 ds.length c2)).toArray 37)).heap.size=w.heap.size+1 by simp] at hv
 clear hok
 go_enter Tryz.func21,Tryz.ntmps21
 go_wp2_with fail
 try go_ret
 rw[hPOST.out,hby.out]
 exact⟨rfl,hf0.out.alloc _⟩
set_option maxHeartbeats 8000000 in
set_option maxRecDepth 100000 in
theorem by_105 {m:Nat}(_ih:ByOK m){n0:Int}{tx0:ByteArray}{ks:List ByteArray}{ds:List DT}(_hm:1+ndTs ds≤m+1) (_hb:1+ndTs ds≤100000) (hok:okD (.mk 105 n0 tx0 ks ds)){w:World}{P:Nat→Prop}{vk vs:Value}(hD:DVal w P (.mk 105 n0 tx0 ks ds) (dvals 105 n0 tx0 vk vs)) :
 Calls Tryz.prog 21 #[.agg (dvals 105 n0 tx0 vk vs).toArray] w fun e w'=>e=.returned (.string (byT (.mk 105 n0 tx0 ks ds)))∧Fr w w' (fun _=>False):=by
 obtain⟨a1,c1,rfl,hkeys⟩:=hD.keys
 obtain⟨a2,c2,rfl,hsub⟩:=hD.sub
 unfold okD at hok
 obtain⟨POST,hPOST⟩:∃ Q,Hid (Q=fun (e:Ending) (w':World)=>e=.returned (.string (byT (.mk 105 n0 tx0 ks ds)))∧Fr w w' (fun _=>False)):=⟨_,rfl⟩
 rw[← hPOST.out]
 have hf0:=hide (show Fr w (w.alloc (.cells (dvals 105 n0 tx0 (.slice a1 ks.length c1) (.slice a2 ds.length c2)).toArray 37)) (fun _=>False) from(Fr.refl w _).alloc _)
 have hB0:=hide (Blk.new w (dvals 105 n0 tx0 (.slice a1 ks.length c1) (.slice a2 ds.length c2)).toArray 37)
 have hby:=hide (show byT (.mk 105 n0 tx0 ks ds)=wholeB n0 by unfold byT;rw[if_neg (by decide),if_pos (by decide)])
 have z0:(w.alloc (.cells (dvals 105 n0 tx0 (.slice a1 ks.length c1) (.slice a2 ds.length c2)).toArray 37)).cell? ⟨w.heap.size,0,none⟩=some (.int .u8 105):=by rw[hB0.out.cell 0];rfl
 have z1:(w.alloc (.cells (dvals 105 n0 tx0 (.slice a1 ks.length c1) (.slice a2 ds.length c2)).toArray 37)).cell? ⟨w.heap.size,1,none⟩=some (.int .i64 n0):=by rw[hB0.out.cell 1];rfl
 have z2:(w.alloc (.cells (dvals 105 n0 tx0 (.slice a1 ks.length c1) (.slice a2 ds.length c2)).toArray 37)).cell? ⟨w.heap.size,2,none⟩=some (.string tx0):=by rw[hB0.out.cell 2];rfl
 have z4:(w.alloc (.cells (dvals 105 n0 tx0 (.slice a1 ks.length c1) (.slice a2 ds.length c2)).toArray 37)).cell? ⟨w.heap.size,4,none⟩=some (.slice a2 ds.length c2):=by rw[hB0.out.cell 4];rfl
 have hn0:=hok.1.1
 have hn1:=hok.1.2.1
 have htz:=hok.2.2.1
 replace hok:=hide hok
 replace hkeys:=hide hkeys
 replace hsub:=hide hsub
 replace hD:=hide hD
 clear hok
 go_enter Tryz.func21,Tryz.ntmps21
 go_wp2_with (go_at_call 35;refine(whole_any hn0 hn1).mono ?_;rintro e w1 ⟨rfl,hf1⟩;replace hf1:=hide hf1)
 try go_ret
 rw[hPOST.out,hby.out]
 exact⟨rfl,hf0.out.trans hf1.out (fun _ _ f=>f)⟩
set_option maxHeartbeats 8000000 in
set_option maxRecDepth 100000 in
theorem by_108 {m:Nat}(_ih:ByOK m){n0:Int}{tx0:ByteArray}{ks:List ByteArray}{ds:List DT}(_hm:1+ndTs ds≤m+1) (_hb:1+ndTs ds≤100000) (hok:okD (.mk 108 n0 tx0 ks ds)){w:World}{P:Nat→Prop}{vk vs:Value}(hD:DVal w P (.mk 108 n0 tx0 ks ds) (dvals 108 n0 tx0 vk vs)) :
 Calls Tryz.prog 21 #[.agg (dvals 108 n0 tx0 vk vs).toArray] w fun e w'=>e=.returned (.string (byT (.mk 108 n0 tx0 ks ds)))∧Fr w w' (fun _=>False):=by
 obtain⟨a1,c1,rfl,hkeys⟩:=hD.keys
 obtain⟨a2,c2,rfl,hsub⟩:=hD.sub
 unfold okD at hok
 obtain⟨POST,hPOST⟩:∃ Q,Hid (Q=fun (e:Ending) (w':World)=>e=.returned (.string (byT (.mk 108 n0 tx0 ks ds)))∧Fr w w' (fun _=>False)):=⟨_,rfl⟩
 rw[← hPOST.out]
 have hf0:=hide (show Fr w (w.alloc (.cells (dvals 108 n0 tx0 (.slice a1 ks.length c1) (.slice a2 ds.length c2)).toArray 37)) (fun _=>False) from(Fr.refl w _).alloc _)
 have hB0:=hide (Blk.new w (dvals 108 n0 tx0 (.slice a1 ks.length c1) (.slice a2 ds.length c2)).toArray 37)
 have hby:=hide (show byT (.mk 108 n0 tx0 ks ds)=wholeB n0 by unfold byT;rw[if_neg (by decide),if_pos (by decide)])
 have z0:(w.alloc (.cells (dvals 108 n0 tx0 (.slice a1 ks.length c1) (.slice a2 ds.length c2)).toArray 37)).cell? ⟨w.heap.size,0,none⟩=some (.int .u8 108):=by rw[hB0.out.cell 0];rfl
 have z1:(w.alloc (.cells (dvals 108 n0 tx0 (.slice a1 ks.length c1) (.slice a2 ds.length c2)).toArray 37)).cell? ⟨w.heap.size,1,none⟩=some (.int .i64 n0):=by rw[hB0.out.cell 1];rfl
 have z2:(w.alloc (.cells (dvals 108 n0 tx0 (.slice a1 ks.length c1) (.slice a2 ds.length c2)).toArray 37)).cell? ⟨w.heap.size,2,none⟩=some (.string tx0):=by rw[hB0.out.cell 2];rfl
 have z4:(w.alloc (.cells (dvals 108 n0 tx0 (.slice a1 ks.length c1) (.slice a2 ds.length c2)).toArray 37)).cell? ⟨w.heap.size,4,none⟩=some (.slice a2 ds.length c2):=by rw[hB0.out.cell 4];rfl
 have hn0:=hok.1.1
 have hn1:=hok.1.2.1
 have htz:=hok.2.2.1
 replace hok:=hide hok
 replace hkeys:=hide hkeys
 replace hsub:=hide hsub
 replace hD:=hide hD
 clear hok
 go_enter Tryz.func21,Tryz.ntmps21
 go_wp2_with (go_at_call 35;refine(whole_any hn0 hn1).mono ?_;rintro e w1 ⟨rfl,hf1⟩;replace hf1:=hide hf1)
 try go_ret
 rw[hPOST.out,hby.out]
 exact⟨rfl,hf0.out.trans hf1.out (fun _ _ f=>f)⟩
set_option maxHeartbeats 8000000 in
set_option maxRecDepth 100000 in
theorem by_101 {m:Nat}(_ih:ByOK m){n0:Int}{tx0:ByteArray}{ks:List ByteArray}{ds:List DT}(_hm:1+ndTs ds≤m+1) (_hb:1+ndTs ds≤100000) (hok:okD (.mk 101 n0 tx0 ks ds)){w:World}{P:Nat→Prop}{vk vs:Value}(hD:DVal w P (.mk 101 n0 tx0 ks ds) (dvals 101 n0 tx0 vk vs)) :
 Calls Tryz.prog 21 #[.agg (dvals 101 n0 tx0 vk vs).toArray] w fun e w'=>e=.returned (.string (byT (.mk 101 n0 tx0 ks ds)))∧Fr w w' (fun _=>False):=by
 obtain⟨a1,c1,rfl,hkeys⟩:=hD.keys
 obtain⟨a2,c2,rfl,hsub⟩:=hD.sub
 unfold okD at hok
 obtain⟨POST,hPOST⟩:∃ Q,Hid (Q=fun (e:Ending) (w':World)=>e=.returned (.string (byT (.mk 101 n0 tx0 ks ds)))∧Fr w w' (fun _=>False)):=⟨_,rfl⟩
 rw[← hPOST.out]
 have hf0:=hide (show Fr w (w.alloc (.cells (dvals 101 n0 tx0 (.slice a1 ks.length c1) (.slice a2 ds.length c2)).toArray 37)) (fun _=>False) from(Fr.refl w _).alloc _)
 have hB0:=hide (Blk.new w (dvals 101 n0 tx0 (.slice a1 ks.length c1) (.slice a2 ds.length c2)).toArray 37)
 have hby:=hide (show byT (.mk 101 n0 tx0 ks ds)=wholeB n0 by unfold byT;rw[if_neg (by decide),if_pos (by decide)])
 have z0:(w.alloc (.cells (dvals 101 n0 tx0 (.slice a1 ks.length c1) (.slice a2 ds.length c2)).toArray 37)).cell? ⟨w.heap.size,0,none⟩=some (.int .u8 101):=by rw[hB0.out.cell 0];rfl
 have z1:(w.alloc (.cells (dvals 101 n0 tx0 (.slice a1 ks.length c1) (.slice a2 ds.length c2)).toArray 37)).cell? ⟨w.heap.size,1,none⟩=some (.int .i64 n0):=by rw[hB0.out.cell 1];rfl
 have z2:(w.alloc (.cells (dvals 101 n0 tx0 (.slice a1 ks.length c1) (.slice a2 ds.length c2)).toArray 37)).cell? ⟨w.heap.size,2,none⟩=some (.string tx0):=by rw[hB0.out.cell 2];rfl
 have z4:(w.alloc (.cells (dvals 101 n0 tx0 (.slice a1 ks.length c1) (.slice a2 ds.length c2)).toArray 37)).cell? ⟨w.heap.size,4,none⟩=some (.slice a2 ds.length c2):=by rw[hB0.out.cell 4];rfl
 have hn0:=hok.1.1
 have hn1:=hok.1.2.1
 have htz:=hok.2.2.1
 replace hok:=hide hok
 replace hkeys:=hide hkeys
 replace hsub:=hide hsub
 replace hD:=hide hD
 clear hok
 go_enter Tryz.func21,Tryz.ntmps21
 go_wp2_with (go_at_call 35;refine(whole_any hn0 hn1).mono ?_;rintro e w1 ⟨rfl,hf1⟩;replace hf1:=hide hf1)
 try go_ret
 rw[hPOST.out,hby.out]
 exact⟨rfl,hf0.out.trans hf1.out (fun _ _ f=>f)⟩
set_option maxHeartbeats 8000000 in
set_option maxRecDepth 100000 in
theorem by_115 {m:Nat}(_ih:ByOK m){n0:Int}{tx0:ByteArray}{ks:List ByteArray}{ds:List DT}(_hm:1+ndTs ds≤m+1) (_hb:1+ndTs ds≤100000) (hok:okD (.mk 115 n0 tx0 ks ds)){w:World}{P:Nat→Prop}{vk vs:Value}(hD:DVal w P (.mk 115 n0 tx0 ks ds) (dvals 115 n0 tx0 vk vs)) :
 Calls Tryz.prog 21 #[.agg (dvals 115 n0 tx0 vk vs).toArray] w fun e w'=>e=.returned (.string (byT (.mk 115 n0 tx0 ks ds)))∧Fr w w' (fun _=>False):=by
 obtain⟨a1,c1,rfl,hkeys⟩:=hD.keys
 obtain⟨a2,c2,rfl,hsub⟩:=hD.sub
 unfold okD at hok
 obtain⟨POST,hPOST⟩:∃ Q,Hid (Q=fun (e:Ending) (w':World)=>e=.returned (.string (byT (.mk 115 n0 tx0 ks ds)))∧Fr w w' (fun _=>False)):=⟨_,rfl⟩
 rw[← hPOST.out]
 have hf0:=hide (show Fr w (w.alloc (.cells (dvals 115 n0 tx0 (.slice a1 ks.length c1) (.slice a2 ds.length c2)).toArray 37)) (fun _=>False) from(Fr.refl w _).alloc _)
 have hB0:=hide (Blk.new w (dvals 115 n0 tx0 (.slice a1 ks.length c1) (.slice a2 ds.length c2)).toArray 37)
 have hby:=hide (show byT (.mk 115 n0 tx0 ks ds)=wholeB tx0.size++tx0 by unfold byT;rw[if_neg (by decide),if_neg (by decide),if_pos rfl])
 have z0:(w.alloc (.cells (dvals 115 n0 tx0 (.slice a1 ks.length c1) (.slice a2 ds.length c2)).toArray 37)).cell? ⟨w.heap.size,0,none⟩=some (.int .u8 115):=by rw[hB0.out.cell 0];rfl
 have z1:(w.alloc (.cells (dvals 115 n0 tx0 (.slice a1 ks.length c1) (.slice a2 ds.length c2)).toArray 37)).cell? ⟨w.heap.size,1,none⟩=some (.int .i64 n0):=by rw[hB0.out.cell 1];rfl
 have z2:(w.alloc (.cells (dvals 115 n0 tx0 (.slice a1 ks.length c1) (.slice a2 ds.length c2)).toArray 37)).cell? ⟨w.heap.size,2,none⟩=some (.string tx0):=by rw[hB0.out.cell 2];rfl
 have z4:(w.alloc (.cells (dvals 115 n0 tx0 (.slice a1 ks.length c1) (.slice a2 ds.length c2)).toArray 37)).cell? ⟨w.heap.size,4,none⟩=some (.slice a2 ds.length c2):=by rw[hB0.out.cell 4];rfl
 have hn0:=hok.1.1
 have hn1:=hok.1.2.1
 have htz:=hok.2.2.1
 replace hok:=hide hok
 replace hkeys:=hide hkeys
 replace hsub:=hide hsub
 replace hD:=hide hD
 have hwz:=wholeB_size (tx0.size:Int)
 clear hok
 go_enter Tryz.func21,Tryz.ntmps21
 go_wp2_with (go_at_call 35;refine(whole_any (by omega) (by omega)).mono ?_;rintro e w1 ⟨rfl,hf1⟩;have b2:=(hf1.blk hB0.out id).cell 2;simp only[dvals,List.getElem?_cons_zero,List.getElem?_cons_succ] at b2;replace hf1:=hide hf1)
 try go_ret
 rw[hPOST.out,hby.out]
 exact⟨rfl,hf0.out.trans hf1.out (fun _ _ f=>f)⟩
set_option maxHeartbeats 8000000 in
set_option maxRecDepth 100000 in
theorem by_102 {m:Nat}(_ih:ByOK m){n0:Int}{tx0:ByteArray}{ks:List ByteArray}{ds:List DT}(_hm:1+ndTs ds≤m+1) (_hb:1+ndTs ds≤100000) (hok:okD (.mk 102 n0 tx0 ks ds)){w:World}{P:Nat→Prop}{vk vs:Value}(hD:DVal w P (.mk 102 n0 tx0 ks ds) (dvals 102 n0 tx0 vk vs)) :
 Calls Tryz.prog 21 #[.agg (dvals 102 n0 tx0 vk vs).toArray] w fun e w'=>e=.returned (.string (byT (.mk 102 n0 tx0 ks ds)))∧Fr w w' (fun _=>False):=by
 obtain⟨a1,c1,rfl,hkeys⟩:=hD.keys
 obtain⟨a2,c2,rfl,hsub⟩:=hD.sub
 unfold okD at hok
 obtain⟨POST,hPOST⟩:∃ Q,Hid (Q=fun (e:Ending) (w':World)=>e=.returned (.string (byT (.mk 102 n0 tx0 ks ds)))∧Fr w w' (fun _=>False)):=⟨_,rfl⟩
 rw[← hPOST.out]
 have hf0:=hide (show Fr w (w.alloc (.cells (dvals 102 n0 tx0 (.slice a1 ks.length c1) (.slice a2 ds.length c2)).toArray 37)) (fun _=>False) from(Fr.refl w _).alloc _)
 have hB0:=hide (Blk.new w (dvals 102 n0 tx0 (.slice a1 ks.length c1) (.slice a2 ds.length c2)).toArray 37)
 have hby:=hide (show byT (.mk 102 n0 tx0 ks ds)=tx0 by unfold byT;rw[if_neg (by decide),if_neg (by decide),if_neg (by decide),if_pos rfl])
 have z0:(w.alloc (.cells (dvals 102 n0 tx0 (.slice a1 ks.length c1) (.slice a2 ds.length c2)).toArray 37)).cell? ⟨w.heap.size,0,none⟩=some (.int .u8 102):=by rw[hB0.out.cell 0];rfl
 have z1:(w.alloc (.cells (dvals 102 n0 tx0 (.slice a1 ks.length c1) (.slice a2 ds.length c2)).toArray 37)).cell? ⟨w.heap.size,1,none⟩=some (.int .i64 n0):=by rw[hB0.out.cell 1];rfl
 have z2:(w.alloc (.cells (dvals 102 n0 tx0 (.slice a1 ks.length c1) (.slice a2 ds.length c2)).toArray 37)).cell? ⟨w.heap.size,2,none⟩=some (.string tx0):=by rw[hB0.out.cell 2];rfl
 have z4:(w.alloc (.cells (dvals 102 n0 tx0 (.slice a1 ks.length c1) (.slice a2 ds.length c2)).toArray 37)).cell? ⟨w.heap.size,4,none⟩=some (.slice a2 ds.length c2):=by rw[hB0.out.cell 4];rfl
 have hn0:=hok.1.1
 have hn1:=hok.1.2.1
 have htz:=hok.2.2.1
 replace hok:=hide hok
 replace hkeys:=hide hkeys
 replace hsub:=hide hsub
 replace hD:=hide hD
 clear hok
 go_enter Tryz.func21,Tryz.ntmps21
 go_wp2_with fail
 try go_ret
 rw[hPOST.out,hby.out]
 exact⟨rfl,hf0.out⟩
set_option maxHeartbeats 8000000 in
set_option maxRecDepth 100000 in
theorem by_110 {m:Nat}(ih:ByOK m){n0:Int}{tx0:ByteArray}{ks:List ByteArray}{ds:List DT}(hm:1+ndTs ds≤m+1) (hb:1+ndTs ds≤100000) (hok:okD (.mk 110 n0 tx0 ks ds)){w:World}{P:Nat→Prop}{vk vs:Value}(hD:DVal w P (.mk 110 n0 tx0 ks ds) (dvals 110 n0 tx0 vk vs)) :
 Calls Tryz.prog 21 #[.agg (dvals 110 n0 tx0 vk vs).toArray] w fun e w'=>e=.returned (.string (byT (.mk 110 n0 tx0 ks ds)))∧Fr w w' (fun _=>False):=by
 obtain⟨a1,c1,rfl,hkeys⟩:=hD.keys
 obtain⟨a2,c2,rfl,hsub⟩:=hD.sub
 unfold okD at hok
 obtain⟨POST,hPOST⟩:∃ Q,Hid (Q=fun (e:Ending) (w':World)=>e=.returned (.string (byT (.mk 110 n0 tx0 ks ds)))∧Fr w w' (fun _=>False)):=⟨_,rfl⟩
 rw[← hPOST.out]
 have hf0:=hide (show Fr w (w.alloc (.cells (dvals 110 n0 tx0 (.slice a1 ks.length c1) (.slice a2 ds.length c2)).toArray 37)) (fun _=>False) from(Fr.refl w _).alloc _)
 have hB0:=hide (Blk.new w (dvals 110 n0 tx0 (.slice a1 ks.length c1) (.slice a2 ds.length c2)).toArray 37)
 have hby:=hide (show byT (.mk 110 n0 tx0 ks ds)=noB++byTs false ks ds by unfold byT;rw[if_neg (by decide),if_neg (by decide),if_neg (by decide),if_neg (by decide),if_neg (by decide),if_neg (by decide)];rfl)
 have z0:(w.alloc (.cells (dvals 110 n0 tx0 (.slice a1 ks.length c1) (.slice a2 ds.length c2)).toArray 37)).cell? ⟨w.heap.size,0,none⟩=some (.int .u8 110):=by rw[hB0.out.cell 0];rfl
 have z1:(w.alloc (.cells (dvals 110 n0 tx0 (.slice a1 ks.length c1) (.slice a2 ds.length c2)).toArray 37)).cell? ⟨w.heap.size,1,none⟩=some (.int .i64 n0):=by rw[hB0.out.cell 1];rfl
 have z2:(w.alloc (.cells (dvals 110 n0 tx0 (.slice a1 ks.length c1) (.slice a2 ds.length c2)).toArray 37)).cell? ⟨w.heap.size,2,none⟩=some (.string tx0):=by rw[hB0.out.cell 2];rfl
 have z4:(w.alloc (.cells (dvals 110 n0 tx0 (.slice a1 ks.length c1) (.slice a2 ds.length c2)).toArray 37)).cell? ⟨w.heap.size,4,none⟩=some (.slice a2 ds.length c2):=by rw[hB0.out.cell 4];rfl
 have hn0:=hok.1.1
 have hn1:=hok.1.2.1
 have htz:=hok.2.2.1
 replace hok:=hide hok
 replace hkeys:=hide hkeys
 replace hsub:=hide hsub
 replace hD:=hide hD
 go_enter Tryz.func21,Tryz.ntmps21
 go_wp2_with fail
 have start:Hid (∃ q:Nat,Value.string (⟨#[]⟩)=.string (noB++byTs false ks (ds.take q))∧Value.int .i64 0=.int .i64 (q:Int)∧q≤ds.length∧ds.length+1-q≤ds.length+1∧Fr w (w.alloc (.cells (dvals 110 n0 tx0 (.slice a1 ks.length c1) (.slice a2 ds.length c2)).toArray 37)) (fun _=>False)∧Fr (w.alloc (.cells (dvals 110 n0 tx0 (.slice a1 ks.length c1) (.slice a2 ds.length c2)).toArray 37)) (w.alloc (.cells (dvals 110 n0 tx0 (.slice a1 ks.length c1) (.slice a2 ds.length c2)).toArray 37)) (fun _=>False)):=hide ⟨0,by simp only[List.take_zero,byTs,app_noB];rfl,rfl,Nat.zero_le _,by omega,hf0.out,Fr.refl _ _⟩
 go_loopg [3,5,6,7] (ds.length+1) (fun m v3 v5 v6 v7 W=>∃ q:Nat,v3=.string (noB++byTs false ks (ds.take q))∧v5=.int .i64 (q:Int)∧q≤ds.length∧ds.length+1-q≤m∧Fr w W (fun _=>False)∧Fr (w.alloc (.cells (dvals 110 n0 tx0 (.slice a1 ks.length c1) (.slice a2 ds.length c2)).toArray 37)) W (fun _=>False))
 case atStart=>exact start.out
 case round=>
  clear start
  obtain⟨q,rfl,rfl,hq,hmq,hFw,hFb⟩:=hrel
  have b0:=(hFb.blk hB0.out id).cell 0
  have b3:=(hFb.blk hB0.out id).cell 3
  have b4:=(hFb.blk hB0.out id).cell 4
  simp only[dvals,List.getElem?_cons_zero,List.getElem?_cons_succ,Int.cast_ofNat_Int] at b0 b3 b4
  by_cases hlt:q<ds.length
  ·have hlt':(q:Int)<(ds.length:Int):=by omega
   have hd:ds[q]?=some ds[q]:=List.getElem?_eq_getElem hlt
   have hmem:ds[q]∈ds:=List.getElem_mem hlt
   generalize ds[q]=d at hd hmem
   obtain⟨g,k',n',tx',vk',vs',rfl,hDd,⟨x1,y1,z1,rfl⟩,⟨x2,y2,z2,rfl⟩,c0,c1',c2',c3,c4⟩:=hsub.out q d hd
   obtain⟨t1,t2⟩:=ndTs_take hd
   have hod:=okDs_at hok.out.2.2.2.2.2 d hmem
   have hC:=hide (ih d (by omega) (by omega) hod)
   have hCd:Hid (∀ W,Fr wr W (fun _=>False)→Calls Tryz.prog 21 #[.agg (dvals k' n' tx' (.slice x1 y1 z1) (.slice x2 y2 z2)).toArray] W fun e w'=>e=.returned (.string (byT d))∧Fr W w' (fun _=>False)):=hide (fun W hW=>hC.out W P k' n' tx' (.slice x1 y1 z1) (.slice x2 y2 z2) ((hDd.fr hFw (fun _ _ f=>f)).fr hW (fun _ _ f=>f)))
   have mv:∀ (o:Nat) (v:Value) (W:World),w.cell? ⟨g,o,none⟩=some v→Fr wr W (fun _=>False)→W.cell? ⟨g,o,none⟩=some v:=fun o v W h hW=>(World.cell?_of_block (a:=⟨g,o,none⟩) ((hFw.trans hW (fun _ _ f=>f)).block g (World.block_lt_of_cell? w ⟨g,o,none⟩ h) id)).trans h
   have hq5:q≤100000:=by have:=ndTs_len ds;omega
   have hsz1:=byT_size d hod
   have hsz2:=byTs_size false ks (ds.take q) hok.out.2.2.2.1 (okDs_take hok.out.2.2.2.2.2 q)
   have hHz:(noB).size≤11:=by show(0:Nat)≤11;omega
   have hnx:=hide (show noB++byTs false ks (ds.take (q+1))=(noB++byTs false ks (ds.take q))++itB false (ks.getD q noB) d by rw[byTs_take _ ds ks q d hd,ByteArray.append_assoc])
   obtain⟨Z,hZ⟩:∃ Z,noB++byTs false ks (ds.take q)=Z:=⟨_,rfl⟩
   have hZs:Z.size≤8022*ndTs (ds.take q)+11:=by rw[← hZ,ByteArray.size_append];omega
   rw[hZ] at hnx⊢
   obtain⟨bd,hbd⟩:∃ b,byT d=b:=⟨_,rfl⟩
   have hbz:bd.size≤900000000:=by rw[← hbd];omega
   have hZz:Z.size≤900000000:=by omega
   rw[hbd] at hCd
   have hit:=hide (show itB false (ks.getD q noB) d=bd by unfold itB;rw[hbd];rw[if_neg (by decide),noB_app])
   have hf:=hide hFw
   have hfb:=hide hFb
   replace hZ:=hide hZ
   replace hbd:=hide hbd
   replace hd:=hide hd
   have e0:=mv _ _ _ c0 (Fr.refl wr _)
   have e1:=mv _ _ _ c1' (Fr.refl wr _)
   have e2:=mv _ _ _ c2' (Fr.refl wr _)
   have e3:=mv _ _ _ c3 (Fr.refl wr _)
   have e4:=mv _ _ _ c4 (Fr.refl wr _)
   clear c0 c1' c2' c3 c4 mv
   clear hsz1 hsz2 hZs t1 t2 hDd hod hC hFw hFb hmem hHz
   go_wp2_with (go_at_call 21;refine(hCd.out _ (Fr.refl wr _)).mono ?_;rintro e w2 ⟨rfl,hf2⟩;replace hf2:=hide hf2)
   go_roundg (ds.length+1-(q+1))
   case measure=>omega
   case rel=>exact⟨q+1,by rw[hnx.out,hit.out],by simp,hlt,Nat.le_refl _,hf.out.trans hf2.out (fun _ _ f=>f),hfb.out.trans hf2.out (fun _ _ f=>f)⟩
  ·have hlt':¬ ((q:Int)<(ds.length:Int)):=by omega
   rw[List.take_of_length_le (by omega)]
   replace hFw:=hide hFw
   clear hFb b0 b3
   go_wp2_with fail
   try go_ret
   rw[hPOST.out,hby.out]
   exact⟨rfl,hFw.out⟩
set_option maxHeartbeats 8000000 in
set_option maxRecDepth 100000 in
theorem by_114 {m:Nat}(ih:ByOK m){n0:Int}{tx0:ByteArray}{ks:List ByteArray}{ds:List DT}(hm:1+ndTs ds≤m+1) (hb:1+ndTs ds≤100000) (hok:okD (.mk 114 n0 tx0 ks ds)){w:World}{P:Nat→Prop}{vk vs:Value}(hD:DVal w P (.mk 114 n0 tx0 ks ds) (dvals 114 n0 tx0 vk vs)) :
 Calls Tryz.prog 21 #[.agg (dvals 114 n0 tx0 vk vs).toArray] w fun e w'=>e=.returned (.string (byT (.mk 114 n0 tx0 ks ds)))∧Fr w w' (fun _=>False):=by
 obtain⟨a1,c1,rfl,hkeys⟩:=hD.keys
 obtain⟨a2,c2,rfl,hsub⟩:=hD.sub
 unfold okD at hok
 obtain⟨POST,hPOST⟩:∃ Q,Hid (Q=fun (e:Ending) (w':World)=>e=.returned (.string (byT (.mk 114 n0 tx0 ks ds)))∧Fr w w' (fun _=>False)):=⟨_,rfl⟩
 rw[← hPOST.out]
 have hf0:=hide (show Fr w (w.alloc (.cells (dvals 114 n0 tx0 (.slice a1 ks.length c1) (.slice a2 ds.length c2)).toArray 37)) (fun _=>False) from(Fr.refl w _).alloc _)
 have hB0:=hide (Blk.new w (dvals 114 n0 tx0 (.slice a1 ks.length c1) (.slice a2 ds.length c2)).toArray 37)
 have hby:=hide (show byT (.mk 114 n0 tx0 ks ds)=noB++byTs false ks ds by unfold byT;rw[if_neg (by decide),if_neg (by decide),if_neg (by decide),if_neg (by decide),if_neg (by decide),if_neg (by decide)];rfl)
 have z0:(w.alloc (.cells (dvals 114 n0 tx0 (.slice a1 ks.length c1) (.slice a2 ds.length c2)).toArray 37)).cell? ⟨w.heap.size,0,none⟩=some (.int .u8 114):=by rw[hB0.out.cell 0];rfl
 have z1:(w.alloc (.cells (dvals 114 n0 tx0 (.slice a1 ks.length c1) (.slice a2 ds.length c2)).toArray 37)).cell? ⟨w.heap.size,1,none⟩=some (.int .i64 n0):=by rw[hB0.out.cell 1];rfl
 have z2:(w.alloc (.cells (dvals 114 n0 tx0 (.slice a1 ks.length c1) (.slice a2 ds.length c2)).toArray 37)).cell? ⟨w.heap.size,2,none⟩=some (.string tx0):=by rw[hB0.out.cell 2];rfl
 have z4:(w.alloc (.cells (dvals 114 n0 tx0 (.slice a1 ks.length c1) (.slice a2 ds.length c2)).toArray 37)).cell? ⟨w.heap.size,4,none⟩=some (.slice a2 ds.length c2):=by rw[hB0.out.cell 4];rfl
 have hn0:=hok.1.1
 have hn1:=hok.1.2.1
 have htz:=hok.2.2.1
 replace hok:=hide hok
 replace hkeys:=hide hkeys
 replace hsub:=hide hsub
 replace hD:=hide hD
 go_enter Tryz.func21,Tryz.ntmps21
 go_wp2_with fail
 have start:Hid (∃ q:Nat,Value.string (⟨#[]⟩)=.string (noB++byTs false ks (ds.take q))∧Value.int .i64 0=.int .i64 (q:Int)∧q≤ds.length∧ds.length+1-q≤ds.length+1∧Fr w (w.alloc (.cells (dvals 114 n0 tx0 (.slice a1 ks.length c1) (.slice a2 ds.length c2)).toArray 37)) (fun _=>False)∧Fr (w.alloc (.cells (dvals 114 n0 tx0 (.slice a1 ks.length c1) (.slice a2 ds.length c2)).toArray 37)) (w.alloc (.cells (dvals 114 n0 tx0 (.slice a1 ks.length c1) (.slice a2 ds.length c2)).toArray 37)) (fun _=>False)):=hide ⟨0,by simp only[List.take_zero,byTs,app_noB];rfl,rfl,Nat.zero_le _,by omega,hf0.out,Fr.refl _ _⟩
 go_loopg [3,5,6,7] (ds.length+1) (fun m v3 v5 v6 v7 W=>∃ q:Nat,v3=.string (noB++byTs false ks (ds.take q))∧v5=.int .i64 (q:Int)∧q≤ds.length∧ds.length+1-q≤m∧Fr w W (fun _=>False)∧Fr (w.alloc (.cells (dvals 114 n0 tx0 (.slice a1 ks.length c1) (.slice a2 ds.length c2)).toArray 37)) W (fun _=>False))
 case atStart=>exact start.out
 case round=>
  clear start
  obtain⟨q,rfl,rfl,hq,hmq,hFw,hFb⟩:=hrel
  have b0:=(hFb.blk hB0.out id).cell 0
  have b3:=(hFb.blk hB0.out id).cell 3
  have b4:=(hFb.blk hB0.out id).cell 4
  simp only[dvals,List.getElem?_cons_zero,List.getElem?_cons_succ,Int.cast_ofNat_Int] at b0 b3 b4
  by_cases hlt:q<ds.length
  ·have hlt':(q:Int)<(ds.length:Int):=by omega
   have hd:ds[q]?=some ds[q]:=List.getElem?_eq_getElem hlt
   have hmem:ds[q]∈ds:=List.getElem_mem hlt
   generalize ds[q]=d at hd hmem
   obtain⟨g,k',n',tx',vk',vs',rfl,hDd,⟨x1,y1,z1,rfl⟩,⟨x2,y2,z2,rfl⟩,c0,c1',c2',c3,c4⟩:=hsub.out q d hd
   obtain⟨t1,t2⟩:=ndTs_take hd
   have hod:=okDs_at hok.out.2.2.2.2.2 d hmem
   have hC:=hide (ih d (by omega) (by omega) hod)
   have hCd:Hid (∀ W,Fr wr W (fun _=>False)→Calls Tryz.prog 21 #[.agg (dvals k' n' tx' (.slice x1 y1 z1) (.slice x2 y2 z2)).toArray] W fun e w'=>e=.returned (.string (byT d))∧Fr W w' (fun _=>False)):=hide (fun W hW=>hC.out W P k' n' tx' (.slice x1 y1 z1) (.slice x2 y2 z2) ((hDd.fr hFw (fun _ _ f=>f)).fr hW (fun _ _ f=>f)))
   have mv:∀ (o:Nat) (v:Value) (W:World),w.cell? ⟨g,o,none⟩=some v→Fr wr W (fun _=>False)→W.cell? ⟨g,o,none⟩=some v:=fun o v W h hW=>(World.cell?_of_block (a:=⟨g,o,none⟩) ((hFw.trans hW (fun _ _ f=>f)).block g (World.block_lt_of_cell? w ⟨g,o,none⟩ h) id)).trans h
   have hq5:q≤100000:=by have:=ndTs_len ds;omega
   have hsz1:=byT_size d hod
   have hsz2:=byTs_size false ks (ds.take q) hok.out.2.2.2.1 (okDs_take hok.out.2.2.2.2.2 q)
   have hHz:(noB).size≤11:=by show(0:Nat)≤11;omega
   have hnx:=hide (show noB++byTs false ks (ds.take (q+1))=(noB++byTs false ks (ds.take q))++itB false (ks.getD q noB) d by rw[byTs_take _ ds ks q d hd,ByteArray.append_assoc])
   obtain⟨Z,hZ⟩:∃ Z,noB++byTs false ks (ds.take q)=Z:=⟨_,rfl⟩
   have hZs:Z.size≤8022*ndTs (ds.take q)+11:=by rw[← hZ,ByteArray.size_append];omega
   rw[hZ] at hnx⊢
   obtain⟨bd,hbd⟩:∃ b,byT d=b:=⟨_,rfl⟩
   have hbz:bd.size≤900000000:=by rw[← hbd];omega
   have hZz:Z.size≤900000000:=by omega
   rw[hbd] at hCd
   have hit:=hide (show itB false (ks.getD q noB) d=bd by unfold itB;rw[hbd];rw[if_neg (by decide),noB_app])
   have hf:=hide hFw
   have hfb:=hide hFb
   replace hZ:=hide hZ
   replace hbd:=hide hbd
   replace hd:=hide hd
   have e0:=mv _ _ _ c0 (Fr.refl wr _)
   have e1:=mv _ _ _ c1' (Fr.refl wr _)
   have e2:=mv _ _ _ c2' (Fr.refl wr _)
   have e3:=mv _ _ _ c3 (Fr.refl wr _)
   have e4:=mv _ _ _ c4 (Fr.refl wr _)
   clear c0 c1' c2' c3 c4 mv
   clear hsz1 hsz2 hZs t1 t2 hDd hod hC hFw hFb hmem hHz
   go_wp2_with (go_at_call 21;refine(hCd.out _ (Fr.refl wr _)).mono ?_;rintro e w2 ⟨rfl,hf2⟩;replace hf2:=hide hf2)
   go_roundg (ds.length+1-(q+1))
   case measure=>omega
   case rel=>exact⟨q+1,by rw[hnx.out,hit.out],by simp,hlt,Nat.le_refl _,hf.out.trans hf2.out (fun _ _ f=>f),hfb.out.trans hf2.out (fun _ _ f=>f)⟩
  ·have hlt':¬ ((q:Int)<(ds.length:Int)):=by omega
   rw[List.take_of_length_le (by omega)]
   replace hFw:=hide hFw
   clear hFb b0 b3
   go_wp2_with fail
   try go_ret
   rw[hPOST.out,hby.out]
   exact⟨rfl,hFw.out⟩
set_option maxHeartbeats 8000000 in
set_option maxRecDepth 100000 in
theorem by_40 {m:Nat}(ih:ByOK m){n0:Int}{tx0:ByteArray}{ks:List ByteArray}{ds:List DT}(hm:1+ndTs ds≤m+1) (hb:1+ndTs ds≤100000) (hok:okD (.mk 40 n0 tx0 ks ds)){w:World}{P:Nat→Prop}{vk vs:Value}(hD:DVal w P (.mk 40 n0 tx0 ks ds) (dvals 40 n0 tx0 vk vs)) :
 Calls Tryz.prog 21 #[.agg (dvals 40 n0 tx0 vk vs).toArray] w fun e w'=>e=.returned (.string (byT (.mk 40 n0 tx0 ks ds)))∧Fr w w' (fun _=>False):=by
 obtain⟨a1,c1,rfl,hkeys⟩:=hD.keys
 obtain⟨a2,c2,rfl,hsub⟩:=hD.sub
 unfold okD at hok
 obtain⟨POST,hPOST⟩:∃ Q,Hid (Q=fun (e:Ending) (w':World)=>e=.returned (.string (byT (.mk 40 n0 tx0 ks ds)))∧Fr w w' (fun _=>False)):=⟨_,rfl⟩
 rw[← hPOST.out]
 have hf0:=hide (show Fr w (w.alloc (.cells (dvals 40 n0 tx0 (.slice a1 ks.length c1) (.slice a2 ds.length c2)).toArray 37)) (fun _=>False) from(Fr.refl w _).alloc _)
 have hB0:=hide (Blk.new w (dvals 40 n0 tx0 (.slice a1 ks.length c1) (.slice a2 ds.length c2)).toArray 37)
 have hby:=hide (show byT (.mk 40 n0 tx0 ks ds)=wholeB n0++byTs false ks ds by unfold byT;rw[if_neg (by decide),if_neg (by decide),if_neg (by decide),if_neg (by decide),if_pos rfl];rfl)
 have z0:(w.alloc (.cells (dvals 40 n0 tx0 (.slice a1 ks.length c1) (.slice a2 ds.length c2)).toArray 37)).cell? ⟨w.heap.size,0,none⟩=some (.int .u8 40):=by rw[hB0.out.cell 0];rfl
 have z1:(w.alloc (.cells (dvals 40 n0 tx0 (.slice a1 ks.length c1) (.slice a2 ds.length c2)).toArray 37)).cell? ⟨w.heap.size,1,none⟩=some (.int .i64 n0):=by rw[hB0.out.cell 1];rfl
 have z2:(w.alloc (.cells (dvals 40 n0 tx0 (.slice a1 ks.length c1) (.slice a2 ds.length c2)).toArray 37)).cell? ⟨w.heap.size,2,none⟩=some (.string tx0):=by rw[hB0.out.cell 2];rfl
 have z4:(w.alloc (.cells (dvals 40 n0 tx0 (.slice a1 ks.length c1) (.slice a2 ds.length c2)).toArray 37)).cell? ⟨w.heap.size,4,none⟩=some (.slice a2 ds.length c2):=by rw[hB0.out.cell 4];rfl
 have hn0:=hok.1.1
 have hn1:=hok.1.2.1
 have htz:=hok.2.2.1
 replace hok:=hide hok
 replace hkeys:=hide hkeys
 replace hsub:=hide hsub
 replace hD:=hide hD
 go_enter Tryz.func21,Tryz.ntmps21
 go_wp2_with (go_at_call 35;refine(whole_any hn0 hn1).mono ?_;rintro e w1 ⟨rfl,hf1⟩;replace hf1:=hide hf1)
 have start:Hid (∃ q:Nat,Value.string (wholeB n0)=.string (wholeB n0++byTs false ks (ds.take q))∧Value.int .i64 0=.int .i64 (q:Int)∧q≤ds.length∧ds.length+1-q≤ds.length+1∧Fr w w1 (fun _=>False)∧Fr (w.alloc (.cells (dvals 40 n0 tx0 (.slice a1 ks.length c1) (.slice a2 ds.length c2)).toArray 37)) w1 (fun _=>False)):=hide ⟨0,by simp only[List.take_zero,byTs,app_noB],rfl,Nat.zero_le _,by omega,hf0.out.trans hf1.out (fun _ _ f=>f),hf1.out⟩
 go_loopg [3,5,6,7] (ds.length+1) (fun m v3 v5 v6 v7 W=>∃ q:Nat,v3=.string (wholeB n0++byTs false ks (ds.take q))∧v5=.int .i64 (q:Int)∧q≤ds.length∧ds.length+1-q≤m∧Fr w W (fun _=>False)∧Fr (w.alloc (.cells (dvals 40 n0 tx0 (.slice a1 ks.length c1) (.slice a2 ds.length c2)).toArray 37)) W (fun _=>False))
 case atStart=>exact start.out
 case round=>
  clear start
  obtain⟨q,rfl,rfl,hq,hmq,hFw,hFb⟩:=hrel
  have b0:=(hFb.blk hB0.out id).cell 0
  have b3:=(hFb.blk hB0.out id).cell 3
  have b4:=(hFb.blk hB0.out id).cell 4
  simp only[dvals,List.getElem?_cons_zero,List.getElem?_cons_succ,Int.cast_ofNat_Int] at b0 b3 b4
  by_cases hlt:q<ds.length
  ·have hlt':(q:Int)<(ds.length:Int):=by omega
   have hd:ds[q]?=some ds[q]:=List.getElem?_eq_getElem hlt
   have hmem:ds[q]∈ds:=List.getElem_mem hlt
   generalize ds[q]=d at hd hmem
   obtain⟨g,k',n',tx',vk',vs',rfl,hDd,⟨x1,y1,z1,rfl⟩,⟨x2,y2,z2,rfl⟩,c0,c1',c2',c3,c4⟩:=hsub.out q d hd
   obtain⟨t1,t2⟩:=ndTs_take hd
   have hod:=okDs_at hok.out.2.2.2.2.2 d hmem
   have hC:=hide (ih d (by omega) (by omega) hod)
   have hCd:Hid (∀ W,Fr wr W (fun _=>False)→Calls Tryz.prog 21 #[.agg (dvals k' n' tx' (.slice x1 y1 z1) (.slice x2 y2 z2)).toArray] W fun e w'=>e=.returned (.string (byT d))∧Fr W w' (fun _=>False)):=hide (fun W hW=>hC.out W P k' n' tx' (.slice x1 y1 z1) (.slice x2 y2 z2) ((hDd.fr hFw (fun _ _ f=>f)).fr hW (fun _ _ f=>f)))
   have mv:∀ (o:Nat) (v:Value) (W:World),w.cell? ⟨g,o,none⟩=some v→Fr wr W (fun _=>False)→W.cell? ⟨g,o,none⟩=some v:=fun o v W h hW=>(World.cell?_of_block (a:=⟨g,o,none⟩) ((hFw.trans hW (fun _ _ f=>f)).block g (World.block_lt_of_cell? w ⟨g,o,none⟩ h) id)).trans h
   have hq5:q≤100000:=by have:=ndTs_len ds;omega
   have hsz1:=byT_size d hod
   have hsz2:=byTs_size false ks (ds.take q) hok.out.2.2.2.1 (okDs_take hok.out.2.2.2.2.2 q)
   have hHz:(wholeB n0).size≤11:=wholeB_size n0
   have hnx:=hide (show wholeB n0++byTs false ks (ds.take (q+1))=(wholeB n0++byTs false ks (ds.take q))++itB false (ks.getD q noB) d by rw[byTs_take _ ds ks q d hd,ByteArray.append_assoc])
   obtain⟨Z,hZ⟩:∃ Z,wholeB n0++byTs false ks (ds.take q)=Z:=⟨_,rfl⟩
   have hZs:Z.size≤8022*ndTs (ds.take q)+11:=by rw[← hZ,ByteArray.size_append];omega
   rw[hZ] at hnx⊢
   obtain⟨bd,hbd⟩:∃ b,byT d=b:=⟨_,rfl⟩
   have hbz:bd.size≤900000000:=by rw[← hbd];omega
   have hZz:Z.size≤900000000:=by omega
   rw[hbd] at hCd
   have hit:=hide (show itB false (ks.getD q noB) d=bd by unfold itB;rw[hbd];rw[if_neg (by decide),noB_app])
   have hf:=hide hFw
   have hfb:=hide hFb
   replace hZ:=hide hZ
   replace hbd:=hide hbd
   replace hd:=hide hd
   have e0:=mv _ _ _ c0 (Fr.refl wr _)
   have e1:=mv _ _ _ c1' (Fr.refl wr _)
   have e2:=mv _ _ _ c2' (Fr.refl wr _)
   have e3:=mv _ _ _ c3 (Fr.refl wr _)
   have e4:=mv _ _ _ c4 (Fr.refl wr _)
   clear c0 c1' c2' c3 c4 mv
   clear hsz1 hsz2 hZs t1 t2 hDd hod hC hFw hFb hmem hHz
   go_wp2_with (go_at_call 21;refine(hCd.out _ (Fr.refl wr _)).mono ?_;rintro e w2 ⟨rfl,hf2⟩;replace hf2:=hide hf2)
   go_roundg (ds.length+1-(q+1))
   case measure=>omega
   case rel=>exact⟨q+1,by rw[hnx.out,hit.out],by simp,hlt,Nat.le_refl _,hf.out.trans hf2.out (fun _ _ f=>f),hfb.out.trans hf2.out (fun _ _ f=>f)⟩
  ·have hlt':¬ ((q:Int)<(ds.length:Int)):=by omega
   rw[List.take_of_length_le (by omega)]
   replace hFw:=hide hFw
   clear hFb b0 b3
   go_wp2_with fail
   try go_ret
   rw[hPOST.out,hby.out]
   exact⟨rfl,hFw.out⟩
set_option maxHeartbeats 8000000 in
set_option maxRecDepth 100000 in
theorem by_91 {m:Nat}(ih:ByOK m){n0:Int}{tx0:ByteArray}{ks:List ByteArray}{ds:List DT}(hm:1+ndTs ds≤m+1) (hb:1+ndTs ds≤100000) (hok:okD (.mk 91 n0 tx0 ks ds)){w:World}{P:Nat→Prop}{vk vs:Value}(hD:DVal w P (.mk 91 n0 tx0 ks ds) (dvals 91 n0 tx0 vk vs)) :
 Calls Tryz.prog 21 #[.agg (dvals 91 n0 tx0 vk vs).toArray] w fun e w'=>e=.returned (.string (byT (.mk 91 n0 tx0 ks ds)))∧Fr w w' (fun _=>False):=by
 obtain⟨a1,c1,rfl,hkeys⟩:=hD.keys
 obtain⟨a2,c2,rfl,hsub⟩:=hD.sub
 unfold okD at hok
 obtain⟨POST,hPOST⟩:∃ Q,Hid (Q=fun (e:Ending) (w':World)=>e=.returned (.string (byT (.mk 91 n0 tx0 ks ds)))∧Fr w w' (fun _=>False)):=⟨_,rfl⟩
 rw[← hPOST.out]
 have hf0:=hide (show Fr w (w.alloc (.cells (dvals 91 n0 tx0 (.slice a1 ks.length c1) (.slice a2 ds.length c2)).toArray 37)) (fun _=>False) from(Fr.refl w _).alloc _)
 have hB0:=hide (Blk.new w (dvals 91 n0 tx0 (.slice a1 ks.length c1) (.slice a2 ds.length c2)).toArray 37)
 have hby:=hide (show byT (.mk 91 n0 tx0 ks ds)=wholeB (ds.length:Int)++byTs false ks ds by unfold byT;rw[if_neg (by decide),if_neg (by decide),if_neg (by decide),if_neg (by decide),if_neg (by decide),if_pos (by decide)];rfl)
 have z0:(w.alloc (.cells (dvals 91 n0 tx0 (.slice a1 ks.length c1) (.slice a2 ds.length c2)).toArray 37)).cell? ⟨w.heap.size,0,none⟩=some (.int .u8 91):=by rw[hB0.out.cell 0];rfl
 have z1:(w.alloc (.cells (dvals 91 n0 tx0 (.slice a1 ks.length c1) (.slice a2 ds.length c2)).toArray 37)).cell? ⟨w.heap.size,1,none⟩=some (.int .i64 n0):=by rw[hB0.out.cell 1];rfl
 have z2:(w.alloc (.cells (dvals 91 n0 tx0 (.slice a1 ks.length c1) (.slice a2 ds.length c2)).toArray 37)).cell? ⟨w.heap.size,2,none⟩=some (.string tx0):=by rw[hB0.out.cell 2];rfl
 have z4:(w.alloc (.cells (dvals 91 n0 tx0 (.slice a1 ks.length c1) (.slice a2 ds.length c2)).toArray 37)).cell? ⟨w.heap.size,4,none⟩=some (.slice a2 ds.length c2):=by rw[hB0.out.cell 4];rfl
 have hn0:=hok.1.1
 have hn1:=hok.1.2.1
 have htz:=hok.2.2.1
 replace hok:=hide hok
 replace hkeys:=hide hkeys
 replace hsub:=hide hsub
 replace hD:=hide hD
 have hdl:=ndTs_len ds
 go_enter Tryz.func21,Tryz.ntmps21
 go_wp2_with (go_at_call 35;refine(whole_any (by omega) (by omega)).mono ?_;rintro e w1 ⟨rfl,hf1⟩;replace hf1:=hide hf1)
 have start:Hid (∃ q:Nat,Value.string (wholeB (ds.length:Int))=.string (wholeB (ds.length:Int)++byTs false ks (ds.take q))∧Value.int .i64 0=.int .i64 (q:Int)∧q≤ds.length∧ds.length+1-q≤ds.length+1∧Fr w w1 (fun _=>False)∧Fr (w.alloc (.cells (dvals 91 n0 tx0 (.slice a1 ks.length c1) (.slice a2 ds.length c2)).toArray 37)) w1 (fun _=>False)):=hide ⟨0,by simp only[List.take_zero,byTs,app_noB],rfl,Nat.zero_le _,by omega,hf0.out.trans hf1.out (fun _ _ f=>f),hf1.out⟩
 go_loopg [3,5,6,7] (ds.length+1) (fun m v3 v5 v6 v7 W=>∃ q:Nat,v3=.string (wholeB (ds.length:Int)++byTs false ks (ds.take q))∧v5=.int .i64 (q:Int)∧q≤ds.length∧ds.length+1-q≤m∧Fr w W (fun _=>False)∧Fr (w.alloc (.cells (dvals 91 n0 tx0 (.slice a1 ks.length c1) (.slice a2 ds.length c2)).toArray 37)) W (fun _=>False))
 case atStart=>exact start.out
 case round=>
  clear start
  obtain⟨q,rfl,rfl,hq,hmq,hFw,hFb⟩:=hrel
  have b0:=(hFb.blk hB0.out id).cell 0
  have b3:=(hFb.blk hB0.out id).cell 3
  have b4:=(hFb.blk hB0.out id).cell 4
  simp only[dvals,List.getElem?_cons_zero,List.getElem?_cons_succ,Int.cast_ofNat_Int] at b0 b3 b4
  by_cases hlt:q<ds.length
  ·have hlt':(q:Int)<(ds.length:Int):=by omega
   have hd:ds[q]?=some ds[q]:=List.getElem?_eq_getElem hlt
   have hmem:ds[q]∈ds:=List.getElem_mem hlt
   generalize ds[q]=d at hd hmem
   obtain⟨g,k',n',tx',vk',vs',rfl,hDd,⟨x1,y1,z1,rfl⟩,⟨x2,y2,z2,rfl⟩,c0,c1',c2',c3,c4⟩:=hsub.out q d hd
   obtain⟨t1,t2⟩:=ndTs_take hd
   have hod:=okDs_at hok.out.2.2.2.2.2 d hmem
   have hC:=hide (ih d (by omega) (by omega) hod)
   have hCd:Hid (∀ W,Fr wr W (fun _=>False)→Calls Tryz.prog 21 #[.agg (dvals k' n' tx' (.slice x1 y1 z1) (.slice x2 y2 z2)).toArray] W fun e w'=>e=.returned (.string (byT d))∧Fr W w' (fun _=>False)):=hide (fun W hW=>hC.out W P k' n' tx' (.slice x1 y1 z1) (.slice x2 y2 z2) ((hDd.fr hFw (fun _ _ f=>f)).fr hW (fun _ _ f=>f)))
   have mv:∀ (o:Nat) (v:Value) (W:World),w.cell? ⟨g,o,none⟩=some v→Fr wr W (fun _=>False)→W.cell? ⟨g,o,none⟩=some v:=fun o v W h hW=>(World.cell?_of_block (a:=⟨g,o,none⟩) ((hFw.trans hW (fun _ _ f=>f)).block g (World.block_lt_of_cell? w ⟨g,o,none⟩ h) id)).trans h
   have hq5:q≤100000:=by have:=ndTs_len ds;omega
   have hsz1:=byT_size d hod
   have hsz2:=byTs_size false ks (ds.take q) hok.out.2.2.2.1 (okDs_take hok.out.2.2.2.2.2 q)
   have hHz:(wholeB (ds.length:Int)).size≤11:=wholeB_size _
   have hnx:=hide (show wholeB (ds.length:Int)++byTs false ks (ds.take (q+1))=(wholeB (ds.length:Int)++byTs false ks (ds.take q))++itB false (ks.getD q noB) d by rw[byTs_take _ ds ks q d hd,ByteArray.append_assoc])
   obtain⟨Z,hZ⟩:∃ Z,wholeB (ds.length:Int)++byTs false ks (ds.take q)=Z:=⟨_,rfl⟩
   have hZs:Z.size≤8022*ndTs (ds.take q)+11:=by rw[← hZ,ByteArray.size_append];omega
   rw[hZ] at hnx⊢
   obtain⟨bd,hbd⟩:∃ b,byT d=b:=⟨_,rfl⟩
   have hbz:bd.size≤900000000:=by rw[← hbd];omega
   have hZz:Z.size≤900000000:=by omega
   rw[hbd] at hCd
   have hit:=hide (show itB false (ks.getD q noB) d=bd by unfold itB;rw[hbd];rw[if_neg (by decide),noB_app])
   have hf:=hide hFw
   have hfb:=hide hFb
   replace hZ:=hide hZ
   replace hbd:=hide hbd
   replace hd:=hide hd
   have e0:=mv _ _ _ c0 (Fr.refl wr _)
   have e1:=mv _ _ _ c1' (Fr.refl wr _)
   have e2:=mv _ _ _ c2' (Fr.refl wr _)
   have e3:=mv _ _ _ c3 (Fr.refl wr _)
   have e4:=mv _ _ _ c4 (Fr.refl wr _)
   clear c0 c1' c2' c3 c4 mv
   clear hsz1 hsz2 hZs t1 t2 hDd hod hC hFw hFb hmem hHz
   go_wp2_with (go_at_call 21;refine(hCd.out _ (Fr.refl wr _)).mono ?_;rintro e w2 ⟨rfl,hf2⟩;replace hf2:=hide hf2)
   go_roundg (ds.length+1-(q+1))
   case measure=>omega
   case rel=>exact⟨q+1,by rw[hnx.out,hit.out],by simp,hlt,Nat.le_refl _,hf.out.trans hf2.out (fun _ _ f=>f),hfb.out.trans hf2.out (fun _ _ f=>f)⟩
  ·have hlt':¬ ((q:Int)<(ds.length:Int)):=by omega
   rw[List.take_of_length_le (by omega)]
   replace hFw:=hide hFw
   clear hFb b0 b3
   go_wp2_with fail
   try go_ret
   rw[hPOST.out,hby.out]
   exact⟨rfl,hFw.out⟩
set_option maxHeartbeats 8000000 in
set_option maxRecDepth 100000 in
theorem by_123 {m:Nat}(ih:ByOK m){n0:Int}{tx0:ByteArray}{ks:List ByteArray}{ds:List DT}(hm:1+ndTs ds≤m+1) (hb:1+ndTs ds≤100000) (hok:okD (.mk 123 n0 tx0 ks ds)){w:World}{P:Nat→Prop}{vk vs:Value}(hD:DVal w P (.mk 123 n0 tx0 ks ds) (dvals 123 n0 tx0 vk vs)) :
 Calls Tryz.prog 21 #[.agg (dvals 123 n0 tx0 vk vs).toArray] w fun e w'=>e=.returned (.string (byT (.mk 123 n0 tx0 ks ds)))∧Fr w w' (fun _=>False):=by
 obtain⟨a1,c1,rfl,hkeys⟩:=hD.keys
 obtain⟨a2,c2,rfl,hsub⟩:=hD.sub
 unfold okD at hok
 obtain⟨POST,hPOST⟩:∃ Q,Hid (Q=fun (e:Ending) (w':World)=>e=.returned (.string (byT (.mk 123 n0 tx0 ks ds)))∧Fr w w' (fun _=>False)):=⟨_,rfl⟩
 rw[← hPOST.out]
 have hf0:=hide (show Fr w (w.alloc (.cells (dvals 123 n0 tx0 (.slice a1 ks.length c1) (.slice a2 ds.length c2)).toArray 37)) (fun _=>False) from(Fr.refl w _).alloc _)
 have hB0:=hide (Blk.new w (dvals 123 n0 tx0 (.slice a1 ks.length c1) (.slice a2 ds.length c2)).toArray 37)
 have hby:=hide (show byT (.mk 123 n0 tx0 ks ds)=wholeB (ds.length:Int)++byTs true ks ds by unfold byT;rw[if_neg (by decide),if_neg (by decide),if_neg (by decide),if_neg (by decide),if_neg (by decide),if_pos (by decide)];rfl)
 have z0:(w.alloc (.cells (dvals 123 n0 tx0 (.slice a1 ks.length c1) (.slice a2 ds.length c2)).toArray 37)).cell? ⟨w.heap.size,0,none⟩=some (.int .u8 123):=by rw[hB0.out.cell 0];rfl
 have z1:(w.alloc (.cells (dvals 123 n0 tx0 (.slice a1 ks.length c1) (.slice a2 ds.length c2)).toArray 37)).cell? ⟨w.heap.size,1,none⟩=some (.int .i64 n0):=by rw[hB0.out.cell 1];rfl
 have z2:(w.alloc (.cells (dvals 123 n0 tx0 (.slice a1 ks.length c1) (.slice a2 ds.length c2)).toArray 37)).cell? ⟨w.heap.size,2,none⟩=some (.string tx0):=by rw[hB0.out.cell 2];rfl
 have z4:(w.alloc (.cells (dvals 123 n0 tx0 (.slice a1 ks.length c1) (.slice a2 ds.length c2)).toArray 37)).cell? ⟨w.heap.size,4,none⟩=some (.slice a2 ds.length c2):=by rw[hB0.out.cell 4];rfl
 have hn0:=hok.1.1
 have hn1:=hok.1.2.1
 have htz:=hok.2.2.1
 replace hok:=hide hok
 replace hkeys:=hide hkeys
 replace hsub:=hide hsub
 replace hD:=hide hD
 have hdl:=ndTs_len ds
 have hkl0:=hide (hok.out.2.2.2.2.1 (by rfl))
 go_enter Tryz.func21,Tryz.ntmps21
 go_wp2_with (go_at_call 35;refine(whole_any (by omega) (by omega)).mono ?_;rintro e w1 ⟨rfl,hf1⟩;replace hf1:=hide hf1)
 have start:Hid (∃ q:Nat,Value.string (wholeB (ds.length:Int))=.string (wholeB (ds.length:Int)++byTs true ks (ds.take q))∧Value.int .i64 0=.int .i64 (q:Int)∧q≤ds.length∧ds.length+1-q≤ds.length+1∧Fr w w1 (fun _=>False)∧Fr (w.alloc (.cells (dvals 123 n0 tx0 (.slice a1 ks.length c1) (.slice a2 ds.length c2)).toArray 37)) w1 (fun _=>False)):=hide ⟨0,by simp only[List.take_zero,byTs,app_noB],rfl,Nat.zero_le _,by omega,hf0.out.trans hf1.out (fun _ _ f=>f),hf1.out⟩
 go_loopg [3,5,6,7] (ds.length+1) (fun m v3 v5 v6 v7 W=>∃ q:Nat,v3=.string (wholeB (ds.length:Int)++byTs true ks (ds.take q))∧v5=.int .i64 (q:Int)∧q≤ds.length∧ds.length+1-q≤m∧Fr w W (fun _=>False)∧Fr (w.alloc (.cells (dvals 123 n0 tx0 (.slice a1 ks.length c1) (.slice a2 ds.length c2)).toArray 37)) W (fun _=>False))
 case atStart=>exact start.out
 case round=>
  clear start
  obtain⟨q,rfl,rfl,hq,hmq,hFw,hFb⟩:=hrel
  have b0:=(hFb.blk hB0.out id).cell 0
  have b3:=(hFb.blk hB0.out id).cell 3
  have b4:=(hFb.blk hB0.out id).cell 4
  simp only[dvals,List.getElem?_cons_zero,List.getElem?_cons_succ,Int.cast_ofNat_Int] at b0 b3 b4
  by_cases hlt:q<ds.length
  ·have hlt':(q:Int)<(ds.length:Int):=by omega
   have hd:ds[q]?=some ds[q]:=List.getElem?_eq_getElem hlt
   have hmem:ds[q]∈ds:=List.getElem_mem hlt
   generalize ds[q]=d at hd hmem
   obtain⟨g,k',n',tx',vk',vs',rfl,hDd,⟨x1,y1,z1,rfl⟩,⟨x2,y2,z2,rfl⟩,c0,c1',c2',c3,c4⟩:=hsub.out q d hd
   obtain⟨t1,t2⟩:=ndTs_take hd
   have hod:=okDs_at hok.out.2.2.2.2.2 d hmem
   have hC:=hide (ih d (by omega) (by omega) hod)
   have hCd:Hid (∀ W,Fr wr W (fun _=>False)→Calls Tryz.prog 21 #[.agg (dvals k' n' tx' (.slice x1 y1 z1) (.slice x2 y2 z2)).toArray] W fun e w'=>e=.returned (.string (byT d))∧Fr W w' (fun _=>False)):=hide (fun W hW=>hC.out W P k' n' tx' (.slice x1 y1 z1) (.slice x2 y2 z2) ((hDd.fr hFw (fun _ _ f=>f)).fr hW (fun _ _ f=>f)))
   have mv:∀ (o:Nat) (v:Value) (W:World),w.cell? ⟨g,o,none⟩=some v→Fr wr W (fun _=>False)→W.cell? ⟨g,o,none⟩=some v:=fun o v W h hW=>(World.cell?_of_block (a:=⟨g,o,none⟩) ((hFw.trans hW (fun _ _ f=>f)).block g (World.block_lt_of_cell? w ⟨g,o,none⟩ h) id)).trans h
   have hq5:q≤100000:=by have:=ndTs_len ds;omega
   have hsz1:=byT_size d hod
   have hsz2:=byTs_size true ks (ds.take q) hok.out.2.2.2.1 (okDs_take hok.out.2.2.2.2.2 q)
   have hHz:(wholeB (ds.length:Int)).size≤11:=wholeB_size _
   have hnx:=hide (show wholeB (ds.length:Int)++byTs true ks (ds.take (q+1))=(wholeB (ds.length:Int)++byTs true ks (ds.take q))++itB true (ks.getD q noB) d by rw[byTs_take _ ds ks q d hd,ByteArray.append_assoc])
   obtain⟨Z,hZ⟩:∃ Z,wholeB (ds.length:Int)++byTs true ks (ds.take q)=Z:=⟨_,rfl⟩
   have hZs:Z.size≤8022*ndTs (ds.take q)+11:=by rw[← hZ,ByteArray.size_append];omega
   rw[hZ] at hnx⊢
   obtain⟨bd,hbd⟩:∃ b,byT d=b:=⟨_,rfl⟩
   have hbz:bd.size≤900000000:=by rw[← hbd];omega
   have hZz:Z.size≤900000000:=by omega
   rw[hbd] at hCd
   have hit:=hide (show itB true (ks.getD q noB) d=(wholeB ((ks.getD q noB).size:Int)++ks.getD q noB)++bd by unfold itB;rw[hbd];rw[if_pos rfl])
   have hf:=hide hFw
   have hfb:=hide hFb
   replace hZ:=hide hZ
   replace hbd:=hide hbd
   replace hd:=hide hd
   obtain⟨gk,rfl,hkc⟩:=hkeys.out q (by rw[hkl0.out];exact hlt)
   have hkl:(q:Int)<(ks.length:Int):=by rw[hkl0.out];exact hlt'
   have mk2:∀ (W:World),Fr wr W (fun _=>False)→W.cell? ⟨gk,q,none⟩=some (.string (ks.getD q noB)):=fun W hW=>(World.cell?_of_block (a:=⟨gk,q,none⟩) ((hFw.trans hW (fun _ _ f=>f)).block gk (World.block_lt_of_cell? w ⟨gk,q,none⟩ hkc) id)).trans hkc
   have k0:=mk2 _ (Fr.refl wr _)
   have hkz:(ks.getD q noB).size≤4000:=by
    rw[List.getD_eq_getElem?_getD,List.getElem?_eq_getElem (by rw[hkl0.out];exact hlt)]
    exact hok.out.2.2.2.1 _ (List.getElem_mem _)
   have hkw:=wholeB_size ((ks.getD q noB).size:Int)
   obtain⟨key,hkey⟩:∃ k,ks.getD q noB=k:=⟨_,rfl⟩
   rw[hkey] at k0 hkz hkw hit mk2 hnx
   have hk2:=hide mk2
   have hm2:=hide mv
   replace hkey:=hide hkey
   clear mk2 hkc
   clear hsz1 hsz2 hZs t1 t2 hDd hod hC hFw hFb hmem hHz
   go_wp2_with (first
    |(go_at_call 35;refine(whole_any (by omega) (by omega)).mono ?_;rintro e w2 ⟨rfl,hf2⟩;have k2:=hk2.out _ hf2;have e0:=hm2.out _ _ _ c0 hf2;have e1:=hm2.out _ _ _ c1' hf2;have e2:=hm2.out _ _ _ c2' hf2;have e3:=hm2.out _ _ _ c3 hf2;have e4:=hm2.out _ _ _ c4 hf2;have B2:=hf2.blk (hfb.out.blk hB0.out id) id;have d3:=B2.cell 3;have d4:=B2.cell 4;simp only[dvals,List.getElem?_cons_zero,List.getElem?_cons_succ] at d3 d4;replace hf2:=hide hf2;clear B2)
    |(go_at_call 21;refine(hCd.out _ hf2.out).mono ?_;rintro e w3 ⟨rfl,hf3⟩;replace hf3:=hide hf3))
   go_roundg (ds.length+1-(q+1))
   case measure=>omega
   case rel=>exact⟨q+1,by rw[hnx.out,hit.out];simp only[ByteArray.append_assoc],by simp,hlt,Nat.le_refl _,(hf.out.trans hf2.out (fun _ _ f=>f)).trans hf3.out (fun _ _ f=>f),(hfb.out.trans hf2.out (fun _ _ f=>f)).trans hf3.out (fun _ _ f=>f)⟩
  ·have hlt':¬ ((q:Int)<(ds.length:Int)):=by omega
   rw[List.take_of_length_le (by omega)]
   replace hFw:=hide hFw
   clear hFb b0 b3
   go_wp2_with fail
   try go_ret
   rw[hPOST.out,hby.out]
   exact⟨rfl,hFw.out⟩
theorem refBytes_any:∀ m,ByOK m:=by
 intro m
 induction m with
 | zero=>intro d h;obtain⟨_,_,_,_,_⟩:=d;unfold ndT at h;omega
 | succ m ih=>
  intro d hm hb hok w P k n tx vk vs hD
  obtain⟨k0,n0,tx0,ks,ds⟩:=d
  obtain⟨rfl,rfl,rfl⟩:k0=k∧n0=n∧tx0=tx:=by
   generalize hv:dvals k n tx vk vs=v at hD
   cases hD with
   | mk X hk hkP hs hsP hd=>
    simp only[dvals,List.cons.injEq,and_true,Value.int.injEq,Value.string.injEq,true_and] at hv
    exact⟨by omega,hv.2.1.symm,hv.2.2.1.symm⟩
  unfold ndT at hm hb
  have hk:kdOK k0:=by unfold okD at hok;exact hok.1.2.2
  unfold kdOK at hk
  rcases hk with rfl|rfl|rfl|rfl|rfl|rfl|rfl|rfl|rfl|rfl|rfl
  ·exact by_110 ih hm hb hok hD
  ·exact by_116 ih hm hb hok hD
  ·exact by_105 ih hm hb hok hD
  ·exact by_108 ih hm hb hok hD
  ·exact by_115 ih hm hb hok hD
  ·exact by_91 ih hm hb hok hD
  ·exact by_123 ih hm hb hok hD
  ·exact by_40 ih hm hb hok hD
  ·exact by_114 ih hm hb hok hD
  ·exact by_101 ih hm hb hok hD
  ·exact by_102 ih hm hb hok hD
end Go.Proofs.YtiifagiebikmdaaGreatDoor
