import Derived.Test.YtiifagiebikmdaaGreatDoorBK23
import Derived.Test.YtiifagiebikmdaaGreatDoorBK11
namespace Go.Proofs.YtiifagiebikmdaaGreatDoor
open Go.RowKit
theorem dTruth_yes (v:Value) (w:World):(Instr.typeAssert (.iface 164 v) 89 164 true).run Tryz.prog w=.ok (.tuple #[v,.bool true]) w:=by kernel_rfl
theorem dTruth_no (u:TypeId) (h:u≠164) (v:Value) (w:World):(Instr.typeAssert (.iface u v) 89 164 true).run Tryz.prog w=.ok (.tuple #[.bool false,.bool false]) w:=by
 have e:(Instr.typeAssert (.iface u v) 89 164 true).run Tryz.prog w=(if u=164 then (pure (Value.tuple #[v,.bool true]):Sem Value) else (do pure (Value.tuple #[← zeroValue 164,.bool false]))).run Tryz.prog w:=by kernel_rfl
 have e2:(do pure (Value.tuple #[← zeroValue 164,.bool false]):Sem Value).run Tryz.prog w=.ok (.tuple #[.bool false,.bool false]) w:=by kernel_rfl
 rw[e,if_neg h]
 exact e2
theorem dNumber_yes (v:Value) (w:World):(Instr.typeAssert (.iface 166 v) 89 166 true).run Tryz.prog w=.ok (.tuple #[v,.bool true]) w:=by kernel_rfl
theorem dNumber_no (u:TypeId) (h:u≠166) (v:Value) (w:World):(Instr.typeAssert (.iface u v) 89 166 true).run Tryz.prog w=.ok (.tuple #[.int .i64 0,.bool false]) w:=by
 have e:(Instr.typeAssert (.iface u v) 89 166 true).run Tryz.prog w=(if u=166 then (pure (Value.tuple #[v,.bool true]):Sem Value) else (do pure (Value.tuple #[← zeroValue 166,.bool false]))).run Tryz.prog w:=by kernel_rfl
 have e2:(do pure (Value.tuple #[← zeroValue 166,.bool false]):Sem Value).run Tryz.prog w=.ok (.tuple #[.int .i64 0,.bool false]) w:=by kernel_rfl
 rw[e,if_neg h]
 exact e2
theorem dText_yes (v:Value) (w:World):(Instr.typeAssert (.iface 168 v) 89 168 true).run Tryz.prog w=.ok (.tuple #[v,.bool true]) w:=by kernel_rfl
theorem dText_no (u:TypeId) (h:u≠168) (v:Value) (w:World):(Instr.typeAssert (.iface u v) 89 168 true).run Tryz.prog w=.ok (.tuple #[.string ⟨#[]⟩,.bool false]) w:=by
 have e:(Instr.typeAssert (.iface u v) 89 168 true).run Tryz.prog w=(if u=168 then (pure (Value.tuple #[v,.bool true]):Sem Value) else (do pure (Value.tuple #[← zeroValue 168,.bool false]))).run Tryz.prog w:=by kernel_rfl
 have e2:(do pure (Value.tuple #[← zeroValue 168,.bool false]):Sem Value).run Tryz.prog w=.ok (.tuple #[.string ⟨#[]⟩,.bool false]) w:=by kernel_rfl
 rw[e,if_neg h]
 exact e2
theorem dList_yes (v:Value) (w:World):(Instr.typeAssert (.iface 156 v) 89 156 true).run Tryz.prog w=.ok (.tuple #[v,.bool true]) w:=by kernel_rfl
theorem dList_no (u:TypeId) (h:u≠156) (v:Value) (w:World):(Instr.typeAssert (.iface u v) 89 156 true).run Tryz.prog w=.ok (.tuple #[.slice none 0 0,.bool false]) w:=by
 have e:(Instr.typeAssert (.iface u v) 89 156 true).run Tryz.prog w=(if u=156 then (pure (Value.tuple #[v,.bool true]):Sem Value) else (do pure (Value.tuple #[← zeroValue 156,.bool false]))).run Tryz.prog w:=by kernel_rfl
 have e2:(do pure (Value.tuple #[← zeroValue 156,.bool false]):Sem Value).run Tryz.prog w=.ok (.tuple #[.slice none 0 0,.bool false]) w:=by kernel_rfl
 rw[e,if_neg h]
 exact e2
theorem dMap_yes (v:Value) (w:World):(Instr.typeAssert (.iface 158 v) 89 158 true).run Tryz.prog w=.ok (.tuple #[v,.bool true]) w:=by kernel_rfl
theorem dMap_no (u:TypeId) (h:u≠158) (v:Value) (w:World):(Instr.typeAssert (.iface u v) 89 158 true).run Tryz.prog w=.ok (.tuple #[.slice none 0 0,.bool false]) w:=by
 have e:(Instr.typeAssert (.iface u v) 89 158 true).run Tryz.prog w=(if u=158 then (pure (Value.tuple #[v,.bool true]):Sem Value) else (do pure (Value.tuple #[← zeroValue 158,.bool false]))).run Tryz.prog w:=by kernel_rfl
 have e2:(do pure (Value.tuple #[← zeroValue 158,.bool false]):Sem Value).run Tryz.prog w=.ok (.tuple #[.slice none 0 0,.bool false]) w:=by kernel_rfl
 rw[e,if_neg h]
 exact e2
theorem dBranch_yes (v:Value) (w:World):(Instr.typeAssert (.iface 162 v) 89 162 true).run Tryz.prog w=.ok (.tuple #[v,.bool true]) w:=by kernel_rfl
theorem dBranch_no (u:TypeId) (h:u≠162) (v:Value) (w:World):(Instr.typeAssert (.iface u v) 89 162 true).run Tryz.prog w=.ok (.tuple #[.agg #[.int .i64 0,.nilIface],.bool false]) w:=by
 have e:(Instr.typeAssert (.iface u v) 89 162 true).run Tryz.prog w=(if u=162 then (pure (Value.tuple #[v,.bool true]):Sem Value) else (do pure (Value.tuple #[← zeroValue 162,.bool false]))).run Tryz.prog w:=by kernel_rfl
 have e2:(do pure (Value.tuple #[← zeroValue 162,.bool false]):Sem Value).run Tryz.prog w=.ok (.tuple #[.agg #[.int .i64 0,.nilIface],.bool false]) w:=by kernel_rfl
 rw[e,if_neg h]
 exact e2
theorem dRecord_yes (v:Value) (w:World):(Instr.typeAssert (.iface 163 v) 89 163 true).run Tryz.prog w=.ok (.tuple #[v,.bool true]) w:=by kernel_rfl
theorem dRecord_no (u:TypeId) (h:u≠163) (v:Value) (w:World):(Instr.typeAssert (.iface u v) 89 163 true).run Tryz.prog w=.ok (.tuple #[.slice none 0 0,.bool false]) w:=by
 have e:(Instr.typeAssert (.iface u v) 89 163 true).run Tryz.prog w=(if u=163 then (pure (Value.tuple #[v,.bool true]):Sem Value) else (do pure (Value.tuple #[← zeroValue 163,.bool false]))).run Tryz.prog w:=by kernel_rfl
 have e2:(do pure (Value.tuple #[← zeroValue 163,.bool false]):Sem Value).run Tryz.prog w=.ok (.tuple #[.slice none 0 0,.bool false]) w:=by kernel_rfl
 rw[e,if_neg h]
 exact e2
theorem dSymbol_yes (v:Value) (w:World):(Instr.typeAssert (.iface 173 v) 89 173 true).run Tryz.prog w=.ok (.tuple #[v,.bool true]) w:=by kernel_rfl
theorem dSymbol_no (u:TypeId) (h:u≠173) (v:Value) (w:World):(Instr.typeAssert (.iface u v) 89 173 true).run Tryz.prog w=.ok (.tuple #[.agg #[.int .u8 0,.int .i64 0],.bool false]) w:=by
 have e:(Instr.typeAssert (.iface u v) 89 173 true).run Tryz.prog w=(if u=173 then (pure (Value.tuple #[v,.bool true]):Sem Value) else (do pure (Value.tuple #[← zeroValue 173,.bool false]))).run Tryz.prog w:=by kernel_rfl
 have e2:(do pure (Value.tuple #[← zeroValue 173,.bool false]):Sem Value).run Tryz.prog w=.ok (.tuple #[.agg #[.int .u8 0,.int .i64 0],.bool false]) w:=by kernel_rfl
 rw[e,if_neg h]
 exact e2
theorem dBytes_yes (v:Value) (w:World):(Instr.typeAssert (.iface 174 v) 89 174 true).run Tryz.prog w=.ok (.tuple #[v,.bool true]) w:=by kernel_rfl
theorem dBytes_no (u:TypeId) (h:u≠174) (v:Value) (w:World):(Instr.typeAssert (.iface u v) 89 174 true).run Tryz.prog w=.ok (.tuple #[.string ⟨#[]⟩,.bool false]) w:=by
 have e:(Instr.typeAssert (.iface u v) 89 174 true).run Tryz.prog w=(if u=174 then (pure (Value.tuple #[v,.bool true]):Sem Value) else (do pure (Value.tuple #[← zeroValue 174,.bool false]))).run Tryz.prog w:=by kernel_rfl
 have e2:(do pure (Value.tuple #[← zeroValue 174,.bool false]):Sem Value).run Tryz.prog w=.ok (.tuple #[.string ⟨#[]⟩,.bool false]) w:=by kernel_rfl
 rw[e,if_neg h]
 exact e2
open Go.RowKit
def NdOK (m:Nat):Prop:=∀ (d:DT),ndT d≤m→ndT d≤100000→∀ (w:World) (P:Nat→Prop) (v:Value),DatV w P d v→
 Calls Tryz.prog 55 #[v] w fun e w'=>e=.returned (.int .i64 (ndT d:Int))∧Fr w w' (fun _=>False)
theorem row_item {w:World}{n g c:Nat}{Y:Nat→Value}(ho:w.ownsRow 0 89 1 (.slice (some ⟨g,0,none⟩) n c) n ((List.range n).flatMap fun i=>[Y i])){q:Nat}(hq:q<n):w.cell? ⟨g,q,none⟩=some (Y q):=
 own_cell ho rfl (by have:=flatMap_get n (fun i=>[Y i]) (m:=1) (fun _ _=>rfl) q 0 hq (by decide);simpa using this)
theorem map_item {w:World}{n g c:Nat}{K:Nat→ByteArray}{Y:Nat→Value}(ho:w.ownsRow 0 160 2 (.slice (some ⟨g,0,none⟩) n c) n ((List.range n).flatMap fun i=>[.string (K i),Y i])){q:Nat}(hq:q<n):w.cell? ⟨g,q*2,none⟩=some (.string (K q))∧w.cell? ⟨g,q*2+1,none⟩=some (Y q):=by
 have h:=flatMap_get n (fun i=>[.string (K i),Y i]) (m:=2) (fun _ _=>rfl) q
 exact⟨own_cell ho rfl (by have:=h 0 hq (by decide);simpa using this),own_cell ho rfl (by have:=h 1 hq (by decide);simpa using this)⟩
set_option maxHeartbeats 4000000 in
set_option maxRecDepth 100000 in
theorem nd_flat {d:DT}{T:TypeId}{x:Value}(hT:T≠156∧T≠158∧T≠162∧T≠163) (hd:ndT d=1) (w:World) :
 Calls Tryz.prog 55 #[.iface T x] w fun e w'=>e=.returned (.int .i64 (ndT d:Int))∧Fr w w' (fun _=>False):=by
 obtain⟨POST,hPOST⟩:∃ Q,Hid (Q=fun (e:Ending) (w':World)=>e=.returned (.int .i64 (ndT d:Int))∧Fr w w' (fun _=>False)):=⟨_,rfl⟩
 rw[← hPOST.out]
 have a0:=dList_no T hT.1
 have a1:=dMap_no T hT.2.1
 have a2:=dBranch_no T hT.2.2.1
 have a3:=dRecord_no T hT.2.2.2
 replace hd:=hide hd
 clear hT
 go_enter Tryz.func55,Tryz.ntmps55
 go_wp2_with fail
 try go_ret
 rw[hPOST.out,hd.out]
 exact⟨rfl,Fr.refl _ _⟩
set_option maxHeartbeats 4000000 in
set_option maxRecDepth 100000 in
theorem nd_branch {m:Nat}(ih:NdOK m){n:Nat}{d:DT}{v:Value}{w:World}{P:Nat→Prop}(hm:ndT d≤m) (hb:ndT d≤100000) (hv:DatV w P d v) :
 Calls Tryz.prog 55 #[.iface 162 (.agg #[.int .i64 (n:Int),v])] w fun e w'=>e=.returned (.int .i64 (ndT (.mk 40 (n:Int) noB [] [d]):Int))∧Fr w w' (fun _=>False):=by
 obtain⟨POST,hPOST⟩:∃ Q,Hid (Q=fun (e:Ending) (w':World)=>e=.returned (.int .i64 (ndT (.mk 40 (n:Int) noB [] [d]):Int))∧Fr w w' (fun _=>False)):=⟨_,rfl⟩
 rw[← hPOST.out]
 obtain⟨T,x,rfl⟩:=hv.iface
 have hnd:=hide (show ndT (.mk 40 (n:Int) noB [] [d])=1+ndT d by simp only[ndT,ndTs,Nat.add_zero])
 have A:Fr w (w.alloc (.cells #[.int .i64 (n:Int),.iface T x] 162)) (fun _=>False):=(Fr.refl w _).alloc _
 have hC:=hide (ih d hm hb _ P _ (hv.fr A (fun _ _ f=>f)))
 have a0:=dList_no 162 (by decide)
 have a1:=dMap_no 162 (by decide)
 have a2:=dBranch_yes
 obtain⟨D,hD⟩:∃ D,ndT d=D:=⟨_,rfl⟩
 rw[hD] at hC hnd hb
 replace hD:=hide hD
 replace A:=hide A
 clear hv ih hm
 go_enter Tryz.func55,Tryz.ntmps55
 go_wp2_with (go_at_call 55;refine hC.out.mono ?_;rintro e w2 ⟨rfl,hf2⟩;replace hf2:=hide hf2)
 try go_ret
 rw[hPOST.out,hnd.out]
 exact⟨by simp,A.out.trans hf2.out (fun _ _ f=>f)⟩
set_option maxHeartbeats 4000000 in
set_option maxRecDepth 100000 in
theorem nd_list {m:Nat}(ih:NdOK m){ds:List DT}{la:Option Addr}{lc:Nat}{Y:Nat→Value}{w:World}{P:Nat→Prop}(hm:1+ndTs ds≤m+1) (hb:1+ndTs ds≤100000) (ho:w.ownsRow 0 89 1 (.slice la ds.length lc) ds.length ((List.range ds.length).flatMap fun i=>[Y i])) (hd:∀ i d,ds[i]?=some d→DatV w P d (Y i)) :
 Calls Tryz.prog 55 #[.iface 156 (.slice la ds.length lc)] w fun e w'=>e=.returned (.int .i64 (ndT (.mk 91 0 noB [] ds):Int))∧Fr w w' (fun _=>False):=by
 obtain⟨POST,hPOST⟩:∃ Q,Hid (Q=fun (e:Ending) (w':World)=>e=.returned (.int .i64 (ndT (.mk 91 0 noB [] ds):Int))∧Fr w w' (fun _=>False)):=⟨_,rfl⟩
 rw[← hPOST.out]
 have hnd:=hide (show ndT (.mk 91 0 noB [] ds)=1+ndTs ds by unfold ndT;rfl)
 have a0:=dList_yes
 have start:Hid (∃ q:Nat,Value.int .i64 1=.int .i64 ((1+ndTs (ds.take q):Nat):Int)∧Value.int .i64 0=.int .i64 (q:Int)∧q≤ds.length∧ds.length+1-q≤ds.length+1∧Fr w w (fun _=>False)):=hide ⟨0,by simp[ndTs],rfl,Nat.zero_le _,by omega,Fr.refl _ _⟩
 replace ho:=hide ho
 replace hd:=hide hd
 go_enter Tryz.func55,Tryz.ntmps55
 go_wp2_with fail
 go_loopg [3,6,20] (ds.length+1) (fun m v3 v6 v W=>∃ q:Nat,v3=.int .i64 ((1+ndTs (ds.take q):Nat):Int)∧v=.int .i64 (q:Int)∧q≤ds.length∧ds.length+1-q≤m∧Fr w W (fun _=>False))
 case atStart=>exact start.out
 case round=>
  clear start
  obtain⟨q,rfl,rfl,hq,hmq,hFw⟩:=hrel
  by_cases hlt:q<ds.length
  ·have hlt':(q:Int)<(ds.length:Int):=by omega
   have hdq:ds[q]?=some ds[q]:=List.getElem?_eq_getElem hlt
   generalize ds[q]=d at hdq
   obtain⟨t1,t2⟩:=ndTs_take hdq
   obtain⟨g,cap,hgc⟩:=own_form ho.out (by omega)
   cases hgc
   have hv:=hd.out q d hdq
   obtain⟨T,x,hx⟩:=hv.iface
   rw[hx] at hv
   have e0:wr.cell? ⟨g,q,none⟩=some (.iface T x):=by
    rw[← hx]
    exact row_item (ownsRow_fr ho.out hFw (fun _ _ f=>f)) hlt
   have hC:=hide (ih d (by omega) (by omega) wr P _ (hv.fr hFw (fun _ _ f=>f)))
   have hq5:q≤100000:=by have:=ndTs_len ds;omega
   obtain⟨S,hS⟩:∃ S,ndTs (ds.take q)=S:=⟨_,rfl⟩
   obtain⟨D,hDn⟩:∃ D,ndT d=D:=⟨_,rfl⟩
   rw[hS] at t1 t2
   rw[hDn] at t1 t2 hC
   rw[hS]
   replace t1:=hide t1
   replace hS:=hide hS
   replace hDn:=hide hDn
   replace hFw:=hide hFw
   replace hdq:=hide hdq
   replace hv:=hide hv
   clear hx
   go_wp2_with (go_at_call 55;refine hC.out.mono ?_;rintro e w2 ⟨rfl,hf2⟩;replace hf2:=hide hf2)
   go_roundg (ds.length+1-(q+1))
   case measure=>omega
   case rel=>exact⟨q+1,by rw[t1.out];simp;omega,by simp,hlt,Nat.le_refl _,hFw.out.trans hf2.out (fun _ _ f=>f)⟩
  ·have hlt':¬ ((q:Int)<(ds.length:Int)):=by omega
   rw[List.take_of_length_le (by omega)]
   replace hFw:=hide hFw
   go_wp2_with fail
   try go_ret
   rw[hPOST.out,hnd.out]
   exact⟨rfl,hFw.out⟩
set_option maxHeartbeats 4000000 in
set_option maxRecDepth 100000 in
theorem nd_recd {m:Nat}(ih:NdOK m){ds:List DT}{la:Option Addr}{lc:Nat}{Y:Nat→Value}{w:World}{P:Nat→Prop}(hm:1+ndTs ds≤m+1) (hb:1+ndTs ds≤100000) (ho:w.ownsRow 0 89 1 (.slice la ds.length lc) ds.length ((List.range ds.length).flatMap fun i=>[Y i])) (hd:∀ i d,ds[i]?=some d→DatV w P d (Y i)) :
 Calls Tryz.prog 55 #[.iface 163 (.slice la ds.length lc)] w fun e w'=>e=.returned (.int .i64 (ndT (.mk 114 0 noB [] ds):Int))∧Fr w w' (fun _=>False):=by
 obtain⟨POST,hPOST⟩:∃ Q,Hid (Q=fun (e:Ending) (w':World)=>e=.returned (.int .i64 (ndT (.mk 114 0 noB [] ds):Int))∧Fr w w' (fun _=>False)):=⟨_,rfl⟩
 rw[← hPOST.out]
 have hnd:=hide (show ndT (.mk 114 0 noB [] ds)=1+ndTs ds by unfold ndT;rfl)
 have a0:=dList_no 163 (by decide)
 have a1:=dMap_no 163 (by decide)
 have a2:=dBranch_no 163 (by decide)
 have a3:=dRecord_yes
 have start:Hid (∃ q:Nat,Value.int .i64 1=.int .i64 ((1+ndTs (ds.take q):Nat):Int)∧Value.int .i64 0=.int .i64 (q:Int)∧q≤ds.length∧ds.length+1-q≤ds.length+1∧Fr w w (fun _=>False)):=hide ⟨0,by simp[ndTs],rfl,Nat.zero_le _,by omega,Fr.refl _ _⟩
 replace ho:=hide ho
 replace hd:=hide hd
 go_enter Tryz.func55,Tryz.ntmps55
 go_wp2_with fail
 go_loopg [3,13,57] (ds.length+1) (fun m v3 v6 v W=>∃ q:Nat,v3=.int .i64 ((1+ndTs (ds.take q):Nat):Int)∧v=.int .i64 (q:Int)∧q≤ds.length∧ds.length+1-q≤m∧Fr w W (fun _=>False))
 case atStart=>exact start.out
 case round=>
  clear start
  obtain⟨q,rfl,rfl,hq,hmq,hFw⟩:=hrel
  by_cases hlt:q<ds.length
  ·have hlt':(q:Int)<(ds.length:Int):=by omega
   have hdq:ds[q]?=some ds[q]:=List.getElem?_eq_getElem hlt
   generalize ds[q]=d at hdq
   obtain⟨t1,t2⟩:=ndTs_take hdq
   obtain⟨g,cap,hgc⟩:=own_form ho.out (by omega)
   cases hgc
   have hv:=hd.out q d hdq
   obtain⟨T,x,hx⟩:=hv.iface
   rw[hx] at hv
   have e0:wr.cell? ⟨g,q,none⟩=some (.iface T x):=by
    rw[← hx]
    exact row_item (ownsRow_fr ho.out hFw (fun _ _ f=>f)) hlt
   have hC:=hide (ih d (by omega) (by omega) wr P _ (hv.fr hFw (fun _ _ f=>f)))
   have hq5:q≤100000:=by have:=ndTs_len ds;omega
   obtain⟨S,hS⟩:∃ S,ndTs (ds.take q)=S:=⟨_,rfl⟩
   obtain⟨D,hDn⟩:∃ D,ndT d=D:=⟨_,rfl⟩
   rw[hS] at t1 t2
   rw[hDn] at t1 t2 hC
   rw[hS]
   replace t1:=hide t1
   replace hS:=hide hS
   replace hDn:=hide hDn
   replace hFw:=hide hFw
   replace hdq:=hide hdq
   replace hv:=hide hv
   clear hx
   go_wp2_with (go_at_call 55;refine hC.out.mono ?_;rintro e w2 ⟨rfl,hf2⟩;replace hf2:=hide hf2)
   go_roundg (ds.length+1-(q+1))
   case measure=>omega
   case rel=>exact⟨q+1,by rw[t1.out];simp;omega,by simp,hlt,Nat.le_refl _,hFw.out.trans hf2.out (fun _ _ f=>f)⟩
  ·have hlt':¬ ((q:Int)<(ds.length:Int)):=by omega
   rw[List.take_of_length_le (by omega)]
   replace hFw:=hide hFw
   go_wp2_with fail
   try go_ret
   rw[hPOST.out,hnd.out]
   exact⟨rfl,hFw.out⟩
set_option maxHeartbeats 4000000 in
set_option maxRecDepth 100000 in
theorem nd_map {m:Nat}(ih:NdOK m){ks:List ByteArray}{ds:List DT}{la:Option Addr}{lc:Nat}{K:Nat→ByteArray}{Y:Nat→Value}{w:World}{P:Nat→Prop}(hm:1+ndTs ds≤m+1) (hb:1+ndTs ds≤100000) (ho:w.ownsRow 0 160 2 (.slice la ds.length lc) ds.length ((List.range ds.length).flatMap fun i=>[.string (K i),Y i])) (hd:∀ i d,ds[i]?=some d→DatV w P d (Y i)) :
 Calls Tryz.prog 55 #[.iface 158 (.slice la ds.length lc)] w fun e w'=>e=.returned (.int .i64 (ndT (.mk 123 0 noB ks ds):Int))∧Fr w w' (fun _=>False):=by
 obtain⟨POST,hPOST⟩:∃ Q,Hid (Q=fun (e:Ending) (w':World)=>e=.returned (.int .i64 (ndT (.mk 123 0 noB ks ds):Int))∧Fr w w' (fun _=>False)):=⟨_,rfl⟩
 rw[← hPOST.out]
 have hnd:=hide (show ndT (.mk 123 0 noB ks ds)=1+ndTs ds by unfold ndT;rfl)
 have a0:=dList_no 158 (by decide)
 have a1:=dMap_yes
 have start:Hid (∃ q:Nat,Value.int .i64 1=.int .i64 ((1+ndTs (ds.take q):Nat):Int)∧Value.int .i64 0=.int .i64 (q:Int)∧q≤ds.length∧ds.length+1-q≤ds.length+1∧Fr w w (fun _=>False)):=hide ⟨0,by simp[ndTs],rfl,Nat.zero_le _,by omega,Fr.refl _ _⟩
 replace ho:=hide ho
 replace hd:=hide hd
 go_enter Tryz.func55,Tryz.ntmps55
 go_wp2_with fail
 go_loopg [3,9,34] (ds.length+1) (fun m v3 v6 v W=>∃ q:Nat,v3=.int .i64 ((1+ndTs (ds.take q):Nat):Int)∧v=.int .i64 (q:Int)∧q≤ds.length∧ds.length+1-q≤m∧Fr w W (fun _=>False))
 case atStart=>exact start.out
 case round=>
  clear start
  obtain⟨q,rfl,rfl,hq,hmq,hFw⟩:=hrel
  by_cases hlt:q<ds.length
  ·have hlt':(q:Int)<(ds.length:Int):=by omega
   have hdq:ds[q]?=some ds[q]:=List.getElem?_eq_getElem hlt
   generalize ds[q]=d at hdq
   obtain⟨t1,t2⟩:=ndTs_take hdq
   obtain⟨g,cap,hgc⟩:=own_form ho.out (by omega)
   cases hgc
   have hv:=hd.out q d hdq
   obtain⟨T,x,hx⟩:=hv.iface
   rw[hx] at hv
   obtain⟨m0,m1⟩:=map_item (ownsRow_fr ho.out hFw (fun _ _ f=>f)) hlt
   rw[hx] at m1
   have A:Fr wr (wr.alloc (.cells #[.string (K q),.iface T x] 160)) (fun _=>False):=(Fr.refl wr _).alloc _
   have hC:=hide (ih d (by omega) (by omega) (wr.alloc (.cells #[.string (K q),.iface T x] 160)) P _ ((hv.fr hFw (fun _ _ f=>f)).fr A (fun _ _ f=>f)))
   replace A:=hide A
   have hq5:q≤100000:=by have:=ndTs_len ds;omega
   obtain⟨S,hS⟩:∃ S,ndTs (ds.take q)=S:=⟨_,rfl⟩
   obtain⟨D,hDn⟩:∃ D,ndT d=D:=⟨_,rfl⟩
   rw[hS] at t1 t2
   rw[hDn] at t1 t2 hC
   rw[hS]
   replace t1:=hide t1
   replace hS:=hide hS
   replace hDn:=hide hDn
   replace hFw:=hide hFw
   replace hdq:=hide hdq
   replace hv:=hide hv
   clear hx
   go_wp2_with (go_at_call 55;refine hC.out.mono ?_;rintro e w2 ⟨rfl,hf2⟩;replace hf2:=hide hf2)
   go_roundg (ds.length+1-(q+1))
   case measure=>omega
   case rel=>exact⟨q+1,by rw[t1.out];simp;omega,by simp,hlt,Nat.le_refl _,(hFw.out.trans A.out (fun _ _ f=>f)).trans hf2.out (fun _ _ f=>f)⟩
  ·have hlt':¬ ((q:Int)<(ds.length:Int)):=by omega
   rw[List.take_of_length_le (by omega)]
   replace hFw:=hide hFw
   go_wp2_with fail
   try go_ret
   rw[hPOST.out,hnd.out]
   exact⟨rfl,hFw.out⟩
theorem nodesP_any:∀ m,NdOK m:=by
 intro m
 induction m with
 | zero=>intro d h;obtain⟨_,_,_,_,_⟩:=d;unfold ndT at h;omega
 | succ m ih=>
  intro d hm hb w P v hv
  cases hv with
  | flat h=>
   cases h with
   | nothing=>exact nd_flat (by decide) (by unfold ndT;simp[ndTs]) w
   | truth b=>exact nd_flat (by decide) (by unfold ndT;simp[ndTs]) w
   | num c n hc h0 h1=>exact nd_flat (by decide) (by unfold ndT;simp[ndTs]) w
   | text tx h=>exact nd_flat (by decide) (by unfold ndT;simp[ndTs]) w
   | bytes tx h=>exact nd_flat (by decide) (by unfold ndT;simp[ndTs]) w
   | sym n l h=>exact nd_flat (by decide) (by unfold ndT;simp[ndTs]) w
  | branch n h hd=>
   unfold ndT at hm hb
   simp only[ndTs,Nat.add_zero] at hm hb
   exact nd_branch ih (by omega) (by omega) hd
  | row Y hc ho hP hd=>
   unfold ndT at hm hb
   obtain⟨la,lc,rfl⟩:=own_sl ho
   rcases hc with⟨rfl,rfl⟩|⟨rfl,rfl⟩
   ·exact nd_list ih hm hb ho hd
   ·exact nd_recd ih hm hb ho hd
  | map Y hl hk ho hP hd=>
   unfold ndT at hm hb
   obtain⟨la,lc,rfl⟩:=own_sl ho
   exact nd_map ih (K:=fun i=>_) hm hb ho hd
end Go.Proofs.YtiifagiebikmdaaGreatDoor
