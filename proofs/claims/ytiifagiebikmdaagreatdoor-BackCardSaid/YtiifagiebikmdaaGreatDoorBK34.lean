import Derived.Test.YtiifagiebikmdaaGreatDoorBK33
import Derived.Test.YtiifagiebikmdaaGreatDoorBK32
namespace Go.Proofs.YtiifagiebikmdaaGreatDoor
open Go.RowKit
theorem dNothing_yes (v:Value) (w:World):(Instr.typeAssert (.iface 188 v) 89 188 true).run Tryz.prog w=.ok (.tuple #[v,.bool true]) w:=by kernel_rfl
theorem dNothing_no (u:TypeId) (h:u≠188) (v:Value) (w:World):(Instr.typeAssert (.iface u v) 89 188 true).run Tryz.prog w=.ok (.tuple #[.agg #[],.bool false]) w:=by
 have e:(Instr.typeAssert (.iface u v) 89 188 true).run Tryz.prog w=(if u=188 then (pure (Value.tuple #[v,.bool true]):Sem Value) else (do pure (Value.tuple #[← zeroValue 188,.bool false]))).run Tryz.prog w:=by kernel_rfl
 have e2:(do pure (Value.tuple #[← zeroValue 188,.bool false]):Sem Value).run Tryz.prog w=.ok (.tuple #[.agg #[],.bool false]) w:=by kernel_rfl
 rw[e,if_neg h]
 exact e2
section
variable {w0 w:World} {env:Nat→Option PB} {m:Nat} {P:Nat→Prop} {B:Nat} {u:Value} {b:ByteArray} {t:PT}
set_option maxHeartbeats 8000000 in
set_option maxRecDepth 100000 in
theorem nr_nothing (hB:B≤w.heap.size) (hu:BufV w B u b) (hs:b.size+8022≤90000000) :
 Calls Tryz.prog 67 #[u,.iface 188 (.agg #[])] w (UPost w B (b++txT env (.mk 110 0 noB [] []) t)):=by
 obtain⟨POST,hPOST⟩:∃ Q,Hid (Q=UPost w B (b++txT env (.mk 110 0 noB [] []) t)):=⟨_,rfl⟩
 rw[← hPOST.out]
 have hby:txT env (.mk 110 0 noB [] []) t=bts [78]:=by
  conv=>lhs;unfold txT
  rw[if_pos rfl]
 have a0:=dNothing_yes
 have A:Fr w (w.alloc (.cells #[] 188)) (fun _=>False):=(Fr.refl w _).alloc _
 have hu2:=hide (BufV.fr hu A (fun _ _ f=>f))
 have hz:=A.size
 replace A:=hide A
 clear hu
 go_enter Tryz.func67,Tryz.ntmps67
 go_wp2_with (at_builtin;refine wp_put rfl _ _ rfl 78 rfl (by decide) hu2.out (by omega) (by omega) (by simp) rfl rfl ?_;intro v5 w5 hb5 hf5)
 try go_ret
 rw[hPOST.out,hby]
 exact⟨_,rfl,hb5,(FrU.of A.out).trans hf5⟩
set_option maxHeartbeats 8000000 in
set_option maxRecDepth 100000 in
theorem nr_truth {c:Bool}(hB:B≤w.heap.size) (hu:BufV w B u b) (hs:b.size+8022≤90000000) :
 Calls Tryz.prog 67 #[u,.iface 164 (.bool c)] w (UPost w B (b++txT env (.mk 116 (if c=true then 1 else 0) noB [] []) t)):=by
 obtain⟨POST,hPOST⟩:∃ Q,Hid (Q=UPost w B (b++txT env (.mk 116 (if c=true then 1 else 0) noB [] []) t)):=⟨_,rfl⟩
 rw[← hPOST.out]
 have hby:txT env (.mk 116 (if c=true then 1 else 0) noB [] []) t=(if c=true then bts [84] else bts [70]):=by
  conv=>lhs;unfold txT
  rw[if_neg (by decide),if_pos rfl]
  cases c <;> rfl
 have a0:=dNothing_no 164 (by decide)
 have a1:=dTruth_yes
 have hC:=hide (nTruth (t:=c) hu hB (by omega))
 clear hu
 go_enter Tryz.func67,Tryz.ntmps67
 go_wp2_with (go_at_call 92;refine hC.out.mono ?_;rintro e w1 h1;replace h1:=hide h1;obtain⟨v1,rfl,_⟩:=h1.out)
 try go_ret
 rw[hPOST.out,hby]
 exact h1.out
set_option maxHeartbeats 8000000 in
set_option maxRecDepth 100000 in
theorem nr_num (hA:AppIntOK w0){c:Nat}{n:Int}(hc:c=105∨c=108) (i0 : -9223372036854775808≤n) (i1:n≤9223372036854775807) (h0:w0.heap.size≤B) (hB:B≤w.heap.size) (hG:SameG w0 w) (hu:BufV w B u b) (hs:b.size+8022≤90000000) :
 Calls Tryz.prog 67 #[u,.iface 166 (.int .i64 n)] w (UPost w B (b++txT env (.mk c n noB [] []) t)):=by
 obtain⟨POST,hPOST⟩:∃ Q,Hid (Q=UPost w B (b++txT env (.mk c n noB [] []) t)):=⟨_,rfl⟩
 rw[← hPOST.out]
 have hby:txT env (.mk c n noB [] []) t=decB n:=by
  conv=>lhs;unfold txT
  rw[if_neg (by omega),if_neg (by omega),if_pos (by omega)]
 have a0:=dNothing_no 166 (by decide)
 have a1:=dTruth_no 166 (by decide)
 have a2:=dNumber_yes
 have hC:=hide (hA w B h0 hB hG u b n i0 i1 hu (by omega))
 clear hu hG hA
 go_enter Tryz.func67,Tryz.ntmps67
 go_wp2_with (go_at_call 93;refine hC.out.mono ?_;rintro e w1 h1;replace h1:=hide h1;obtain⟨v1,rfl,_⟩:=h1.out)
 try go_ret
 rw[hPOST.out,hby]
 exact h1.out
set_option maxHeartbeats 8000000 in
set_option maxRecDepth 100000 in
theorem nr_text {tx:ByteArray}(ht:tx.size≤4000) (hB:B≤w.heap.size) (hu:BufV w B u b) (hs:b.size+8022≤90000000) :
 Calls Tryz.prog 67 #[u,.iface 168 (.string tx)] w (UPost w B (b++txT env (.mk 115 0 tx [] []) t)):=by
 obtain⟨POST,hPOST⟩:∃ Q,Hid (Q=UPost w B (b++txT env (.mk 115 0 tx [] []) t)):=⟨_,rfl⟩
 rw[← hPOST.out]
 have hby:txT env (.mk 115 0 tx [] []) t=bts [34]++(tx++bts [34]):=by
  conv=>lhs;unfold txT
  rw[if_neg (by decide),if_neg (by decide),if_neg (by decide),if_pos rfl]
 have a0:=dNothing_no 168 (by decide)
 have a1:=dTruth_no 168 (by decide)
 have a2:=dNumber_no 168 (by decide)
 have a3:=dText_yes
 have hC:=hide (nMarked (c:=34) (y:=34) rfl (by decide) ht hu hB (by omega))
 clear hu
 go_enter Tryz.func67,Tryz.ntmps67
 go_wp2_with (go_at_call 94;refine hC.out.mono ?_;rintro e w1 h1;replace h1:=hide h1;obtain⟨v1,rfl,_⟩:=h1.out)
 try go_ret
 rw[hPOST.out,hby]
 exact h1.out
set_option maxHeartbeats 8000000 in
set_option maxRecDepth 100000 in
theorem nr_bytes {tx:ByteArray}(ht:tx.size≤4000) (hB:B≤w.heap.size) (hu:BufV w B u b) (hs:b.size+8022≤90000000) :
 Calls Tryz.prog 67 #[u,.iface 174 (.string tx)] w (UPost w B (b++txT env (.mk 102 0 tx [] []) t)):=by
 obtain⟨POST,hPOST⟩:∃ Q,Hid (Q=UPost w B (b++txT env (.mk 102 0 tx [] []) t)):=⟨_,rfl⟩
 rw[← hPOST.out]
 have hby:txT env (.mk 102 0 tx [] []) t=bts [39]++(tx++bts [39]):=by
  conv=>lhs;unfold txT
  rw[if_neg (by decide),if_neg (by decide),if_neg (by decide),if_neg (by decide),if_pos rfl]
 have a0:=dNothing_no 174 (by decide)
 have a1:=dTruth_no 174 (by decide)
 have a2:=dNumber_no 174 (by decide)
 have a3:=dText_no 174 (by decide)
 have a4:=dList_no 174 (by decide)
 have a5:=dMap_no 174 (by decide)
 have a6:=dBranch_no 174 (by decide)
 have a7:=dRecord_no 174 (by decide)
 have a8:=dSymbol_no 174 (by decide)
 have a9:=dBytes_yes
 have hC:=hide (nMarked (c:=39) (y:=39) rfl (by decide) ht hu hB (by omega))
 clear hu
 go_enter Tryz.func67,Tryz.ntmps67
 go_wp2_with (go_at_call 94;refine hC.out.mono ?_;rintro e w1 h1;replace h1:=hide h1;obtain⟨v1,rfl,_⟩:=h1.out)
 try go_ret
 rw[hPOST.out,hby]
 exact h1.out
set_option maxHeartbeats 8000000 in
set_option maxRecDepth 100000 in
theorem nr_sym {n l:Nat}(hl:symL env t n=l) (hl2:l<256) (hB:B≤w.heap.size) (hu:BufV w B u b) (hs:b.size+8022≤90000000) :
 Calls Tryz.prog 67 #[u,.iface 173 (.agg #[.int .u8 (l:Int),.int .i64 (n:Int)])] w (UPost w B (b++txT env (.mk 101 (n:Int) noB [] []) t)):=by
 obtain⟨POST,hPOST⟩:∃ Q,Hid (Q=UPost w B (b++txT env (.mk 101 (n:Int) noB [] []) t)):=⟨_,rfl⟩
 rw[← hPOST.out]
 have hby:txT env (.mk 101 (n:Int) noB [] []) t=bts [l]:=by
  conv=>lhs;unfold txT
  rw[if_neg (by decide),if_neg (by decide),if_neg (by decide),if_neg (by decide),if_neg (by decide),if_pos rfl,Int.toNat_natCast,hl]
 have a0:=dNothing_no 173 (by decide)
 have a1:=dTruth_no 173 (by decide)
 have a2:=dNumber_no 173 (by decide)
 have a3:=dText_no 173 (by decide)
 have a4:=dList_no 173 (by decide)
 have a5:=dMap_no 173 (by decide)
 have a6:=dBranch_no 173 (by decide)
 have a7:=dRecord_no 173 (by decide)
 have a8:=dSymbol_yes
 have A:Fr w (w.alloc (.cells #[.int .u8 (l:Int),.int .i64 (n:Int)] 173)) (fun _=>False):=(Fr.refl w _).alloc _
 have hu2:=hide (BufV.fr hu A (fun _ _ f=>f))
 have hz:=A.size
 replace A:=hide A
 clear hu hl
 go_enter Tryz.func67,Tryz.ntmps67
 go_wp2_with (at_builtin;refine wp_put rfl _ _ rfl l rfl hl2 hu2.out (by omega) (by omega) (by simp) rfl rfl ?_;intro v5 w5 hb5 hf5)
 try go_ret
 rw[hPOST.out,hby]
 exact⟨_,rfl,hb5,(FrU.of A.out).trans hf5⟩
set_option maxHeartbeats 8000000 in
set_option maxRecDepth 100000 in
theorem nr_list (ih:NrOK w0 env m){ds:List DT}{la:Option Addr}{lc:Nat}{Y:Nat→Value}(hm:ndTs ds≤m) (hP:∀ g,P g→g<B) (h0:w0.heap.size≤B) (hB:B≤w.heap.size) (hG:SameG w0 w) (hu:BufV w B u b) (hs:b.size+8022*(1+ndTs ds)≤90000000) (ho:w.ownsRow 0 89 1 (.slice la ds.length lc) ds.length ((List.range ds.length).flatMap fun i=>[Y i])) (hl:∀ g,(Value.slice la ds.length lc).ownBlock=some g→P g) (hd:∀ i d,ds[i]?=some d→DaV env w P d (subTy env t 0 i) (Y i)) :
 Calls Tryz.prog 67 #[u,.iface 156 (.slice la ds.length lc)] w (UPost w B (b++txT env (.mk 91 0 noB [] ds) t)):=by
 obtain⟨POST,hPOST⟩:∃ Q,Hid (Q=UPost w B (b++txT env (.mk 91 0 noB [] ds) t)):=⟨_,rfl⟩
 rw[← hPOST.out]
 have hby:txT env (.mk 91 0 noB [] ds) t=bts [91]++(jn 0 (txTs env t 0 0 false [] ds)++bts [93]):=by
  conv=>lhs;unfold txT
  rw[if_neg (by decide),if_neg (by decide),if_neg (by decide),if_neg (by decide),if_neg (by decide),if_neg (by decide),if_neg (by decide)]
  rfl
 have a0:=dNothing_no 156 (by decide)
 have a1:=dTruth_no 156 (by decide)
 have a2:=dNumber_no 156 (by decide)
 have a3:=dText_no 156 (by decide)
 have a4:=dList_yes
 have hC:=hide (nAll ih (t:=t) (o:=91) (c:=93) (y:=91) (z:=93) rfl rfl (by decide) (by decide) hm hP h0 hB hG hu hs ho hl hd)
 clear ih hP hu ho hl hd hG
 go_enter Tryz.func67,Tryz.ntmps67
 go_wp2_with (go_at_call 95;refine hC.out.mono ?_;rintro e w1 h1;replace h1:=hide h1;obtain⟨v1,rfl,_⟩:=h1.out)
 try go_ret
 rw[hPOST.out,hby]
 exact h1.out
set_option maxHeartbeats 8000000 in
set_option maxRecDepth 100000 in
theorem nr_recd (ih:NrOK w0 env m){ds:List DT}{la:Option Addr}{lc:Nat}{Y:Nat→Value}(hm:ndTs ds≤m) (hP:∀ g,P g→g<B) (h0:w0.heap.size≤B) (hB:B≤w.heap.size) (hG:SameG w0 w) (hu:BufV w B u b) (hs:b.size+8022*(1+ndTs ds)≤90000000) (ho:w.ownsRow 0 89 1 (.slice la ds.length lc) ds.length ((List.range ds.length).flatMap fun i=>[Y i])) (hl:∀ g,(Value.slice la ds.length lc).ownBlock=some g→P g) (hd:∀ i d,ds[i]?=some d→DaV env w P d (subTy env t 0 i) (Y i)) :
 Calls Tryz.prog 67 #[u,.iface 163 (.slice la ds.length lc)] w (UPost w B (b++txT env (.mk 114 0 noB [] ds) t)):=by
 obtain⟨POST,hPOST⟩:∃ Q,Hid (Q=UPost w B (b++txT env (.mk 114 0 noB [] ds) t)):=⟨_,rfl⟩
 rw[← hPOST.out]
 have hby:txT env (.mk 114 0 noB [] ds) t=bts [40]++(jn 0 (txTs env t 0 0 false [] ds)++bts [41]):=by
  conv=>lhs;unfold txT
  rw[if_neg (by decide),if_neg (by decide),if_neg (by decide),if_neg (by decide),if_neg (by decide),if_neg (by decide),if_neg (by decide)]
  rfl
 have a0:=dNothing_no 163 (by decide)
 have a1:=dTruth_no 163 (by decide)
 have a2:=dNumber_no 163 (by decide)
 have a3:=dText_no 163 (by decide)
 have a4:=dList_no 163 (by decide)
 have a5:=dMap_no 163 (by decide)
 have a6:=dBranch_no 163 (by decide)
 have a7:=dRecord_yes
 have hC:=hide (nAll ih (t:=t) (o:=40) (c:=41) (y:=40) (z:=41) rfl rfl (by decide) (by decide) hm hP h0 hB hG hu hs ho hl hd)
 clear ih hP hu ho hl hd hG
 go_enter Tryz.func67,Tryz.ntmps67
 go_wp2_with (go_at_call 95;refine hC.out.mono ?_;rintro e w1 h1;replace h1:=hide h1;obtain⟨v1,rfl,_⟩:=h1.out)
 try go_ret
 rw[hPOST.out,hby]
 exact h1.out
set_option maxHeartbeats 8000000 in
set_option maxRecDepth 100000 in
theorem nr_map (ih:NrOK w0 env m){ks:List ByteArray}{ds:List DT}{la:Option Addr}{lc:Nat}{Y:Nat→Value}(hm:ndTs ds≤m) (hP:∀ g,P g→g<B) (h0:w0.heap.size≤B) (hB:B≤w.heap.size) (hG:SameG w0 w) (hu:BufV w B u b) (hs:b.size+8022*(1+ndTs ds)≤90000000) (hk:∀ k∈ks,k.size≤4000) (ho:w.ownsRow 0 160 2 (.slice la ds.length lc) ds.length ((List.range ds.length).flatMap fun i=>[.string (ks.getD i noB),Y i])) (hl:∀ g,(Value.slice la ds.length lc).ownBlock=some g→P g) (hd:∀ i d,ds[i]?=some d→DaV env w P d (subTy env t 0 i) (Y i)) :
 Calls Tryz.prog 67 #[u,.iface 158 (.slice la ds.length lc)] w (UPost w B (b++txT env (.mk 123 0 noB ks ds) t)):=by
 obtain⟨POST,hPOST⟩:∃ Q,Hid (Q=UPost w B (b++txT env (.mk 123 0 noB ks ds) t)):=⟨_,rfl⟩
 rw[← hPOST.out]
 have hby:txT env (.mk 123 0 noB ks ds) t=bts [123]++(jn 0 (txTs env t 0 0 true ks ds)++bts [125]):=by
  conv=>lhs;unfold txT
  rw[if_neg (by decide),if_neg (by decide),if_neg (by decide),if_neg (by decide),if_neg (by decide),if_neg (by decide),if_neg (by decide)]
  rfl
 have a0:=dNothing_no 158 (by decide)
 have a1:=dTruth_no 158 (by decide)
 have a2:=dNumber_no 158 (by decide)
 have a3:=dText_no 158 (by decide)
 have a4:=dList_no 158 (by decide)
 have a5:=dMap_yes
 have hC:=hide (nMap ih (t:=t) hm hP h0 hB hG hu hs hk ho hl hd)
 clear ih hP hu ho hl hd hG hk
 go_enter Tryz.func67,Tryz.ntmps67
 go_wp2_with (go_at_call 96;refine hC.out.mono ?_;rintro e w1 h1;replace h1:=hide h1;obtain⟨v1,rfl,_⟩:=h1.out)
 try go_ret
 rw[hPOST.out,hby]
 exact h1.out
set_option maxHeartbeats 8000000 in
set_option maxRecDepth 100000 in
theorem nr_branch (ih:NrOK w0 env m) (hA:AppIntOK w0){n:Nat}(hn:n≤4000){d:DT}{v:Value}(hm:ndT d≤m) (hv:DaV env w P d (subTy env t n 0) v) (hP:∀ g,P g→g<B) (h0:w0.heap.size≤B) (hB:B≤w.heap.size) (hG:SameG w0 w) (hu:BufV w B u b) (hs:b.size+8022*(1+ndT d)≤90000000) :
 Calls Tryz.prog 67 #[u,.iface 162 (.agg #[.int .i64 (n:Int),v])] w (UPost w B (b++txT env (.mk 40 (n:Int) noB [] [d]) t)):=by
 obtain⟨POST,hPOST⟩:∃ Q,Hid (Q=UPost w B (b++txT env (.mk 40 (n:Int) noB [] [d]) t)):=⟨_,rfl⟩
 rw[← hPOST.out]
 have hby:True:=trivial
 obtain⟨T,x,rfl⟩:=hv.iface
 have a0:=dNothing_no 162 (by decide)
 have a1:=dTruth_no 162 (by decide)
 have a2:=dNumber_no 162 (by decide)
 have a3:=dText_no 162 (by decide)
 have a4:=dList_no 162 (by decide)
 have a5:=dMap_no 162 (by decide)
 have a6:=dBranch_yes
 have A:Fr w (w.alloc (.cells #[.int .i64 (n:Int),.iface T x] 162)) (fun _=>False):=(Fr.refl w _).alloc _
 have hz:=A.size
 have hC:=hide (nBranch ih hA hn hm (hv.fr A (fun _ _ f=>f)) hP h0 (by omega) (hG.fr A (by omega) (fun g f=>f.elim)) (BufV.fr hu A (fun _ _ f=>f)) hs)
 replace A:=hide A
 clear ih hP hu hG hA hv hby
 go_enter Tryz.func67,Tryz.ntmps67
 go_wp2_with (go_at_call 97;refine hC.out.mono ?_;rintro e w1 h1;replace h1:=hide h1;obtain⟨v1,rfl,_⟩:=h1.out)
 try go_ret
 rw[hPOST.out]
 exact h1.out.pre (FrU.of A.out)
theorem nr_any (hA:AppIntOK w0):∀ m,NrOK w0 env m:=by
 intro m
 induction m with
 | zero=>intro d h;obtain⟨_,_,_,_,_⟩:=d;unfold ndT at h;omega
 | succ m ih=>
  intro d hm w P B t v u b hv hP h0 hB hG hu hs
  cases hv with
  | flat h hsy=>
   have hge:1≤ndT d:=by obtain⟨_,_,_,_,_⟩:=d;unfold ndT;omega
   cases h with
   | nothing=>exact nr_nothing hB hu (by omega)
   | truth b=>exact nr_truth hB hu (by omega)
   | num c n hc i0 i1=>exact nr_num hA hc i0 i1 h0 hB hG hu (by omega)
   | text tx h=>exact nr_text h hB hu (by omega)
   | bytes tx h=>exact nr_bytes h hB hu (by omega)
   | sym n l h=>exact nr_sym (hsy n l rfl).1 (hsy n l rfl).2 hB hu (by omega)
  | branch n h hd=>
   unfold ndT at hm hs
   simp only[ndTs,Nat.add_zero] at hm hs
   exact nr_branch ih hA h (by omega) hd hP h0 hB hG hu hs
  | row Y hc ho hl hd=>
   unfold ndT at hm hs
   obtain⟨la,lc,rfl⟩:=own_sl ho
   rcases hc with⟨rfl,rfl⟩|⟨rfl,rfl⟩
   ·exact nr_list ih (by omega) hP h0 hB hG hu hs ho hl hd
   ·exact nr_recd ih (by omega) hP h0 hB hG hu hs ho hl hd
  | map Y hl hk ho hl2 hd=>
   unfold ndT at hm hs
   obtain⟨la,lc,rfl⟩:=own_sl ho
   exact nr_map ih (by omega) hP h0 hB hG hu hs hk ho hl2 hd
set_option maxHeartbeats 8000000 in
set_option maxRecDepth 100000 in
theorem nwrite_any (hA:AppIntOK w0){d:DT}{v:Value}(hv:DaV env w P d t v) (hk:w0.heap.size≤w.heap.size) (hG:SameG w0 w) (hs:8022*ndT d≤90000000) :
 Calls Tryz.prog 37 #[v] w fun e w'=>e=.returned (.string (txT env d t))∧Fr w w' (fun _=>False):=by
 obtain⟨POST,hPOST⟩:∃ Q,Hid (Q=fun (e:Ending) (w':World)=>e=.returned (.string (txT env d t))∧Fr w w' (fun _=>False)):=⟨_,rfl⟩
 rw[← hPOST.out]
 obtain⟨T,x,rfl⟩:=hv.iface
 have hC:=nr_any hA (ndT d) d (Nat.le_refl _) w (fun g=>P g∧g<w.heap.size) w.heap.size t _ (.slice none 0 0) noB (hv.mono (fun g h1 h2=>⟨h2,h1⟩)) (fun g h=>h.2) hk (Nat.le_refl _) hG (World.ownsRow_nil _ _ _ _) (by show 0+_≤_;omega)
 rw[noB_app0] at hC
 replace hC:=hide hC
 clear hv hG hA
 go_enter Tryz.func37,Tryz.ntmps37
 go_wp2_with (go_at_call 67;refine hC.out.mono ?_;rintro e w1 ⟨v1,rfl,h1,hF1⟩;have hcv:=conv_buf h1;replace hF1:=hide hF1;replace h1:=hide h1)
 try go_ret
 rw[hPOST.out]
 exact⟨rfl,hF1.out.all.mono (fun g hg e=>by omega)⟩
end
end Go.Proofs.YtiifagiebikmdaaGreatDoor
