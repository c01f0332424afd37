import Derived.Test.YtiifagiebikmdaaGreatDoorAG35
namespace Go.Proofs.YtiifagiebikmdaaGreatDoor
open Go.RowKit
set_option maxHeartbeats 8000000 in
set_option maxRecDepth 100000 in
theorem wr_map {m:Nat}(ih:WrOK m){ks:List ByteArray}{ds:List DT}{la:Option Addr}{lc:Nat}{Y:Nat→Value}{w:World}{P:Nat→Prop}{B:Nat}{u:Value}{b:ByteArray}(hm:ndTs ds≤m) (hP:∀ g,P g→g<B) (hB:B≤w.heap.size) (hu:BufV w B u b) (hs:b.size+8022*(1+ndTs ds)≤90000000) (hk:∀ k∈ks,k.size≤4000)
 (ho:w.ownsRow 0 160 2 (.slice la ds.length lc) ds.length ((List.range ds.length).flatMap fun i=>[.string (ks.getD i noB),Y i])) (hl:∀ g,(Value.slice la ds.length lc).ownBlock=some g→P g) (hd:∀ i d,ds[i]?=some d→DatV w P d (Y i)) :
 Calls Tryz.prog 56 #[u,.iface 158 (.slice la ds.length lc)] w (APost w B (b++byT (.mk 123 0 noB ks ds))):=by
 obtain⟨POST,hPOST⟩:∃ Q,Hid (Q=APost w B (b++byT (.mk 123 0 noB ks ds))):=⟨_,rfl⟩
 rw[← hPOST.out]
 have hby:byT (.mk 123 0 noB ks ds)=wholeB ds.length++byTs true ks ds:=by
  conv=>lhs;unfold byT
  rw[if_neg (by decide),if_neg (by decide),if_neg (by decide),if_neg (by decide),if_neg (by decide),if_pos (by decide)]
  try rfl
 have hnl:=ndTs_len ds
 have a0:=dTruth_no 158 (by decide)
 have a1:=dNumber_no 158 (by decide)
 have a2:=dText_no 158 (by decide)
 have a3:=dList_no 158 (by decide)
 have a4:=dMap_yes
 have hC:=hide (appMap ih hm hP hB hu hs hk ho hl hd)
 clear ih hP hu ho hl hd hk
 go_enter Tryz.func56,Tryz.ntmps56
 go_wp2_with (go_at_call 88;refine hC.out.mono ?_;rintro e w1 h1;replace h1:=hide h1;obtain⟨v1,rfl,_⟩:=h1.out)
 try go_ret
 rw[hPOST.out,hby]
 exact h1.out
set_option maxHeartbeats 8000000 in
set_option maxRecDepth 100000 in
theorem wr_recd {m:Nat}(ih:WrOK m){ds:List DT}{la:Option Addr}{lc:Nat}{Y:Nat→Value}{w:World}{P:Nat→Prop}{B:Nat}{u:Value}{b:ByteArray}(hm:ndTs ds≤m) (hP:∀ g,P g→g<B) (hB:B≤w.heap.size) (hu:BufV w B u b) (hs:b.size+8022*(1+ndTs ds)≤90000000)
 (ho:w.ownsRow 0 89 1 (.slice la ds.length lc) ds.length ((List.range ds.length).flatMap fun i=>[Y i])) (hl:∀ g,(Value.slice la ds.length lc).ownBlock=some g→P g) (hd:∀ i d,ds[i]?=some d→DatV w P d (Y i)) :
 Calls Tryz.prog 56 #[u,.iface 163 (.slice la ds.length lc)] w (APost w B (b++byT (.mk 114 0 noB [] ds))):=by
 obtain⟨POST,hPOST⟩:∃ Q,Hid (Q=APost w B (b++byT (.mk 114 0 noB [] ds))):=⟨_,rfl⟩
 rw[← hPOST.out]
 have hby:byT (.mk 114 0 noB [] ds)=byTs false [] ds:=by
  conv=>lhs;unfold byT
  rw[if_neg (by decide),if_neg (by decide),if_neg (by decide),if_neg (by decide),if_neg (by decide),if_neg (by decide),noB_app]
  try rfl
 have hnl:=ndTs_len ds
 have a0:=dTruth_no 163 (by decide)
 have a1:=dNumber_no 163 (by decide)
 have a2:=dText_no 163 (by decide)
 have a3:=dList_no 163 (by decide)
 have a4:=dMap_no 163 (by decide)
 have a5:=dBranch_no 163 (by decide)
 have a6:=dRecord_yes
 have hC:=hide (appAll ih hm hP hB hu (by omega) ho hl hd)
 clear ih hP hu ho hl hd
 go_enter Tryz.func56,Tryz.ntmps56
 go_wp2_with (go_at_call 87;refine hC.out.mono ?_;rintro e w1 h1;replace h1:=hide h1;obtain⟨v1,rfl,_⟩:=h1.out)
 try go_ret
 rw[hPOST.out,hby]
 exact h1.out
set_option maxHeartbeats 8000000 in
set_option maxRecDepth 100000 in
theorem wr_list {m:Nat}(ih:WrOK m){ds:List DT}{la:Option Addr}{lc:Nat}{Y:Nat→Value}{w:World}{P:Nat→Prop}{B:Nat}{u:Value}{b:ByteArray}(hm:ndTs ds≤m) (hP:∀ g,P g→g<B) (hB:B≤w.heap.size) (hu:BufV w B u b) (hs:b.size+8022*(1+ndTs ds)≤90000000)
 (ho:w.ownsRow 0 89 1 (.slice la ds.length lc) ds.length ((List.range ds.length).flatMap fun i=>[Y i])) (hl:∀ g,(Value.slice la ds.length lc).ownBlock=some g→P g) (hd:∀ i d,ds[i]?=some d→DatV w P d (Y i)) :
 Calls Tryz.prog 56 #[u,.iface 156 (.slice la ds.length lc)] w (APost w B (b++byT (.mk 91 0 noB [] ds))):=by
 obtain⟨POST,hPOST⟩:∃ Q,Hid (Q=APost w B (b++byT (.mk 91 0 noB [] ds))):=⟨_,rfl⟩
 rw[← hPOST.out]
 have hby:byT (.mk 91 0 noB [] ds)=wholeB ds.length++byTs false [] ds:=by
  conv=>lhs;unfold byT
  rw[if_neg (by decide),if_neg (by decide),if_neg (by decide),if_neg (by decide),if_neg (by decide),if_pos (by decide)]
  try rfl
 have hnl:=ndTs_len ds
 have a0:=dTruth_no 156 (by decide)
 have a1:=dNumber_no 156 (by decide)
 have a2:=dText_no 156 (by decide)
 have a3:=dList_yes
 have hws:=wholeB_size ds.length
 have hC:=hide (appNum (n:=(ds.length:Int)) (by omega) (by omega) hu hB (by omega))
 have hD:∀ W v1,BufV W B v1 (b++wholeB ds.length)→Fr w W (fun g=>u.ownBlock=some g)→Calls Tryz.prog 87 #[v1,.slice la ds.length lc] W (APost w B (b++byT (.mk 91 0 noB [] ds))):=by
  intro W v1 h1 hF
  have hF2:=hF.mono (T:=fun g=>B≤g) (fun g _ e=>(hu.own e).1)
  have hkeep:∀ g,P g→¬ B≤g:=fun g h=>by have:=hP g h;omega
  refine(appAll ih hm hP (by have:=hF.size;omega) h1 (by rw[ByteArray.size_append];omega) (ownsRow_fr ho hF2 (fun g e=>hkeep g (hl g e))) hl (fun i d e=>(hd i d e).fr hF2 hkeep)).mono ?_
  rintro e w2 ⟨v2,rfl,h3,h4⟩
  refine⟨v2,rfl,?_,hF2.trans h4 (fun _ _ f=>f)⟩
  rw[hby,← ByteArray.append_assoc]
  exact h3
 replace hD:=hide hD
 clear ih hP hu ho hl hd
 go_enter Tryz.func56,Tryz.ntmps56
 go_wp2_with (first
  |(go_at_call 85;refine hC.out.mono ?_;rintro e w1 ⟨v1,rfl,h1,hF1,hO1⟩;replace h1:=hide h1;replace hF1:=hide hF1;replace hO1:=hide hO1)
  |(go_at_call 87;refine(hD.out _ _ h1.out hF1.out).mono ?_;rintro e w2 h2;replace h2:=hide h2;obtain⟨v2,rfl,_⟩:=h2.out))
 try go_ret
 rw[hPOST.out]
 exact h2.out
theorem wr_any:∀ m,WrOK m:=by
 intro m
 induction m with
 | zero=>intro d h;obtain⟨_,_,_,_,_⟩:=d;unfold ndT at h;omega
 | succ m ih=>
  intro d hm w P B v u b hv hP hB hu hs
  cases hv with
  | flat h=>
   have hge:1≤ndT d:=by obtain⟨_,_,_,_,_⟩:=d;unfold ndT;omega
   cases h with
   | nothing=>exact wr_nothing hB hu (by omega)
   | truth b=>exact wr_truth hB hu (by omega)
   | num c n hc h0 h1=>exact wr_num hc h0 h1 hB hu (by omega)
   | text tx h=>exact wr_text h hB hu (by omega)
   | bytes tx h=>exact wr_bytes h hB hu (by omega)
   | sym n l h=>exact wr_sym h hB hu (by omega)
  | branch n h hd=>
   unfold ndT at hm hs
   simp only[ndTs,Nat.add_zero] at hm hs
   exact wr_branch ih h (by omega) hd hP hB hu hs
  | row Y hc ho hl hd=>
   unfold ndT at hm hs
   obtain⟨la,lc,rfl⟩:=own_sl ho
   rcases hc with⟨rfl,rfl⟩|⟨rfl,rfl⟩
   ·exact wr_list ih (by omega) hP hB hu hs ho hl hd
   ·exact wr_recd ih (by omega) hP hB hu hs ho hl hd
  | map Y hl hk ho hl2 hd=>
   unfold ndT at hm hs
   obtain⟨la,lc,rfl⟩:=own_sl ho
   exact wr_map ih (by omega) hP hB hu hs hk ho hl2 hd
set_option maxRecDepth 100000 in
theorem conv_buf {w:World}{B:Nat}{v:Value}{b:ByteArray}(h:BufV w B v b):(convert 99 9 v).run Tryz.prog w=.ok (.string b) w:=by
 obtain⟨xs,hxs⟩:∃ xs:List Int,xs=b.data.toList.map fun x=>((x.toNat:Nat):Int):=⟨_,rfl⟩
 have hb:strOfNums xs=b:=by
  apply ByteArray.ext
  unfold strOfNums
  subst hxs
  apply Array.toList_inj.1
  rw[List.map_map]
  show b.data.toList.map _=_
  conv=>rhs;rw[← List.map_id b.data.toList]
  apply List.map_congr_left
  intro x _
  show UInt8.ofNat ((x.toNat:Int).toNat)=x
  rw[Int.toNat_natCast,UInt8.ofNat_toNat]
 have hl:xs.length=b.size:=by subst hxs;rw[List.length_map];rfl
 have h0:=h
 rcases h.2 with⟨rfl,e⟩|⟨g,cap,cur,rfl,_⟩
 ·have:=run_convert_bytes_nil (P:=Tryz.prog) w 99 5 Tryz.underlying99 Tryz.underlying5 0 0 9 Tryz.underlying9
  have hz:b.data.size=0:=e
  have he:b=ByteArray.empty:=ByteArray.ext (Array.eq_empty_of_size_eq_zero hz)
  rw[he]
  exact this
 ·have:=run_convert_bytes_arg (P:=Tryz.prog) w 99 5 Tryz.underlying99 Tryz.underlying5 g 0 b.size cap xs hl (fun i hi=>by
   rw[Nat.zero_add]
   refine own_cell h0 rfl ?_
   unfold Lib.strCells
   subst hxs
   rw[List.getD_eq_getElem?_getD,List.getElem?_map,List.getElem?_map,List.getElem?_eq_getElem (show i<b.data.toList.length from hi)]
   rfl) 9 Tryz.underlying9
  rw[hb] at this
  exact this
set_option maxHeartbeats 8000000 in
set_option maxRecDepth 100000 in
theorem write_any {d:DT}{w:World}{P:Nat→Prop}{v:Value}(hv:DatV w P d v) (hs:8022*ndT d≤90000000) :
 Calls Tryz.prog 31 #[v] w fun e w'=>e=.returned (.string (byT d))∧Fr w w' (fun _=>False):=by
 obtain⟨POST,hPOST⟩:∃ Q,Hid (Q=fun (e:Ending) (w':World)=>e=.returned (.string (byT d))∧Fr w w' (fun _=>False)):=⟨_,rfl⟩
 rw[← hPOST.out]
 obtain⟨T,x,rfl⟩:=hv.iface
 have hC:=hide (wr_any (ndT d) d (Nat.le_refl _) w (fun g=>P g∧g<w.heap.size) w.heap.size _ (.slice none 0 0) noB (hv.mono (fun g h1 h2=>⟨h2,h1⟩)) (fun g h=>h.2) (Nat.le_refl _) (World.ownsRow_nil _ _ _ _) (by show 0+_≤_;omega))
 rw[noB_app] at hC
 go_enter Tryz.func31,Tryz.ntmps31
 go_wp2_with (go_at_call 56;refine hC.out.mono ?_;rintro e w1 ⟨v1,rfl,h1,hF1⟩;have hcv:=conv_buf h1;replace hF1:=hide hF1;replace h1:=hide h1)
 try go_ret
 rw[hPOST.out]
 exact⟨rfl,hF1.out.mono (fun g hg e=>by omega)⟩
end Go.Proofs.YtiifagiebikmdaaGreatDoor
