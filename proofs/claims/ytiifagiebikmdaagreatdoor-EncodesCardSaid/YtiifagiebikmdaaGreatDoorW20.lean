import Derived.Test.YtiifagiebikmdaaGreatDoorW17
import Derived.Deep.DeepCutAuto
import Derived.Laws.BitsLemmas
namespace Go.Proofs.YtiifagiebikmdaaGreatDoor
open Go.RowKit
structure BM (w:World) (P:Nat→Prop) (bl:Nat) (s:ByteArray) (bz:Nat) (ts:List TR) (env:Nat→Option PB) (sv:Value) (j:Nat) (bad:Bool) (N:Nat) (W:World):Prop where
 M:DM w P bl s bz false j bad ts env W
 b0:Blk W w.heap.size [.int .u8 40,sv] 77
 b1:Blk W (w.heap.size+1) zeroDat 37
 b2:Blk W (w.heap.size+1+1) (dvals 40 (N:Int) noB (.slice none 0 0) (.slice none 0 0)) 37
section
variable {w W W':World} {P:Nat→Prop} {bl:Nat} {s:ByteArray} {bz:Nat} {ts:List TR} {env:Nat→Option PB} {sv:Value} {j j' d:Nat} {bad bad':Bool} {N:Nat}
theorem BM.call (B:BM w P bl s bz ts env sv j bad N W) (hL:LAt W' bl s bz false j' bad') (hf:Fr W W' (· = bl)) (hj:j'≤s.size):BM w P bl s bz ts env sv j' bad' N W':=by
 have:=B.M.lt
 exact⟨B.M.call hL hf hj,hf.blk B.b0 (by omega),hf.blk B.b1 (by omega),hf.blk B.b2 (by omega)⟩
theorem BM.still (B:BM w P bl s bz ts env sv j bad N W) (h:Still W W'):BM w P bl s bz ts env sv j bad N W':=B.call (B.M.L.still h) ((Fr.refl W _).still h) B.M.jl
theorem BM.inc (B:BM w P bl s bz ts env sv j bad N W) (h:j<s.size):BM w P bl s bz ts env sv (j+1) bad N (W.setCell ⟨bl,1,none⟩ (.int .i64 ((j:Int)+1))):=B.call B.M.L.inc (Fr.one _ _ _) h
theorem BM.spoil (B:BM w P bl s bz ts env sv j bad N W):BM w P bl s bz ts env sv j true N (W.setCell ⟨bl,2,none⟩ (.bool true)):=B.call B.M.L.spoil (Fr.one _ _ _) B.M.jl
theorem BM.yes (B:BM w P bl s bz ts env sv j bad N W) (hE:LEat W bl s bz false j bad d W') (h:lk s j bad=d):BM w P bl s bz ts env sv (j+1) bad N W':=by
 obtain⟨h1,h2⟩:=hE
 rw[if_pos h] at h1
 exact B.call h1.1 h2 h1.2
theorem BM.no (B:BM w P bl s bz ts env sv j bad N W) (hE:LEat W bl s bz false j bad d W') (h:lk s j bad≠d):BM w P bl s bz ts env sv j true N W':=by
 obtain⟨h1,h2⟩:=hE
 rw[if_neg h] at h1
 exact B.call h1 h2 B.M.jl
theorem BM.num (B:BM w P bl s bz ts env sv j bad N W) (K:Nat):BM w P bl s bz ts env sv j bad K (W.setCell ⟨w.heap.size+1+1,1,none⟩ (.int .i64 (K:Int))):=
 ⟨B.M.put ⟨w.heap.size+1+1,1,none⟩ _ (by show w.heap.size≤w.heap.size+1+1;omega),B.b0.other (a:=⟨w.heap.size+1+1,1,none⟩) _ (by show ¬ (w.heap.size=w.heap.size+1+1);omega),B.b1.other (a:=⟨w.heap.size+1+1,1,none⟩) _ (by show ¬ (w.heap.size+1=w.heap.size+1+1);omega),Blk.set B.b2 1 _⟩
theorem BM.start (M:DM w P bl s bz false j bad ts env w) (sv:Value):BM w P bl s bz ts env sv j bad 0 (bw w sv):=⟨bw_M M sv,bw_0 w sv,bw_1 w sv,bw_2 w sv⟩
theorem BM.n (B:BM w P bl s bz ts env sv j bad N W):W.cell? ⟨w.heap.size+1+1,1,none⟩=some (.int .i64 (N:Int)):=by rw[B.b2.cell];rfl
theorem BM.subs (B:BM w P bl s bz ts env sv j bad N W):W.cell? ⟨w.heap.size,1,none⟩=some sv:=by rw[B.b0.cell];rfl
end
set_option maxHeartbeats 8000000 in
set_option maxRecDepth 100000 in
theorem branch_no {w:World}{P:Nat→Prop}{bl:Nat}{s:ByteArray}{bz i:Nat}{ts:List TR}{env:Nat→Option PB}{h0 sn sc:Nat}(M:DM w P bl s bz false i false ts env w) (h60:bt s i≠60) :
 Calls Tryz.prog 64 #[.pointer (some ⟨bl,0,none⟩),.agg #[.int .u8 40,(.slice (some ⟨h0,0,none⟩) sn sc)]] w (DatPost w bl s bz false none):=by
 obtain⟨POST,hPOST⟩:∃ Q,Hid (Q=DatPost w bl s bz false none):=⟨_,rfl⟩
 rw[← hPOST.out]
 have hl1:=M.lt
 have hsl:=M.sl
 have hjl:=M.jl
 have c4:=M.L.c4
 have d4:=fun X Y Z=>cell_alloc3 c4 X Y Z
 have B:=hide (BM.start M (.slice (some ⟨h0,0,none⟩) sn sc))
 have hlk:=hide (show lk s i false≠60 by simpa[lk] using h60)
 have hlt:=hide (show lk s i true=0 by simp[lk])
 clear h60 c4
 replace M:=hide M
 go_enter Tryz.func64,Tryz.ntmps64
 go_wp2_with (go_at_call 59;refine(leat_any 60 B.out.M.L hsl hjl rfl (by decide)).mono ?_;rintro e w1 ⟨rfl,hE⟩;have B1:=hide (B.out.no hE hlk.out);have c1:=B1.out.M.L.c1;clear hE)
 clear d4
 go_loopg [] 1 (fun m W=>BM w P bl s bz ts env (.slice (some ⟨h0,0,none⟩) sn sc) i true 0 W)
 case atStart=>exact B1.out
 case round=>
  clear B1 B c1
  replace hrel:=hide hrel
  go_wp2_with (first
   |(go_at_call 60;refine(lpeek_any hrel.out.M.L hsl hjl).mono ?_;rintro e w2 ⟨rfl,hw2⟩;rw[hlt.out];have B2:=hide (hrel.out.still hw2);have c1:=B2.out.M.L.c1;have f2:=B2.out.M.L.thaw 2;have c2:=B2.out.M.L.c2;have B3:=hide B2.out.spoil;clear hw2)
   |(go_at_call 38;refine(within_any _ _ _ _).mono ?_;rintro e w3 ⟨rfl,rfl⟩)
   |(go_at_call 59;refine(leat_any 58 B3.out.M.L hsl hjl rfl (by decide)).mono ?_;rintro e w4 ⟨rfl,hE⟩;have B4:=hide (B3.out.no hE (by rw[hlt.out];decide));have c24:=B4.out.M.L.c2;have t0:=B4.out.b2.cell 0;have t1:=B4.out.b2.cell 1;have t2:=B4.out.b2.cell 2;have t3:=B4.out.b2.cell 3;have t4:=B4.out.b2.cell 4;have r0:=B4.out.b1.cell 0;have r1:=B4.out.b1.cell 1;have r2:=B4.out.b1.cell 2;have r3:=B4.out.b1.cell 3;have r4:=B4.out.b1.cell 4;have g0:=B4.out.b1.thaw 0;have g1:=B4.out.b1.thaw 1;have g2:=B4.out.b1.thaw 2;have g3:=B4.out.b1.thaw 3;have g4:=B4.out.b1.thaw 4;simp only[zeroDat,dvals,List.getElem?_cons_zero,List.getElem?_cons_succ,Int.cast_ofNat_Int] at t0 t1 t2 t3 t4 r0 r1 r2 r3 r4;clear hE))
  have L5:=Blk.five B4.out.b1 (.int .u8 40) (.int .i64 0) (.string noB) (.slice none 0 0) (.slice none 0 0)
  have q0:=L5.cell 0
  have q1:=L5.cell 1
  have q2:=L5.cell 2
  have q3:=L5.cell 3
  have q4:=L5.cell 4
  simp only[List.getElem?_cons_zero,List.getElem?_cons_succ] at q0 q1 q2 q3 q4
  have hF:=Fr.five w4 (w.heap.size+1) (.int .u8 40) (.int .i64 0) (.string noB) (.slice none 0 0) (.slice none 0 0)
  generalize (((((World.setCell w4 ⟨w.heap.size+1,0,none⟩ (.int .u8 40)).setCell ⟨w.heap.size+1,1,none⟩ (.int .i64 0)).setCell ⟨w.heap.size+1,2,none⟩ (.string noB)).setCell ⟨w.heap.size+1,3,none⟩ (.slice none 0 0)).setCell ⟨w.heap.size+1,4,none⟩ (.slice none 0 0))=W5 at *
  refine bodyPost_ret (v:=.agg (dvals 40 0 noB (.slice none 0 0) (.slice none 0 0)).toArray) (by simp[results,Tryz.results64,go_sem,q0,q1,q2,q3,q4,dvals]) rfl ?_
  rw[hPOST.out]
  exact dat_bad' (w.heap.size+1) (by omega) B4.out.M ⟨_,_,_,rfl⟩ ⟨_,_,_,rfl⟩ hF rfl
theorem brNum_le (s:ByteArray) (i:Nat):∀ n,n≤3→brNum s i n≤22977:=by
 have b:∀ k,bt s k≤255:=fun k=>by
  unfold bt
  split
  ·have:=(s[k]'(by assumption)).toNat_lt;omega
  ·omega
 intro n hn
 have b0:=b (i+0)
 have b1:=b (i+1)
 have b2:=b (i+2)
 match n,hn with
 | 0,_=>simp only[brNum];omega
 | 1,_=>simp only[brNum];omega
 | 2,_=>simp only[brNum];omega
 | 3,_=>simp only[brNum];omega
theorem wrapI (n:Int) (h : -9223372036854775808≤n) (h':n≤9223372036854775807):IntKind.i64.wrap n=n:=by rw[IntKind.wrap_i64];omega
theorem brEnd_at {s:ByteArray}{i k:Nat}(h1:i≤k) (h2:k≤i+3) (h:runEnd 48 57 s i=runEnd 48 57 s k) (hg:¬ ((48≤bt s k∧bt s k≤57)∧k<i+3)):brEnd s i=k:=by
 unfold brEnd
 rw[h]
 by_cases hd:48≤bt s k∧bt s k≤57
 ·have:=(runEnd_ge 48 57 s _ k (Nat.le_refl _)).1
  omega
 ·rw[runEnd_off hd];omega
def brGood (s:ByteArray) (i k N sn:Nat):Bool:=decide (k≠i∧¬ (bt s i=48∧k-i > 1)∧N<sn)
theorem rdBranch_eq {R:PT→Nat→Option (DT×Nat)}{s:ByteArray}{l:List PT}{i k N:Nat}(h60:bt s i=60) (hk:brEnd s (i+1)=k) (hN:brNum s (i+1) (k-(i+1))=N) :
 rdBranch R s false l i=if brGood s (i+1) k N l.length=true∧bt s k=58 then (match l[N]? with|none=>none|some t=>match R t (k+1) with|none=>none|some (d,j)=>if bt s j=62 then some (.mk 40 (N:Int) noB [] [d],j+1) else none) else none:=by
 unfold rdBranch
 rw[if_neg (by decide),hk,hN]
 unfold brGood
 by_cases hg:k≠i+1∧¬ (bt s (i+1)=48∧k-(i+1) > 1)
 ·by_cases h58:bt s k=58
  ·rw[if_pos ⟨h60,hg.1,hg.2,h58⟩]
   by_cases hl:N<l.length
   ·rw[if_pos ⟨decide_eq_true ⟨hg.1,hg.2,hl⟩,h58⟩];try rfl
   ·rw[if_neg (fun h=>hl (of_decide_eq_true h.1).2.2),List.getElem?_eq_none (by omega)]
  ·rw[if_neg (fun h=>h58 h.2.2.2),if_neg (fun h=>h58 h.2)]
 ·rw[if_neg (fun h=>hg ⟨h.2.1,h.2.2.1⟩),if_neg (fun h=>hg ⟨(of_decide_eq_true h.1).1,(of_decide_eq_true h.1).2.1⟩)]
def BrInv (w:World) (P:Nat→Prop) (bl:Nat) (s:ByteArray) (bz:Nat) (ts:List TR) (env:Nat→Option PB) (sv:Value) (i m:Nat) (W:World):Prop:=
 ∃ k,i≤k∧k≤i+3∧k≤s.size∧runEnd 48 57 s i=runEnd 48 57 s k∧i+3-k≤m∧BM w P bl s bz ts env sv k false (brNum s i (k-i)) W
set_option maxHeartbeats 16000000 in
set_option maxRecDepth 100000 in
theorem branch_yes {w:World}{P:Nat→Prop}{bl:Nat}{s:ByteArray}{bz i:Nat}{ts:List TR}{env:Nat→Option PB}{h0 sn sc f:Nat}{l:List PT}{js:List Nat}(M:DM w P bl s bz false i false ts env w) (h60:bt s i=60) (hjs:isTs ts js l)
 (ho:w.ownsRow 0 3 1 (.slice (some ⟨h0,0,none⟩) sn sc) js.length (js.map fun (n:Nat)=>Value.int .i64 (n:Int))) (hP0:P h0) (hW:Within s env false ts f l i) :
 Calls Tryz.prog 64 #[.pointer (some ⟨bl,0,none⟩),.agg #[.int .u8 40,(.slice (some ⟨h0,0,none⟩) sn sc)]] w (DatPost w bl s bz false (rdBranch (rdT s env false f) s false l i)):=by
 obtain⟨POST,hPOST⟩:∃ Q,Hid (Q=DatPost w bl s bz false (rdBranch (rdT s env false f) s false l i)):=⟨_,rfl⟩
 rw[← hPOST.out]
 have hl1:=M.lt
 have hsl:=M.sl
 have hjl:=M.jl
 have hsn:sn=l.length:=by rw[own_n ho,isTs_len hjs]
 have hil:i<s.size:=bt_pos (by omega)
 have c4:=M.L.c4
 have d4:=fun X Y Z=>cell_alloc3 c4 X Y Z
 have B:=hide (BM.start M (.slice (some ⟨h0,0,none⟩) sn sc))
 have hlk:=hide (show lk s i false=60 by simpa[lk] using h60)
 have hat:Hid (∀ (N:Nat) (t:PT),l[N]?=some t→∃ kj:Nat,w.cell? ⟨h0,N,none⟩=some (.int .i64 (kj:Int))∧isT ts kj t):=hide (fun N t ht=>by
  obtain⟨kj,hk1,hk2⟩:=isTs_at hjs N t ht
  exact⟨kj,own_cell ho (g:=h0) (cap:=sc) (by rw[own_n ho]) (by rw[List.getElem?_map,hk1];rfl),hk2⟩)
 clear c4 ho hjs
 replace h60:=hide h60
 replace hsn:=hide hsn
 replace hW:=hide hW
 replace M:=hide M
 obtain⟨i1,hi1⟩:∃ k,i+1=k:=⟨_,rfl⟩
 replace hi1:=hide hi1
 go_enter Tryz.func64,Tryz.ntmps64
 go_wp2_with (go_at_call 59;refine(leat_any 60 B.out.M.L hsl hjl rfl (by decide)).mono ?_;rintro e w1 ⟨rfl,hE⟩;have B1:=hide (hi1.out▸B.out.yes hE hlk.out:BM w P bl s bz ts env (.slice (some ⟨h0,0,none⟩) sn sc) i1 false 0 w1);have c1:=B1.out.M.L.c1;clear hE)
 clear d4
 have start:Hid (BrInv w P bl s bz ts env (.slice (some ⟨h0,0,none⟩) sn sc) i1 3 w1):=hide ⟨i1,Nat.le_refl _,by omega,by have:=hi1.out;omega,rfl,by omega,by have:=B1.out;simpa[brNum] using this⟩
 clear B1 B c1
 go_loopg [] 3 (fun m W=>BrInv w P bl s bz ts env (.slice (some ⟨h0,0,none⟩) sn sc) i1 m W)
 case atStart=>exact start.out
 case round=>
  clear start
  obtain⟨k,hk1,hk2,hk3,hk4,hm,B⟩:=hrel
  have hkl:=hk3
  have hk1':(i1:Int)≤(k:Int):=by omega
  obtain⟨c,hc⟩:∃ c,bt s k=c:=⟨_,rfl⟩
  have hlkk:=hide (show lk s k false=c by simp[lk,hc])
  obtain⟨N,hN⟩:∃ N,brNum s i1 (k-i1)=N:=⟨_,rfl⟩
  have hNle:N≤22977:=by rw[← hN];exact brNum_le s i1 _ (by omega)
  rw[hN] at B
  replace B:=hide B
  by_cases hgo:(48≤c∧c≤57)∧k<i1+3
  ·have hks:k<s.size:=bt_pos (by rw[hc];omega)
   have e1:decide ((48:Int)≤(c:Int))=true:=decide_eq_true (by omega)
   have e2:decide ((c:Int)≤57)=true:=decide_eq_true (by omega)
   have e3:decide ((k:Int)-(i1:Int)<3)=true:=decide_eq_true (by omega)
   have e3':(k:Int)-(i1:Int)<3:=by omega
   have hre:=hide (hk4.trans (runEnd_on hks (by rw[hc];exact hgo.1)))
   have hnx:=hide (show brNum s i1 (k+1-i1)=10*N+(c-48) by
    rw[show k+1-i1=(k-i1)+1 by omega]
    simp only[brNum]
    rw[hN,show i1+(k-i1)=k by omega,hc])
   obtain⟨K,hK⟩:∃ K,K=10*N+(c-48):=⟨_,rfl⟩
   have hKc:=hide (show 10*(N:Int)+(c:Int)-48=(K:Int) by omega)
   have hc5:=hgo.1
   replace hK:=hide hK
   clear hk4
   replace hN:=hide hN
   replace hc:=hide hc
   go_wp2_with (first
    |(go_at_call 60;refine(lpeek_any B.out.M.L hsl hkl).mono ?_;rintro e w2 ⟨rfl,hw2⟩;rw[hlkk.out];have B2:=hide (B.out.still hw2);have c1:=B2.out.M.L.c1;clear hw2)
    |(go_at_call 38;refine(within_any _ _ _ _).mono ?_;rintro e w3 ⟨rfl,rfl⟩))
   clear e1 e2 e3 e3'
   have u1:=B2.out.n
   refine wp_regionC 9 (fun W=>W.cell? ⟨w.heap.size+1+1,1,none⟩=some (.int .i64 (N:Int))) (by kernel_rfl) ?_
   refine wpAnyC_take 0 ?v0 rfl (by kernel_rfl) (fun _ _ _ h=>h) (by rfl) ?y0 ?_
   case y0=>(intro W hW;go_simp <;> rfl)
   refine wpAnyC_take 1 ?v1 rfl (by kernel_rfl) (fun _ _ _ h=>h) (by rfl) ?y1 ?_
   case y1=>(intro W hW;go_simp <;> rfl)
   refine wpAnyC_take 2 ?v2 rfl (by kernel_rfl) (fun _ _ _ h=>h) (by rfl) ?y2 ?_
   case y2=>(intro W hW;go_simp <;> rfl)
   refine wpAnyC_take 3 ?v3 rfl (by kernel_rfl) (fun _ _ _ h=>h) (by rfl) ?y3 ?_
   case y3=>(intro W hW;go_simp <;> rfl)
   refine wpAnyC_one 4 rfl (by kernel_rfl) (fun _=>u1) (fun K0 hK0=>?_)
   go_simp
   refine(lpeek_any (B2.out.still (Still.drew w3)).M.L hsl hkl).mono ?_
   rintro e w4 ⟨rfl,hw4⟩
   rw[hlkk.out]
   refine hK0 _ _ ?_
   clear hK0 K0
   have B4:=B2.out.still ((Still.drew w3).trans hw4)
   have u4:=B4.n
   have f4:=B4.b2.thaw 1
   have B5:=B4.num K
   have c15:=B5.M.L.c1
   have f15:=B5.M.L.thaw 1
   replace B4:=hide B4
   replace B5:=hide B5
   clear hw4 u1
   refine wpAnyC_one 5 rfl (by kernel_rfl) (fun _=>u4) (fun K0 hK0=>?_)
   go_simp
   refine hK0 _ _ ?_
   clear hK0 K0
   refine wpAnyC_one 6 rfl (by kernel_rfl) (fun _=>u4) (fun K0 hK0=>?_)
   go_simp
   refine hK0 _ _ ?_
   clear hK0 K0
   refine wpAnyC_one 7 rfl (by kernel_rfl) (fun _=>u4) (fun K0 hK0=>?_)
   go_simp
   refine hK0 _ _ ?_
   clear hK0 K0
   refine wpAnyC_one 8 rfl (by kernel_rfl) (fun _=>u4) (fun K0 hK0=>?_)
   go_simp
   refine hK0 _ _ ?_
   clear hK0 K0
   refine wpAnyC_one 9 rfl (by kernel_rfl) (fun _=>u4) (fun K0 hK0=>?_)
   go_simp
   refine hK0 _ _ ?_
   clear hK0 K0
   refine wpAnyC_done (by kernel_rfl) (fun hm=>absurd hm (by decide)) ?_ _
   rw[show IntKind.i64.wrap (IntKind.i64.wrap (IntKind.i64.wrap (10*(N:Int))+IntKind.i64.wrap (c:Int))-48)=(K:Int) by
    rw[wrapI (10*(N:Int)) (by omega) (by omega),wrapI (c:Int) (by omega) (by omega),wrapI (10*(N:Int)+(c:Int)) (by omega) (by omega),wrapI _ (by omega) (by omega)]
    exact hKc.out]
   have B6:=hide (B5.out.inc hks)
   clear u4 f4
   go_wp2_with fail
   go_roundg (i1+3-(k+1))
   case measure=>omega
   case rel=>
    refine⟨k+1,by omega,by omega,hks,hre.out,Nat.le_refl _,?_⟩
    rw[hnx.out,← hK.out]
    exact B6.out
  ·have hend:=hide (brEnd_at hk1 hk2 hk4 (by rw[hc];exact hgo))
   have hk1n:=hk1
   go_upto_region 8 with fail
   go_cut [41] (fun v W=>v=.bool false∧BM w P bl s bz ts env (.slice (some ⟨h0,0,none⟩) sn sc) k false N W)
   case first=>
    by_cases hd:48≤c∧c≤57
    ·have e1:decide ((48:Int)≤(c:Int))=true:=decide_eq_true (by omega)
     have e2:decide ((c:Int)≤57)=true:=decide_eq_true (by omega)
     have e3:¬ (k:Int)-(i1:Int)<3:=by omega
     clear hgo hd hk4
     replace hN:=hide hN
     replace hc:=hide hc
     go_wp2_with (first
      |(go_at_call 60;refine(lpeek_any B.out.M.L hsl hkl).mono ?_;rintro e w2 ⟨rfl,hw2⟩;rw[hlkk.out];have B2:=hide (B.out.still hw2);have c1:=B2.out.M.L.c1;clear hw2)
      |(go_at_call 38;refine(within_any _ _ _ _).mono ?_;rintro e w3 ⟨rfl,rfl⟩))
     go_meet
     case rel=>exact⟨by rw[decide_eq_false (by omega)],B2.out⟩
    ·have e1:(decide ((48:Int)≤(c:Int))&&decide ((c:Int)≤57))=false:=by
      rw[Bool.and_eq_false_iff,decide_eq_false_iff_not,decide_eq_false_iff_not];omega
     clear hgo hd hk4
     replace hN:=hide hN
     replace hc:=hide hc
     go_wp2_with (first
      |(go_at_call 60;refine(lpeek_any B.out.M.L hsl hkl).mono ?_;rintro e w2 ⟨rfl,hw2⟩;rw[hlkk.out];have B2:=hide (B.out.still hw2);have c1:=B2.out.M.L.c1;clear hw2)
      |(go_at_call 38;refine(within_any _ _ _ _).mono ?_;rintro e w3 ⟨rfl,rfl⟩;rw[e1]))
     go_meet
     case rel=>exact⟨rfl,B2.out⟩
   case rest=>
    clear B
    obtain⟨rfl,B⟩:=hcut
    clear hgo hk4 hm hk2
    replace hN:=hide hN
    replace hc:=hide hc
    replace B:=hide B
    go_upto_region 11 with fail
    have c0:=B.out.M.L.c0
    have c1:=B.out.M.L.c1
    have un:=B.out.n
    have us:=B.out.subs
    go_cut [89] (fun v W=>v=.bool (!brGood s i1 k N sn)∧W=wc)
    case first=>
     by_cases hki:k=i1
     ·have hg:=hide (show brGood s i1 k N sn=false by unfold brGood;exact decide_eq_false (fun h=>h.1 hki))
      subst hki
      go_wp2_with fail
      go_meet
      case rel=>exact⟨by rw[hg.out];rfl,rfl⟩
     ·have hik:i1<s.size:=by omega
      have e0:((k:Int)==(i1:Int))=false:=beq_eq_false_iff_ne.2 (by omega)
      have e0':(i1:Int)<(s.size:Int):=by omega
      obtain⟨b,hb⟩:∃ b,bt s i1=b:=⟨_,rfl⟩
      have hbk:((s[i1]'hik).toNat:Int)=(b:Int):=by rw[← hb,bt_eq s i1 hik]
      by_cases hN2:N<sn
      ·have e2:¬ (N:Int)≥(sn:Int):=by omega
       by_cases hb48:b=48
       ·subst hb48
        by_cases h1:k-i1 > 1
        ·have hg:=hide (show brGood s i1 k N sn=false by unfold brGood;exact decide_eq_false (fun h=>h.2.1 ⟨hb,h1⟩))
         have e3:(k:Int)-(i1:Int) > 1:=by omega
         replace hb:=hide hb
         go_wp2_with fail
         go_meet
         case rel=>exact⟨by rw[hg.out];simp,rfl⟩
        ·have hg:=hide (show brGood s i1 k N sn=true by unfold brGood;exact decide_eq_true ⟨hki,fun h=>h1 h.2,hN2⟩)
         have e3:¬ (k:Int)-(i1:Int) > 1:=by omega
         replace hb:=hide hb
         go_wp2_with fail
         go_meet
         case rel=>exact⟨by rw[hg.out];simp,rfl⟩
       ·have hg:=hide (show brGood s i1 k N sn=true by unfold brGood;exact decide_eq_true ⟨hki,fun h=>hb48 (hb▸h.1),hN2⟩)
        have e3:((b:Int)==48)=false:=beq_eq_false_iff_ne.2 (by omega)
        replace hb:=hide hb
        go_wp2_with fail
        go_meet
        case rel=>exact⟨by rw[hg.out];simp,rfl⟩
      ·have hg:=hide (show brGood s i1 k N sn=false by unfold brGood;exact decide_eq_false (fun h=>hN2 h.2.2))
       have e2:(N:Int)≥(sn:Int):=by omega
       by_cases hb48:b=48
       ·subst hb48
        by_cases h1:k-i1 > 1
        ·have e3:(k:Int)-(i1:Int) > 1:=by omega
         replace hb:=hide hb
         go_wp2_with fail
         go_meet
         case rel=>exact⟨by rw[hg.out];simp,rfl⟩
        ·have e3:¬ (k:Int)-(i1:Int) > 1:=by omega
         replace hb:=hide hb
         go_wp2_with fail
         go_meet
         case rel=>exact⟨by rw[hg.out];simp,rfl⟩
       ·have e3:((b:Int)==48)=false:=beq_eq_false_iff_ne.2 (by omega)
        replace hb:=hide hb
        go_wp2_with fail
        go_meet
        case rel=>exact⟨by rw[hg.out];simp,rfl⟩
    case rest=>
     obtain⟨rfl,rfl⟩:=hcut
     have f2:=B.out.M.L.thaw 2
     have c2:=B.out.M.L.c2
     obtain⟨G,hG⟩:∃ G,brGood s i1 k N sn=G:=⟨_,rfl⟩
     rw[hG]
     go_upto_if 89 with fail
     go_cut [] (fun W=>BM w P bl s bz ts env (.slice (some ⟨h0,0,none⟩) sn sc) k (!G) N W)
     case first=>
      cases G
      ·go_wp2_with fail
       go_meet
       case rel=>exact B.out.spoil
      ·go_wp2_with fail
       go_meet
       case rel=>exact B.out
     case rest=>
      clear B c0 c1 un us f2 c2
      have hrd:=hide (show rdBranch (rdT s env false f) s false l i=if G=true∧bt s k=58 then (match l[N]? with|none=>none|some t=>match rdT s env false f t (k+1) with|none=>none|some (d,j)=>if bt s j=62 then some (.mk 40 (N:Int) noB [] [d],j+1) else none) else none by
       rw[rdBranch_eq h60.out (k:=k) (N:=N) (by rw[hi1.out];exact hend.out) (by rw[hi1.out];exact hN.out),hi1.out,← hsn.out,hG])
      have hGN:=hide (fun (e:G=true)=>(of_decide_eq_true (hG.trans e)).2.2)
      replace B:=hide hcut
      clear hcut hG
      cases G with
      | false=>
       have hlt:=hide (show lk s k true=0 by simp[lk])
       have hr:=hide (show rdBranch (rdT s env false f) s false l i=none by rw[hrd.out,if_neg (fun h=>by cases h.1)])
       clear hrd hGN
       go_wp2_with (go_at_call 59;refine(leat_any 58 B.out.M.L hsl hkl rfl (by decide)).mono ?_;rintro e w4 ⟨rfl,hE⟩;have B4:=hide (B.out.no hE (by show lk s k true≠58;rw[hlt.out];decide));have c24:=B4.out.M.L.c2;have t0:=B4.out.b2.cell 0;have t1:=B4.out.b2.cell 1;have t2:=B4.out.b2.cell 2;have t3:=B4.out.b2.cell 3;have t4:=B4.out.b2.cell 4;have r0:=B4.out.b1.cell 0;have r1:=B4.out.b1.cell 1;have r2:=B4.out.b1.cell 2;have r3:=B4.out.b1.cell 3;have r4:=B4.out.b1.cell 4;have g0:=B4.out.b1.thaw 0;have g1:=B4.out.b1.thaw 1;have g2:=B4.out.b1.thaw 2;have g3:=B4.out.b1.thaw 3;have g4:=B4.out.b1.thaw 4;simp only[zeroDat,dvals,List.getElem?_cons_zero,List.getElem?_cons_succ,Int.cast_ofNat_Int] at t0 t1 t2 t3 t4 r0 r1 r2 r3 r4;clear hE)
       have L5:=Blk.five B4.out.b1 (.int .u8 40) (.int .i64 (N:Int)) (.string noB) (.slice none 0 0) (.slice none 0 0)
       have q0:=L5.cell 0
       have q1:=L5.cell 1
       have q2:=L5.cell 2
       have q3:=L5.cell 3
       have q4:=L5.cell 4
       simp only[List.getElem?_cons_zero,List.getElem?_cons_succ] at q0 q1 q2 q3 q4
       have hF:=Fr.five w4 (w.heap.size+1) (.int .u8 40) (.int .i64 (N:Int)) (.string noB) (.slice none 0 0) (.slice none 0 0)
       generalize (((((World.setCell w4 ⟨w.heap.size+1,0,none⟩ (.int .u8 40)).setCell ⟨w.heap.size+1,1,none⟩ (.int .i64 (N:Int))).setCell ⟨w.heap.size+1,2,none⟩ (.string noB)).setCell ⟨w.heap.size+1,3,none⟩ (.slice none 0 0)).setCell ⟨w.heap.size+1,4,none⟩ (.slice none 0 0))=W5 at *
       refine bodyPost_ret (v:=.agg (dvals 40 (N:Int) noB (.slice none 0 0) (.slice none 0 0)).toArray) (by simp[results,Tryz.results64,go_sem,q0,q1,q2,q3,q4,dvals]) rfl ?_
       rw[hPOST.out]
       exact dat_bad' (w.heap.size+1) (by omega) B4.out.M ⟨_,_,_,rfl⟩ ⟨_,_,_,rfl⟩ hF hr.out
      | true=>
       by_cases h58:bt s k=58
       ·have hlk5:=hide (show lk s k (!true)=58 by simpa[lk] using h58)
        have hkk:k<s.size:=bt_pos (by omega)
        have hNs:=hGN.out rfl
        rw[hsn.out] at hNs
        obtain⟨t,ht⟩:∃ t,l[N]?=some t:=⟨_,List.getElem?_eq_getElem hNs⟩
        obtain⟨kj,hkj,hkt⟩:=hat.out N t ht
        have hr:=hide (show rdBranch (rdT s env false f) s false l i=match rdT s env false f t (k+1) with|none=>none|some (d,j)=>if bt s j=62 then some (.mk 40 (N:Int) noB [] [d],j+1) else none by rw[hrd.out,if_pos ⟨rfl,h58⟩,ht])
        have hDat:=hide (hW.out t (List.mem_of_getElem? ht) (k+1) (fun h=>by cases h) (fun _=>by have:=hi1.out;omega) hkk)
        have hcx:Hid (∀ W,DM w P bl s bz false (k+1) false ts env W→W.cell? ⟨h0,N,none⟩=some (.int .i64 (kj:Int))):=hide (fun W hM=>(World.cell?_of_block (a:=⟨h0,N,none⟩) (hM.fr.block h0 (World.block_lt_of_cell? w ⟨h0,N,none⟩ hkj) (fun e=>hM.nP (e▸hP0)))).trans hkj)
        replace hkt:=hide hkt
        have hNi:(N:Int)<(sn:Int):=by have:=hsn.out;omega
        replace hNs:=hide hNs
        replace ht:=hide ht
        replace hkj:=hide hkj
        replace h58:=hide h58
        clear hrd hGN hat hW
        go_upto_if 115 with(first
         |(go_at_call 59;refine(leat_any 58 B.out.M.L hsl hkl rfl (by decide)).mono ?_;rintro e w4 ⟨rfl,hE⟩;have B7:Hid (BM w P bl s bz ts env (.slice (some ⟨h0,0,none⟩) sn sc) (k+1) false N w4):=hide (B.out.yes hE hlk5.out);have c24:=B7.out.M.L.c2;have us4:=B7.out.subs;have un4:=B7.out.n;have hx4:=hcx.out _ B7.out.M;clear hE)
         |(go_at_call 34;refine(hDat.out _ P bl bz kj B7.out.M.here hkt.out).mono ?_;intro e w6 hQ;obtain⟨dk,dm,dtx,a1,m1,c1,a2,m2,c2,j2,bad2,rfl,M2,F2,hJ2⟩:=DatPost.any B7.out.M hQ;have hs2:=F2.size;have hd2:=B7.out.b2.lt;have E1:=F2.blk B7.out.b1 (by omega);have E2:=F2.blk B7.out.b2 (by omega);have M4:=(M2.alloc (.cells #[.int .u8 (dk:Int),.int .i64 dm,.string dtx,.slice a1 m1 c1,.slice a2 m2 c2] 37)).alloc (.cells #[.int .u8 (dk:Int),.int .i64 dm,.string dtx,.slice a1 m1 c1,.slice a2 m2 c2] 37);have J1:=(E1.alloc (.cells #[.int .u8 (dk:Int),.int .i64 dm,.string dtx,.slice a1 m1 c1,.slice a2 m2 c2] 37)).alloc (.cells #[.int .u8 (dk:Int),.int .i64 dm,.string dtx,.slice a1 m1 c1,.slice a2 m2 c2] 37);have J2:=(E2.alloc (.cells #[.int .u8 (dk:Int),.int .i64 dm,.string dtx,.slice a1 m1 c1,.slice a2 m2 c2] 37)).alloc (.cells #[.int .u8 (dk:Int),.int .i64 dm,.string dtx,.slice a1 m1 c1,.slice a2 m2 c2] 37);have y4:=J2.cell 4;have y5:=J2.thaw 4;have c26:=(M4.put ⟨w.heap.size+1+1,4,none⟩ (.slice (some ⟨w6.heap.size+1,0,none⟩) 1 1) (by show w.heap.size≤w.heap.size+1+1;omega)).L.c2;simp only[dvals,List.getElem?_cons_zero,List.getElem?_cons_succ] at y4;replace M2:=hide M2;replace F2:=hide F2;replace E1:=hide E1;replace E2:=hide E2;replace M4:=hide M4;replace J1:=hide J1;replace J2:=hide J2;clear hQ))
        have K2:=Blk.set J2.out 4 (.slice (some ⟨w6.heap.size+1,0,none⟩) 1 1)
        have K1:=Blk.other J1.out (a:=⟨w.heap.size+1+1,4,none⟩) (.slice (some ⟨w6.heap.size+1,0,none⟩) 1 1) (by simp)
        have M5:=M4.out.put ⟨w.heap.size+1+1,4,none⟩ (.slice (some ⟨w6.heap.size+1,0,none⟩) 1 1) (by show w.heap.size≤w.heap.size+1+1;omega)
        have hj2:=M5.jl
        have hV:Hid (∀ d,DVal w6 (fun g=>w4.heap.size≤g) d (dvals dk dm dtx (.slice a1 m1 c1) (.slice a2 m2 c2))→DVal (World.setCell ((w6.alloc (.cells #[.int .u8 (dk:Int),.int .i64 dm,.string dtx,.slice a1 m1 c1,.slice a2 m2 c2] 37)).alloc (.cells #[.int .u8 (dk:Int),.int .i64 dm,.string dtx,.slice a1 m1 c1,.slice a2 m2 c2] 37)) ⟨w.heap.size+1+1,4,none⟩ (.slice (some ⟨w6.heap.size+1,0,none⟩) 1 1)) (fun g=>w.heap.size≤g∧g≠w.heap.size+1) (.mk 40 (N:Int) noB [] [d]) (dvals 40 (N:Int) noB (.slice none 0 0) (.slice (some ⟨w6.heap.size+1,0,none⟩) 1 1))):=hide (fun d hdv=>by
         have hfr:Fr w6 (World.setCell ((w6.alloc (.cells #[.int .u8 (dk:Int),.int .i64 dm,.string dtx,.slice a1 m1 c1,.slice a2 m2 c2] 37)).alloc (.cells #[.int .u8 (dk:Int),.int .i64 dm,.string dtx,.slice a1 m1 c1,.slice a2 m2 c2] 37)) ⟨w.heap.size+1+1,4,none⟩ (.slice (some ⟨w6.heap.size+1,0,none⟩) 1 1)) (fun g=>g=w.heap.size+2):=((((Fr.refl w6 (fun g=>g=w.heap.size+2)).alloc _).alloc _).setCell _ _ (fun _=>rfl))
         have hrow:((w6.alloc (.cells #[.int .u8 (dk:Int),.int .i64 dm,.string dtx,.slice a1 m1 c1,.slice a2 m2 c2] 37)).alloc (.cells #[.int .u8 (dk:Int),.int .i64 dm,.string dtx,.slice a1 m1 c1,.slice a2 m2 c2] 37)).ownsRow 0 37 5 (.slice (some ⟨w6.heap.size+1,0,none⟩) 1 1) 1 (dvals dk dm dtx (.slice a1 m1 c1) (.slice a2 m2 c2)):=by
          have:=World.ownsRow_lit (base:=0) (e:=37) (size:=5) (w6.alloc (.cells #[.int .u8 (dk:Int),.int .i64 dm,.string dtx,.slice a1 m1 c1,.slice a2 m2 c2] 37)) #[.int .u8 (dk:Int),.int .i64 dm,.string dtx,.slice a1 m1 c1,.slice a2 m2 c2] 1 (Nat.zero_le _) (by simp[maxLen]) rfl
          have e:(w6.alloc (.cells #[.int .u8 (dk:Int),.int .i64 dm,.string dtx,.slice a1 m1 c1,.slice a2 m2 c2] 37)).heap.size=w6.heap.size+1:=by simp
          rw[e] at this
          exact this
         have hrow':=ownsRow_fr hrow ((Fr.refl _ (fun g=>g=w.heap.size+2)).setCell ⟨w.heap.size+1+1,4,none⟩ (.slice (some ⟨w6.heap.size+1,0,none⟩) 1 1) (fun _=>rfl)) (fun g hg e=>by simp only[Value.ownBlock,Option.some.injEq] at hg;omega)
         exact DVal.one ((hdv.fr hfr (fun g hg e=>by omega)).mono (fun g _ hg=>⟨by omega,by omega⟩)) (w6.heap.size+1) ⟨by omega,by omega⟩ hrow' 40 (N:Int) noB)
        replace K1:=hide K1
        replace K2:=hide K2
        replace M5:=hide M5
        clear y4 y5 c24 us4 un4 hx4 M4 J1 J2 E1 E2 M2
        generalize (World.setCell ((w6.alloc (.cells #[.int .u8 (dk:Int),.int .i64 dm,.string dtx,.slice a1 m1 c1,.slice a2 m2 c2] 37)).alloc (.cells #[.int .u8 (dk:Int),.int .i64 dm,.string dtx,.slice a1 m1 c1,.slice a2 m2 c2] 37)) ⟨w.heap.size+1+1,4,none⟩ (.slice (some ⟨w6.heap.size+1,0,none⟩) 1 1))=W6 at *
        go_cut [] (fun W=>∃ j' bad',DM w P bl s bz false j' bad' ts env W∧Blk W (w.heap.size+1) zeroDat 37∧Blk W (w.heap.size+1+1) (dvals 40 (N:Int) noB (.slice none 0 0) (.slice (some ⟨w6.heap.size+1,0,none⟩) 1 1)) 37∧((bad'=true∧rdBranch (rdT s env false f) s false l i=none)∨(bad'=false∧∃ d,rdBranch (rdT s env false f) s false l i=some (.mk 40 (N:Int) noB [] [d],j')∧DVal W (fun g=>w.heap.size≤g∧g≠w.heap.size+1) (.mk 40 (N:Int) noB [] [d]) (dvals 40 (N:Int) noB (.slice none 0 0) (.slice (some ⟨w6.heap.size+1,0,none⟩) 1 1)))))
        case first=>
         rcases hJ2.out with⟨d,hr2,rfl,hdv⟩|⟨hr2,rfl⟩
         ·have hvd:=hV.out d hdv
          by_cases h62:bt s j2=62
          ·have hl6:=hide (show lk s j2 false=62 by simpa[lk] using h62)
           go_wp2_with (go_at_call 59;refine(leat_any 62 M5.out.L hsl hj2 rfl (by decide)).mono ?_;rintro e w7 ⟨rfl,hE⟩;replace hE:=hide hE)
           go_meet
           case rel=>
            obtain⟨h1,h2⟩:=hE.out
            rw[if_pos hl6.out] at h1
            refine⟨j2+1,false,M5.out.call h1.1 h2 h1.2,h2.blk K1.out (by omega),h2.blk K2.out (by omega),.inr ⟨rfl,d,?_,hvd.fr h2 (fun g hg e=>by omega)⟩⟩
            rw[hr.out,hr2]
            exact if_pos h62
          ·have hl6:=hide (show lk s j2 false≠62 by simpa[lk] using h62)
           go_wp2_with (go_at_call 59;refine(leat_any 62 M5.out.L hsl hj2 rfl (by decide)).mono ?_;rintro e w7 ⟨rfl,hE⟩;replace hE:=hide hE)
           go_meet
           case rel=>
            obtain⟨h1,h2⟩:=hE.out
            rw[if_neg hl6.out] at h1
            refine⟨j2,true,M5.out.call h1 h2 hj2,h2.blk K1.out (by omega),h2.blk K2.out (by omega),.inl ⟨rfl,?_⟩⟩
            rw[hr.out,hr2]
            exact if_neg h62
         ·go_wp2_with fail
          go_meet
          case rel=>exact⟨j2,true,M5.out,K1.out,K2.out,.inl ⟨rfl,by rw[hr.out,hr2]⟩⟩
        case rest=>
         obtain⟨j7,bad7,M7,H1,H2,hO⟩:=hcut
         have t0:=H2.cell 0
         have t1:=H2.cell 1
         have t2:=H2.cell 2
         have t3:=H2.cell 3
         have t4:=H2.cell 4
         have r0:=H1.cell 0
         have r1:=H1.cell 1
         have r2:=H1.cell 2
         have r3:=H1.cell 3
         have r4:=H1.cell 4
         have g0:=H1.thaw 0
         have g1:=H1.thaw 1
         have g2:=H1.thaw 2
         have g3:=H1.thaw 3
         have g4:=H1.thaw 4
         simp only[zeroDat,dvals,List.getElem?_cons_zero,List.getElem?_cons_succ,Int.cast_ofNat_Int] at t0 t1 t2 t3 t4 r0 r1 r2 r3 r4
         replace M7:=hide M7
         replace H1:=hide H1
         replace H2:=hide H2
         replace hO:=hide hO
         clear K1 K2 M5 hV c26 hJ2 F2
         go_wp2_with fail
         have L5:=Blk.five H1.out (.int .u8 40) (.int .i64 (N:Int)) (.string noB) (.slice none 0 0) (.slice (some ⟨w6.heap.size+1,0,none⟩) 1 1)
         have q0:=L5.cell 0
         have q1:=L5.cell 1
         have q2:=L5.cell 2
         have q3:=L5.cell 3
         have q4:=L5.cell 4
         simp only[List.getElem?_cons_zero,List.getElem?_cons_succ] at q0 q1 q2 q3 q4
         have hF:=Fr.five wc (w.heap.size+1) (.int .u8 40) (.int .i64 (N:Int)) (.string noB) (.slice none 0 0) (.slice (some ⟨w6.heap.size+1,0,none⟩) 1 1)
         generalize (((((World.setCell wc ⟨w.heap.size+1,0,none⟩ (.int .u8 40)).setCell ⟨w.heap.size+1,1,none⟩ (.int .i64 (N:Int))).setCell ⟨w.heap.size+1,2,none⟩ (.string noB)).setCell ⟨w.heap.size+1,3,none⟩ (.slice none 0 0)).setCell ⟨w.heap.size+1,4,none⟩ (.slice (some ⟨w6.heap.size+1,0,none⟩) 1 1))=W5 at *
         refine bodyPost_ret (v:=.agg (dvals 40 (N:Int) noB (.slice none 0 0) (.slice (some ⟨w6.heap.size+1,0,none⟩) 1 1)).toArray) (by simp[results,Tryz.results64,go_sem,q0,q1,q2,q3,q4,dvals]) rfl ?_
         rw[hPOST.out]
         rcases hO.out with⟨rfl,h⟩|⟨rfl,d,h,hv⟩
         ·exact dat_bad' (w.heap.size+1) (by omega) M7.out ⟨_,_,_,rfl⟩ ⟨_,_,_,rfl⟩ hF h
         ·exact dat_good' (w.heap.size+1) (by omega) M7.out hv hF h
       ·have hlk5:=hide (show lk s k (!true)≠58 by simpa[lk] using h58)
        have hr:=hide (show rdBranch (rdT s env false f) s false l i=none by rw[hrd.out,if_neg (fun h=>h58 h.2)])
        clear hrd hGN h58
        go_wp2_with (go_at_call 59;refine(leat_any 58 B.out.M.L hsl hkl rfl (by decide)).mono ?_;rintro e w4 ⟨rfl,hE⟩;have B4:=hide (B.out.no hE hlk5.out);have c24:=B4.out.M.L.c2;have t0:=B4.out.b2.cell 0;have t1:=B4.out.b2.cell 1;have t2:=B4.out.b2.cell 2;have t3:=B4.out.b2.cell 3;have t4:=B4.out.b2.cell 4;have r0:=B4.out.b1.cell 0;have r1:=B4.out.b1.cell 1;have r2:=B4.out.b1.cell 2;have r3:=B4.out.b1.cell 3;have r4:=B4.out.b1.cell 4;have g0:=B4.out.b1.thaw 0;have g1:=B4.out.b1.thaw 1;have g2:=B4.out.b1.thaw 2;have g3:=B4.out.b1.thaw 3;have g4:=B4.out.b1.thaw 4;simp only[zeroDat,dvals,List.getElem?_cons_zero,List.getElem?_cons_succ,Int.cast_ofNat_Int] at t0 t1 t2 t3 t4 r0 r1 r2 r3 r4;clear hE)
        have L5:=Blk.five B4.out.b1 (.int .u8 40) (.int .i64 (N:Int)) (.string noB) (.slice none 0 0) (.slice none 0 0)
        have q0:=L5.cell 0
        have q1:=L5.cell 1
        have q2:=L5.cell 2
        have q3:=L5.cell 3
        have q4:=L5.cell 4
        simp only[List.getElem?_cons_zero,List.getElem?_cons_succ] at q0 q1 q2 q3 q4
        have hF:=Fr.five w4 (w.heap.size+1) (.int .u8 40) (.int .i64 (N:Int)) (.string noB) (.slice none 0 0) (.slice none 0 0)
        generalize (((((World.setCell w4 ⟨w.heap.size+1,0,none⟩ (.int .u8 40)).setCell ⟨w.heap.size+1,1,none⟩ (.int .i64 (N:Int))).setCell ⟨w.heap.size+1,2,none⟩ (.string noB)).setCell ⟨w.heap.size+1,3,none⟩ (.slice none 0 0)).setCell ⟨w.heap.size+1,4,none⟩ (.slice none 0 0))=W5 at *
        refine bodyPost_ret (v:=.agg (dvals 40 (N:Int) noB (.slice none 0 0) (.slice none 0 0)).toArray) (by simp[results,Tryz.results64,go_sem,q0,q1,q2,q3,q4,dvals]) rfl ?_
        rw[hPOST.out]
        exact dat_bad' (w.heap.size+1) (by omega) B4.out.M ⟨_,_,_,rfl⟩ ⟨_,_,_,rfl⟩ hF hr.out
theorem br_num {s:ByteArray}{env:Nat→Option PB}{ts:List TR}{f:Nat}{l:List PT}{i:Nat}(hW:Within s env false ts f l i):BrOK s env false ts f l i:=by
 intro w P bl bz js h0 sn sc M hjs ho hP
 by_cases h60:bt s i=60
 ·exact branch_yes M h60 hjs ho hP hW
 ·have e:rdBranch (rdT s env false f) s false l i=none:=by
   unfold rdBranch
   rw[if_neg (by decide),if_neg (fun h=>h60 h.1)]
  rw[e]
  exact branch_no M h60
theorem dat_full {s:ByteArray}{env:Nat→Option PB}{ts:List TR}(hE:okEnv env){t:PT}(ht:okT env t):DatOK s env false ts (2*s.size+2) t 0:=by
 refine dat_ok hE (fun f l i _ _ hW=>br_num hW) _ t 0 ht (Nat.zero_le _) ?_
 split <;> omega
end Go.Proofs.YtiifagiebikmdaaGreatDoor
