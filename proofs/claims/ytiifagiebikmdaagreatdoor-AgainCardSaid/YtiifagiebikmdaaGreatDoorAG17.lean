import Derived.Test.YtiifagiebikmdaaGreatDoorAG16
import Derived.Test.YtiifagiebikmdaaGreatDoorAG00
namespace Go.Proofs.YtiifagiebikmdaaGreatDoor
open Go.RowKit
theorem TyV.iface {w:World}{P:Nat→Prop}{t:PT}{v:Value}(h:TyV w P t v):∃ T x,v=.iface T x:=by
 cases h <;> exact⟨_,_,rfl⟩
def PRecPost (w:World) (bp:Nat) (s:ByteArray) (i:Nat) (et:TypeId) (ex:Value) (e:Ending) (w':World):Prop:=
 ∃ v ev,IfV v∧e=.returned (.tuple #[v,ev])∧Fr w w' (· = bp)∧
 match pRecord s i with
 | .ok (fs,j)=>ev=.nilIface∧PAt w' bp s j∧BodyV w' (fun g=>w.heap.size≤g) s (.recd fs) v
 | .error k=>FaultAt w' w.heap.size ev (k:Int) (.iface et ex)∧∃ j,j≤s.size∧PAt w' bp s j
section
variable {w W W2:World} {bp:Nat} {s:ByteArray} {j b0:Nat} {L:List Value} {T ET:TypeId} {k:Nat} {sv v5:Value} {n:Nat} {xs:List Value}
theorem keepF {fs:List PF}{ys:List Value}(hH:Fr W W2 (fun g=>sv.ownBlock=some g∨g=b0)) (hn:∀ g,v5.ownBlock=some g→b0+1≤g∧(sv.ownBlock=some g∨W.heap.size≤g)) (h:FldsV W (fun g=>b0+1≤g∧sv.ownBlock≠some g) s fs ys):FldsV W2 (fun g=>b0+1≤g∧v5.ownBlock≠some g) s fs ys:=
 ((h.mono (Q:=fun g=>(b0+1≤g∧sv.ownBlock≠some g)∧g<W.heap.size) (fun _ h1 h2=>⟨h2,h1⟩)).fr hH (fun g hg e=>by
   rcases e with e|e
   ·exact hg.1.2 e
   ·have:=hg.1.1;omega)).mono (fun g _ hg=>⟨hg.1.1,fun e=>by
   rcases(hn g e).2 with q|q
   ·exact hg.1.2 q
   ·have:=hg.2;omega⟩)
theorem keepF1 {f:PF}{a b c d:Value}(hH:Fr W W2 (fun g=>sv.ownBlock=some g∨g=b0)) (hn:∀ g,v5.ownBlock=some g→b0+1≤g∧(sv.ownBlock=some g∨W.heap.size≤g)) (h:FldV W (fun g=>b0+1≤g∧sv.ownBlock≠some g) s f a b c d):FldV W2 (fun g=>b0+1≤g∧v5.ownBlock≠some g) s f a b c d:=
 ((h.mono (Q:=fun g=>(b0+1≤g∧sv.ownBlock≠some g)∧g<W.heap.size) (fun _ h1 h2=>⟨h2,h1⟩)).fr hH (fun g hg e=>by
   rcases e with e|e
   ·exact hg.1.2 e
   ·have:=hg.1.1;omega)).mono (fun g _ hg=>⟨hg.1.1,fun e=>by
   rcases(hn g e).2 with q|q
   ·exact hg.1.2 q
   ·have:=hg.2;omega⟩)
end
structure RF (w:World) (bp:Nat) (s:ByteArray) (j b0:Nat) (p:Int) (sv:Value) (fs:List PF) (xs:List Value) (W:World):Prop where
 A:AM w bp s j b0 [.int .i64 p,sv] 211 149 4 sv fs.length xs W
 F:FldsV W (fun g=>b0+1≤g∧sv.ownBlock≠some g) s fs xs
section
variable {w W W':World} {bp:Nat} {s:ByteArray} {j j' b0:Nat} {p:Int} {sv:Value} {fs:List PF} {xs:List Value}
theorem RF.call (M:RF w bp s j b0 p sv fs xs W) (h:PAt W' bp s j') (hf:Fr W W' (· = bp)):RF w bp s j' b0 p sv fs xs W':=by
 have h1:=M.A.lt
 have h2:=M.A.w0
 exact⟨M.A.call h hf,M.F.fr hf (fun g hg e=>by omega)⟩
theorem RF.alloc (M:RF w bp s j b0 p sv fs xs W) (o:Obj):RF w bp s j b0 p sv fs xs (W.alloc o):=M.call (Blk.alloc M.A.here o) ((Fr.refl W _).alloc o)
theorem RF.still (M:RF w bp s j b0 p sv fs xs W) (hW:Still W W'):RF w bp s j b0 p sv fs xs W':=M.call (M.A.here.still hW) ((Fr.refl W _).still hW)
theorem RF.item (M:RF w bp s j b0 p sv fs xs W){o:Obj}{w5:World}{v5 a b c d:Value}{f:PF}(hg:(W.alloc o).grownBy w5 sv.ownBlock) (ho:w5.ownsRow (b0+1) 149 4 v5 (fs.length+1) (xs++[a,b,c,d]))
 (hl:v5.ownBlock=sv.ownBlock∨v5.ownBlock=some (W.alloc o).heap.size) (hv:FldV W (fun g=>b0+1≤g∧sv.ownBlock≠some g) s f a b c d) :
 RF w bp s j b0 p v5 (fs++[f]) (xs++[a,b,c,d]) (w5.setCell ⟨b0,1,none⟩ v5):=by
 obtain⟨h1,h2,h3⟩:=M.A.item ((Fr.refl W _).alloc o) hg ho hl 1
 refine⟨?_,(keepF h2 h3 M.F).snoc M.A.row.1 (keepF1 h2 h3 hv)⟩
 rw[List.length_append,List.length_singleton]
 exact h1
theorem RF.body (M:RF w bp s j b0 p sv fs xs W) (q:Nat) (hp:p=(q:Int)):BodyV W (fun g=>w.heap.size≤g) s (.recd fs) (.iface 211 (.agg #[.int .i64 p,sv])):=by
 subst hp
 have:=M.A.w0
 exact .recd q (own_zero M.A.row) (fun g e=>by have:=M.A.row.lt g e;omega) (M.F.mono (fun g _ hg=>by have:=hg.1;omega))
end
def RFInv (w:World) (bp:Nat) (s:ByteArray) (i b0:Nat) (p:Int) (m:Nat) (W:World):Prop:=
 ∃ j sv fs xs,RF w bp s j b0 p sv fs xs W∧j≤s.size∧i+fs.length≤j∧s.size+1-j≤m∧pFields s i=aheadF fs (pFields s j)
theorem u_PFields:Tryz.prog.underlying 143=some (.slice 149):=by kernel_rfl
theorem i_PField:(Tryz.prog.info? 149).map (fun i=>(i.zero,i.size,i.bytes))=some (some (.agg #[.int .i64 0,.int .u8 0,.nilIface,.pointer none]),4,40):=by kernel_rfl
set_option maxHeartbeats 16000000 in
set_option maxRecDepth 100000 in
theorem precord_any {w:World}{bp:Nat}{s:ByteArray}{i p:Nat}{et:TypeId}{ex:Value}(h:PAt w bp s i) (hG:Gram w et ex) (hne:bp≠0) (hs:s.size≤300) (hi:i≤s.size) :
 Calls Tryz.prog 136 #[.pointer (some ⟨bp,0,none⟩),.int .i64 (p:Int)] w (PRecPost w bp s i et ex):=by
 obtain⟨POST,hPOST⟩:∃ P,Hid (P=PRecPost w bp s i et ex):=⟨_,rfl⟩
 rw[← hPOST.out]
 have hbp:=h.lt
 have hgl:=World.block_lt_of_cell? w ⟨0,0,none⟩ hG
 replace hG:=hide hG
 have hE:=hide (pexpect_any 40 (c:=40) h hG.out hne hs hi rfl (by decide))
 clear h
 by_cases h40:bt s i=40
 case neg=>
  have hres:=hide (show pRecord s i=.error i by unfold pRecord;rw[if_neg h40])
  replace h40:=hide h40
  go_enter Tryz.func136,Tryz.ntmps136
  go_wp2_with (go_at_call 105;refine hE.out.mono ?_;rintro e w1 ⟨v1,rfl,hf1,hm⟩;obtain⟨g,hg1,rfl,hg2,h1⟩:∃ g,w.heap.size≤g∧v1=.iface 139 (.pointer (some ⟨g,0,none⟩))∧Blk w1 g [.int .i64 (i:Int),.iface et ex] 141∧PAt w1 bp s i:=(by rcases hm with⟨hq,_⟩|⟨_,⟨g,q1,q2,q3⟩,q4⟩;(exact absurd hq h40.out);exact⟨g,q1,q2,q3,q4⟩);replace hf1:=hide hf1;replace hg2:=hide hg2;replace h1:=hide h1)
  try go_ret
  rw[hPOST.out]
  refine⟨.nilIface,_,.inl rfl,rfl,hf1.out,?_⟩
  rw[hres.out]
  exact⟨⟨g,hg1,rfl,hg2.out⟩,i,hi,h1.out⟩
 case pos=>
 have hlt:i+1≤s.size:=bt_pos (s:=s) (i:=i) (by omega)
 by_cases h41:bt s (i+1)=41
 case pos=>
  have hres:=hide (show pRecord s i=.ok ([],i+2) by unfold pRecord;rw[if_pos h40,if_pos h41])
  replace h40:=hide h40
  replace h41:=hide h41
  go_enter Tryz.func136,Tryz.ntmps136
  go_wp2_with (first
   |(go_at_call 105;refine hE.out.mono ?_;rintro e w1 ⟨v1,rfl,hf1,hm⟩;obtain⟨rfl,h1⟩:v1=.nilIface∧PAt w1 bp s (i+1):=(by rcases hm with⟨_,q1,q2,_⟩|⟨hq,_⟩;(exact⟨q1,q2⟩);exact absurd h40.out hq);have hs1:=hf1.size;replace hf1:=hide hf1;replace h1:=hide h1)
   |(go_at_call 106;refine(ptake_yes 41 (Blk.alloc h1.out (.cells #[.int .i64 (p:Int),.slice none 0 0] 211)) hs hlt rfl (by decide) h41.out).mono ?_;rintro e w2 ⟨rfl,hf2,h2⟩;have B2:=hf2.blk (Blk.new w1 #[.int .i64 (p:Int),.slice none 0 0] 211) (by omega);have c0:=B2.cell 0;have c1:=B2.cell 1;simp only[List.getElem?_cons_zero,List.getElem?_cons_succ] at c0 c1;replace hf2:=hide hf2;replace h2:=hide h2;replace B2:=hide B2))
  try go_ret
  rw[hPOST.out]
  refine⟨.iface 211 (.agg #[.int .i64 (p:Int),.slice none 0 0]),.nilIface,.inr ⟨_,_,rfl⟩,rfl,(hf1.out.alloc _).trans hf2.out (fun _ _ e=>e),?_⟩
  rw[hres.out]
  exact⟨rfl,h2.out,.recd p (World.ownsRow_nil _ _ _ _) (fun g e=>by simp[Value.ownBlock] at e) (fun i f e=>by simp at e)⟩
 case neg=>
  have hres:=hide (show pRecord s i=pFields s (i+1) by unfold pRecord;rw[if_pos h40,if_neg h41])
  replace h40:=hide h40
  replace h41:=hide h41
  go_enter Tryz.func136,Tryz.ntmps136
  go_wp2_with (first
   |(go_at_call 105;refine hE.out.mono ?_;rintro e w1 ⟨v1,rfl,hf1,hm⟩;obtain⟨rfl,h1⟩:v1=.nilIface∧PAt w1 bp s (i+1):=(by rcases hm with⟨_,q1,q2,_⟩|⟨hq,_⟩;(exact⟨q1,q2⟩);exact absurd h40.out hq);have hs1:=hf1.size;replace hf1:=hide hf1;replace h1:=hide h1;clear hE)
   |(go_at_call 106;refine(ptake_no 41 (Blk.alloc h1.out (.cells #[.int .i64 (p:Int),.slice none 0 0] 211)) hs hlt rfl (by decide) h41.out).mono ?_;rintro e w2 ⟨rfl,hf2,h2⟩;have start:RFInv w bp s (i+1) w1.heap.size (p:Int) (s.size+1) w2:=⟨i+1,.slice none 0 0,[],[],⟨⟨h2,(hf1.out.alloc _).trans hf2 (fun _ _ e=>e),hbp,hs1,(by have:=hf2.size;simp at this;omega),hf2.blk (Blk.new w1 #[.int .i64 (p:Int),.slice none 0 0] 211) (by omega),World.ownsRow_nil _ _ _ _⟩,(fun i f e=>by simp at e)⟩,hlt,(by simp),(by omega),(aheadF_nil _).symm⟩;replace start:=hide start;obtain⟨b0,hb0⟩:∃ b,b=w1.heap.size:=⟨_,rfl⟩;rw[← hb0] at start⊢;clear hf2 h2 h1 hf1 hb0 hs1))
  go_loopg [] (s.size+1) (fun m W=>RFInv w bp s (i+1) b0 (p:Int) m W)
  case atStart=>exact start.out
  case round=>
   clear start
   obtain⟨j,sv,fs,xs,M,hj,hij,hm,hpf⟩:=hrel
   obtain⟨sa,sc,rfl⟩:=own_sl M.A.row
   have hds:fs.length≤300:=by omega
   have hC:=hide (pfield_any M.A.here (hG.out.fr M.A.fr (Ne.symm hne)) hne hs hj)
   have hsz:=M.A.fr.size
   have hbB:=M.A.hB
   have hw0:=M.A.w0
   have hbd:=hide (pField_bounds (s:=s) hj)
   have hst:=hide (pFields_step s j hj)
   obtain⟨ti,hi1,hi2,hi3,hi4⟩:=info_parts i_PField
   replace M:=hide M
   replace hpf:=hide hpf
   go_wp2_with (first
    |(go_at_call 161;refine hC.out.mono ?_;rintro e w2 ⟨a,b,c,d,ev,rfl,hIc,⟨qd,rfl⟩,hf2,hm⟩;replace hf2:=hide hf2;rcases hm with⟨f,j2,rfl,h2,hj2,hv,hor⟩|⟨k,hk,⟨g,hg1,rfl,hg2⟩,j3,hj3,h3⟩
      obtain⟨vT,vx,rfl⟩:=hv.2.2.1.iface
      have M1:=(M.out.call h2 hf2.out).alloc (.cells #[.int .i64 a,.int .u8 b,.iface vT vx,.pointer qd] 149)
      have hv1:=(hv.mono (Q:=fun g=>b0+1≤g∧(Value.slice sa fs.length sc).ownBlock≠some g) (fun g _ hg=>⟨by omega,fun e=>by have:=M.out.A.row.lt g e;omega⟩)).fr ((Fr.refl w2 (fun _=>False)).alloc (.cells #[.int .i64 a,.int .u8 b,.iface vT vx,.pointer qd] 149)) (fun _ _ f=>f)
      have N1:=Blk.new w2 #[.int .i64 a,.int .u8 b,.iface vT vx,.pointer qd] 149
      have t1:=M1.A.b.cell 1
      have n0:=N1.cell 0
      have n1:=N1.cell 1
      have n2:=N1.cell 2
      have n3:=N1.cell 3
      simp only[List.getElem?_cons_zero,List.getElem?_cons_succ] at t1 n0 n1 n2 n3
      have hbB1:=(M.out.call h2 hf2.out).A.hB
      replace M1:=hide M1
      replace hv1:=hide hv1
      replace hor:=hide hor
      clear h2 hv N1 hIc
      rotate_left
      replace hk:=hide hk
      replace hg2:=hide hg2
      replace h3:=hide h3
      rcases hIc with rfl|⟨cT,cx,rfl⟩)
    |(at_builtin;go_must (refine wpList_append_own_at _ rfl _ _ 143 rfl (b0+1) 149 ti _ 4 40 u_PFields hi1 hi2 hi3 hi4 rfl (by decide) (.slice sa fs.length sc) fs.length xs rfl ?hown _ 1 1 [.int .i64 a,.int .u8 b,.iface vT vx,.pointer qd] rfl rfl (news_new _ #[.int .i64 a,.int .u8 b,.iface vT vx,.pointer qd] _ _ ?nn) ?one ?b1 ?b2 ?b3 ?_)
      case hown=>exact World.ownsRow.alloc M1.out.A.row _
      case nn=>simp
      case one=>simp[Value.oneCell']
      case b1=>unfold maxLen;omega
      case b2=>omega
      case b3=>simp;omega
      intro v5 w5 ho5 hg5 hn5 hl5
      have M5:=M1.out.item hg5 ho5 hl5 hv1.out
      have B5:=M1.out.A.itemCell ((Fr.refl _ _).alloc _) hg5
      have e5:=B5.cell 1
      have f5:=B5.thaw 1
      simp only[List.getElem?_cons_zero,List.getElem?_cons_succ] at e5
      obtain⟨g5,cap5,rfl⟩:=own_form ho5 (by omega)
      clear hg5 hl5 hn5 ho5 B5
      replace M5:=hide M5)
    |(go_at_call 106;refine(ptake_any 44 M5.out.A.here hs hj2 rfl (by decide)).mono ?_;rintro e w6 ⟨tb,rfl,hf6,hT⟩;replace hf6:=hide hf6;rcases hT with⟨h44,rfl,h6,hl6⟩|⟨h44,rfl,h6⟩ <;> replace h44:=hide h44 <;> replace h6:=hide h6))
   ·
    try go_ret
    rw[hPOST.out]
    refine⟨.nilIface,_,.inl rfl,rfl,(M.out.A.fr.trans hf2.out (fun _ _ e=>e)).alloc _,?_⟩
    rw[hres.out,hpf.out,hst.out,hk.out]
    exact⟨⟨g,Nat.le_trans hsz hg1,rfl,hg2.out.alloc _⟩,j3,hj3,Blk.alloc h3.out _⟩
   ·
    try go_ret
    rw[hPOST.out]
    refine⟨.nilIface,_,.inl rfl,rfl,(M.out.A.fr.trans hf2.out (fun _ _ e=>e)).alloc _,?_⟩
    rw[hres.out,hpf.out,hst.out,hk.out]
    exact⟨⟨g,Nat.le_trans hsz hg1,rfl,hg2.out.alloc _⟩,j3,hj3,Blk.alloc h3.out _⟩
   ·have M6:=M5.out.call h6.out hf6.out
    replace M6:=hide M6
    have hnx:Hid (pFields s (i+1)=aheadF (fs++[f]) (pFields s (j2+1))∧j<j2):=hide (by
     rcases hor.out with hok|⟨hno,rfl⟩
     ·have:=(hbd.out.1 f j2 hok)
      rw[hpf.out,hst.out,hok]
      simp only
      rw[if_neg (by rw[h44.out];decide),if_pos h44.out,aheadF_aheadF]
      exact⟨rfl,by omega⟩
     ·have:=h44.out
      rw[bt_end (Nat.le_refl _)] at this
      exact absurd this (by decide))
    have hlt2:=hnx.out.2
    go_roundg (s.size+1-(j2+1))
    case measure=>omega
    case rel=>exact⟨j2+1,_,fs++[f],_,M6.out,hl6,by rw[List.length_append,List.length_singleton];omega,Nat.le_refl _,hnx.out.1⟩
   ·have M6:=M5.out.call h6.out hf6.out
    replace M6:=hide M6
    have u0:=M6.out.A.b.cell 0
    have u1:=M6.out.A.b.cell 1
    simp only[List.getElem?_cons_zero,List.getElem?_cons_succ] at u0 u1
    have hd6:Still w6 w6.drew:=Still.drew w6
    have M7:=M6.out.still hd6
    have hC7:=hide (pexpect_any (c:=41) 41 M7.A.here (hG.out.fr M7.A.fr (Ne.symm hne)) hne hs hj2 rfl (by decide))
    replace M7:=hide M7
    refine wp_regionC 5 (fun W=>W.cell? ⟨b0,0,none⟩=some (.int .i64 (p:Int))∧W.cell? ⟨b0,1,none⟩=some (.slice (some ⟨g5,0,none⟩) (fs.length+1) cap5)) (by kernel_rfl) ?_
    refine wpAnyC_take 0 ?v0 rfl (by kernel_rfl) (fun _ _ _ h=>h) (by kernel_rfl) ?y0 ?_
    case y0=>(rintro W ⟨h1,h2⟩;go_simp <;> rfl)
    refine wpAnyC_take 1 ?v1 rfl (by kernel_rfl) (fun _ _ _ h=>h) (by kernel_rfl) ?y1 ?_
    case y1=>(rintro W ⟨h1,h2⟩;go_simp <;> rfl)
    refine wpAnyC_take 2 ?v2 rfl (by kernel_rfl) (fun _ _ _ h=>h) (by kernel_rfl) ?y2 ?_
    case y2=>(rintro W ⟨h1,h2⟩;go_simp <;> rfl)
    refine wpAnyC_one 3 rfl (by kernel_rfl) (fun _=>⟨u0,u1⟩) (fun K hK=>?_)
    go_simp
    refine hC7.out.mono ?_
    rintro e w8 ⟨v8,rfl,hf8,hE⟩
    refine hK _ _ ?_
    clear hK K
    have M8:∃ j8,j8≤s.size∧RF w bp s j8 b0 (p:Int) (.slice (some ⟨g5,0,none⟩) (fs.length+1) cap5) (fs++[f]) (xs++[.int .i64 a,.int .u8 b,.iface vT vx,.pointer qd]) w8:=by
     rcases hE with⟨_,_,h8,hl8⟩|⟨_,_,h8⟩
     ·exact⟨j2+1,hl8,M7.out.call h8 hf8⟩
     ·exact⟨j2,hj2,M7.out.call h8 hf8⟩
    obtain⟨j8,hj8,M8⟩:=M8
    have x0:=M8.A.b.cell 0
    have x1:=M8.A.b.cell 1
    simp only[List.getElem?_cons_zero,List.getElem?_cons_succ] at x0 x1
    refine wpAnyC_one 4 rfl (by kernel_rfl) (fun _=>⟨x0,x1⟩) (fun K hK=>?_)
    go_simp
    refine hK _ _ ?_
    clear hK K
    refine wpAnyC_one 5 rfl (by kernel_rfl) (fun _=>⟨x0,x1⟩) (fun K hK=>?_)
    go_simp
    refine hK _ _ ?_
    clear hK K
    refine wpAnyC_done (by kernel_rfl) (fun hm=>absurd hm (by decide)) ?_ _
    replace M8:=hide M8
    replace hE:=hide hE
    replace hf8:=hide hf8
    clear x0 x1 u0 u1
    go_wp2_with fail
    try go_ret
    rw[hPOST.out]
    refine⟨.iface 211 (.agg #[.int .i64 (p:Int),(.slice (some ⟨g5,0,none⟩) (fs.length+1) cap5)]),v8,.inr ⟨_,_,rfl⟩,rfl,M8.out.A.fr,?_⟩
    rw[hres.out,hpf.out,hst.out]
    have hs7:=M7.out.A.fr.size
    rcases hor.out with hok|⟨hno,rfl⟩
    ·rw[hok]
     simp only
     rcases hE.out with⟨hb,rfl,h8,hl8⟩|⟨hb,hF,h8⟩
     ·rw[if_pos hb]
      exact⟨rfl,h8,M8.out.body p rfl⟩
     ·rw[if_neg hb,if_neg h44.out]
      exact⟨hF.less hs7,j2,hj2,h8⟩
    ·rw[hno]
     rcases hE.out with⟨hb,_⟩|⟨hb,hF,h8⟩
     ·rw[bt_end (Nat.le_refl _)] at hb;exact absurd hb (by decide)
     ·exact⟨hF.less hs7,_,Nat.le_refl _,h8⟩
open Go.RowKit
def PEnumPost (w:World) (bp:Nat) (s:ByteArray) (i:Nat) (et:TypeId) (ex:Value) (e:Ending) (w':World):Prop:=
 ∃ v ev,IfV v∧e=.returned (.tuple #[v,ev])∧Fr w w' (· = bp)∧
 match pEnum s i with
 | .ok ((l,o),j)=>ev=.nilIface∧PAt w' bp s j∧BodyV w' (fun g=>w.heap.size≤g) s (.enum l o) v
 | .error k=>FaultAt w' w.heap.size ev (k:Int) (.iface et ex)∧∃ j,j≤s.size∧PAt w' bp s j
theorem symCells_snoc (l:List (Nat×Nat)) (c p:Nat):symCells (l++[(c,p)])=symCells l++[.int .i64 (p:Int),.int .u8 (c:Int)]:=by
 simp[symCells]
theorem AM.put {w W:World}{bp:Nat}{s:ByteArray}{j b0:Nat}{L:List Value}{T ET:TypeId}{k:Nat}{sv:Value}{n:Nat}{xs:List Value}(M:AM w bp s j b0 L T ET k sv n xs W) (c:Nat) (v:Value) :
 AM w bp s j b0 (L.set c v) T ET k sv n xs (W.setCell ⟨b0,c,none⟩ v):=by
 have h1:=M.lt
 have h2:=M.w0
 have hF:Fr W (W.setCell ⟨b0,c,none⟩ v) (fun g=>g=b0):=(Fr.refl W (fun g=>g=b0)).setCell ⟨b0,c,none⟩ v (fun _=>rfl)
 exact⟨hF.blk M.here (by omega),M.fr.trans hF (fun x hx e=>by omega),M.lt,M.w0,Nat.le_trans M.hB hF.size,M.b.set c v,ownsRow_fr M.row hF (fun g hg e=>by have:=M.row.lt g hg;omega)⟩
def ENInv (w:World) (bp:Nat) (s:ByteArray) (i b0:Nat) (p:Int) (m:Nat) (W:World):Prop:=
 ∃ j sv l,AM w bp s j b0 [.int .i64 p,sv,.pointer none] 216 146 2 sv l.length (symCells l) W∧j≤s.size∧i+l.length≤j∧s.size+1-j≤m∧pEnum s i=aheadS s l (pSyms s j)
theorem u_PLetters:Tryz.prog.underlying 213=some (.slice 146):=by kernel_rfl
theorem i_PLetter:(Tryz.prog.info? 146).map (fun i=>(i.zero,i.size,i.bytes))=some (some (.agg #[.int .i64 0,.int .u8 0]),2,16):=by kernel_rfl
theorem enum_body {w W:World}{bp:Nat}{s:ByteArray}{j b0 x y p:Nat}{l:List (Nat×Nat)}{sv u:Value}{o:Option (Nat×Nat)}{L:List Value}(M:AM w bp s j b0 L 216 146 2 sv (l.length+1) (symCells l++[.int .i64 (y:Int),.int .u8 (x:Int)]) W) (hu:UnkV W (fun g=>w.heap.size≤g) o u) :
 BodyV W (fun g=>w.heap.size≤g) s (.enum (l++[(x,y)]) o) (.iface 216 (.agg #[.int .i64 (p:Int),sv,u])):=by
 have:=M.w0
 refine .enum p ?_ (fun g e=>by have:=M.row.lt g e;omega) hu
 rw[symCells_snoc,List.length_append,List.length_singleton]
 exact own_zero M.row
set_option maxHeartbeats 16000000 in
set_option maxRecDepth 100000 in
theorem penum_any {w:World}{bp:Nat}{s:ByteArray}{i p:Nat}{et:TypeId}{ex:Value}(h:PAt w bp s i) (hG:Gram w et ex) (hne:bp≠0) (hs:s.size≤300) (hi:i≤s.size) :
 Calls Tryz.prog 137 #[.pointer (some ⟨bp,0,none⟩),.int .i64 (p:Int)] w (PEnumPost w bp s i et ex):=by
 obtain⟨POST,hPOST⟩:∃ P,Hid (P=PEnumPost w bp s i et ex):=⟨_,rfl⟩
 rw[← hPOST.out]
 have hbp:=h.lt
 have hgl:=World.block_lt_of_cell? w ⟨0,0,none⟩ hG
 replace hG:=hide hG
 have hE:=hide (pexpect_any 40 (c:=40) h hG.out hne hs hi rfl (by decide))
 clear h
 by_cases h40:bt s i=40
 case neg=>
  have hres:=hide (show pEnum s i=.error i by unfold pEnum;rw[if_neg h40])
  replace h40:=hide h40
  go_enter Tryz.func137,Tryz.ntmps137
  go_wp2_with (go_at_call 105;refine hE.out.mono ?_;rintro e w1 ⟨v1,rfl,hf1,hm⟩;obtain⟨g,hg1,rfl,hg2,h1⟩:∃ g,w.heap.size≤g∧v1=.iface 139 (.pointer (some ⟨g,0,none⟩))∧Blk w1 g [.int .i64 (i:Int),.iface et ex] 141∧PAt w1 bp s i:=(by rcases hm with⟨hq,_⟩|⟨_,⟨g,q1,q2,q3⟩,q4⟩;(exact absurd hq h40.out);exact⟨g,q1,q2,q3,q4⟩);replace hf1:=hide hf1;replace hg2:=hide hg2;replace h1:=hide h1)
  try go_ret
  rw[hPOST.out]
  refine⟨.nilIface,_,.inl rfl,rfl,hf1.out,?_⟩
  rw[hres.out]
  exact⟨⟨g,hg1,rfl,hg2.out⟩,i,hi,h1.out⟩
 case pos=>
  have hlt0:i+1≤s.size:=bt_pos (s:=s) (i:=i) (by omega)
  have hres:=hide (show pEnum s i=aheadS s [] (pSyms s (i+1)) by rw[pEnum_eq,if_pos h40])
  replace h40:=hide h40
  go_enter Tryz.func137,Tryz.ntmps137
  go_wp2_with (go_at_call 105;refine hE.out.mono ?_;rintro e w1 ⟨v1,rfl,hf1,hm⟩;obtain⟨rfl,h1⟩:v1=.nilIface∧PAt w1 bp s (i+1):=(by rcases hm with⟨_,q1,q2,_⟩|⟨hq,_⟩;(exact⟨q1,q2⟩);exact absurd h40.out hq);have hs1:=hf1.size;have start:ENInv w bp s i w1.heap.size (p:Int) (s.size+1) (w1.alloc (.cells #[.int .i64 (p:Int),.slice none 0 0,.pointer none] 216)):=⟨i+1,.slice none 0 0,[],⟨Blk.alloc h1 _,hf1.alloc _,hbp,hs1,(by simp),Blk.new w1 _ _,World.ownsRow_nil _ _ _ _⟩,hlt0,(by simp),(by omega),hres.out⟩;replace start:=hide start;clear hf1 hm h1 hE)
  obtain⟨b0,hb0⟩:∃ b,b=w1.heap.size:=⟨_,rfl⟩
  rw[← hb0] at start⊢
  clear hb0
  go_loopg [] (s.size+1) (fun m W=>ENInv w bp s i b0 (p:Int) m W)
  case atStart=>exact start.out
  case round=>
   clear start hres
   obtain⟨j,sv,l,M,hj,hij,hm,hpf⟩:=hrel
   obtain⟨sa,sc,rfl⟩:=own_sl M.row
   have hds:l.length≤300:=by omega
   have hC:=hide (pletter_any M.here (hG.out.fr M.fr (Ne.symm hne)) hne hs hj)
   have hsz:=M.fr.size
   have hbB:=M.hB
   have hw0:=M.w0
   rw[aheadS_step] at hpf
   obtain⟨ti,hi1,hi2,hi3,hi4⟩:=info_parts i_PLetter
   replace M:=hide M
   obtain⟨x,hx⟩:∃ x,bt s j=x:=⟨_,rfl⟩
   cases hsm:isSmall x with
   | false=>
    have hfin:=hide (show pEnum s i=.error j by rw[hpf,hx,hsm];rfl)
    replace hsm:=hide (show isSmall (bt s j)=false by rw[hx];exact hsm)
    replace hx:=hide hx
    clear hpf
    go_wp2_with (first
     |(go_at_call 162;refine hC.out.mono ?_;rintro e w2 ⟨a,b,ev,rfl,hf2,hm⟩;obtain⟨g,hg1,rfl,hg2,h2⟩:∃ g,wr.heap.size≤g∧ev=.iface 139 (.pointer (some ⟨g,0,none⟩))∧Blk w2 g [.int .i64 (j:Int),.iface et ex] 141∧PAt w2 bp s j:=(by rcases hm with⟨hq,_⟩|⟨_,⟨g,q1,q2,q3⟩,q4⟩;(exact absurd (hsm.out.symm.trans hq) (by decide));exact⟨g,q1,q2,q3,q4⟩);replace hf2:=hide hf2;replace hg2:=hide hg2;replace h2:=hide h2))
    try go_ret
    rw[hPOST.out]
    refine⟨.nilIface,_,.inl rfl,rfl,(M.out.fr.trans hf2.out (fun _ _ e=>e)).alloc _,?_⟩
    rw[hfin.out]
    exact⟨⟨g,Nat.le_trans hsz hg1,rfl,hg2.out.alloc _⟩,j,hj,Blk.alloc h2.out _⟩
   | true=>
   have hlt:j+1≤s.size:=bt_pos (isSmall_pos (by rw[hx];exact hsm))
   rw[hx,hsm,if_pos rfl] at hpf
   replace hsm:=hide (show isSmall (bt s j)=true by rw[hx];exact hsm)
   replace hx:=hide hx
   obtain⟨y,hy⟩:∃ y,bt s (j+1)=y:=⟨_,rfl⟩
   rw[hy] at hpf
   by_cases h44:y=44
   case pos=>
    subst h44
    rw[if_pos rfl] at hpf
    replace hpf:=hide hpf
    have hlt2:j+1+1≤s.size:=bt_pos (s:=s) (i:=j+1) (by omega)
    replace hy:=hide hy
    go_wp2_with (first
     |(go_at_call 162;refine hC.out.mono ?_;rintro e w2 ⟨a,b,ev,rfl,hf2,hm⟩;obtain⟨rfl,rfl,rfl,h2⟩:a=(j:Int)∧b=(x:Int)∧ev=.nilIface∧PAt w2 bp s (j+1):=(by rcases hm with⟨_,q1,q2,q3,q4,_⟩|⟨hq,_⟩;(exact⟨q1,q2.trans (by rw[hx.out]),q3,q4⟩);exact absurd (hsm.out.symm.trans hq) (by decide));have M1:=(M.out.call h2 hf2).alloc (.cells #[.int .i64 (j:Int),.int .u8 (x:Int)] 146);have N1:=Blk.new w2 #[.int .i64 (j:Int),.int .u8 (x:Int)] 146;have t1:=M1.b.cell 1;have n0:=N1.cell 0;have n1:=N1.cell 1;simp only[List.getElem?_cons_zero,List.getElem?_cons_succ] at t1 n0 n1;have hbB1:=(M.out.call h2 hf2).hB;replace M1:=hide M1;clear h2 hf2 N1 hm)
     |(at_builtin;go_must (refine wpList_append_own_at _ rfl _ _ 213 rfl (b0+1) 146 ti _ 2 16 u_PLetters hi1 hi2 hi3 hi4 rfl (by decide) (.slice sa l.length sc) l.length (symCells l) rfl ?hown _ 1 1 [.int .i64 (j:Int),.int .u8 (x:Int)] rfl rfl (news_new _ #[.int .i64 (j:Int),.int .u8 (x:Int)] _ _ ?nn) ?one ?b1 ?b2 ?b3 ?_)
       case hown=>exact World.ownsRow.alloc M1.out.row _
       case nn=>simp
       case one=>simp[Value.oneCell']
       case b1=>unfold maxLen;omega
       case b2=>omega
       case b3=>simp;omega
       intro v5 w5 ho5 hg5 hn5 hl5
       have M5:=(M1.out.item ((Fr.refl _ _).alloc _) hg5 ho5 hl5 1).1
       have B5:=M1.out.itemCell ((Fr.refl _ _).alloc _) hg5
       have e5:=B5.cell 1
       have f5:=B5.thaw 1
       simp only[List.getElem?_cons_zero,List.getElem?_cons_succ] at e5
       obtain⟨g5,cap5,rfl⟩:=own_form ho5 (by omega)
       clear hg5 hl5 hn5 ho5 B5
       replace M5:=hide M5)
     |(go_at_call 106;refine(ptake_yesI M5.out.here hs hlt hy.out (by decide) (by decide)).mono ?_;rintro e w6 ⟨rfl,hf6,h6⟩;have M6:=M5.out.call h6 hf6;replace M6:=hide M6;clear hf6 h6))
    go_roundg (s.size+1-(j+2))
    case measure=>omega
    case rel=>
     refine⟨j+2,.slice (some ⟨g5,0,none⟩) (l.length+1) cap5,l++[(x,j)],?_,hlt2,by rw[List.length_append,List.length_singleton];omega,Nat.le_refl _,hpf.out⟩
     rw[symCells_snoc,List.length_append,List.length_singleton]
     exact M6.out
   case neg=>
   rw[if_neg h44] at hpf
   by_cases h33:y=33
   case neg=>
    have hfin:=hide (show pEnum s i=if bt s (j+1)=41 then .ok ((l++[(x,j)],none),j+2) else .error (j+1) by rw[hpf];unfold finE;rw[hy,if_neg h33])
    replace hy:=hide hy
    clear hpf
    go_wp2_with (first
     |(go_at_call 162;refine hC.out.mono ?_;rintro e w2 ⟨a,b,ev,rfl,hf2,hm⟩;obtain⟨rfl,rfl,rfl,h2⟩:a=(j:Int)∧b=(x:Int)∧ev=.nilIface∧PAt w2 bp s (j+1):=(by rcases hm with⟨_,q1,q2,q3,q4,_⟩|⟨hq,_⟩;(exact⟨q1,q2.trans (by rw[hx.out]),q3,q4⟩);exact absurd (hsm.out.symm.trans hq) (by decide));have M1:=(M.out.call h2 hf2).alloc (.cells #[.int .i64 (j:Int),.int .u8 (x:Int)] 146);have N1:=Blk.new w2 #[.int .i64 (j:Int),.int .u8 (x:Int)] 146;have t1:=M1.b.cell 1;have n0:=N1.cell 0;have n1:=N1.cell 1;simp only[List.getElem?_cons_zero,List.getElem?_cons_succ] at t1 n0 n1;have hbB1:=(M.out.call h2 hf2).hB;replace M1:=hide M1;clear h2 hf2 N1 hm)
     |(at_builtin;go_must (refine wpList_append_own_at _ rfl _ _ 213 rfl (b0+1) 146 ti _ 2 16 u_PLetters hi1 hi2 hi3 hi4 rfl (by decide) (.slice sa l.length sc) l.length (symCells l) rfl ?hown _ 1 1 [.int .i64 (j:Int),.int .u8 (x:Int)] rfl rfl (news_new _ #[.int .i64 (j:Int),.int .u8 (x:Int)] _ _ ?nn) ?one ?b1 ?b2 ?b3 ?_)
       case hown=>exact World.ownsRow.alloc M1.out.row _
       case nn=>simp
       case one=>simp[Value.oneCell']
       case b1=>unfold maxLen;omega
       case b2=>omega
       case b3=>simp;omega
       intro v5 w5 ho5 hg5 hn5 hl5
       have M5:=(M1.out.item ((Fr.refl _ _).alloc _) hg5 ho5 hl5 1).1
       have B5:=M1.out.itemCell ((Fr.refl _ _).alloc _) hg5
       have e5:=B5.cell 1
       have f5:=B5.thaw 1
       simp only[List.getElem?_cons_zero,List.getElem?_cons_succ] at e5
       obtain⟨g5,cap5,rfl⟩:=own_form ho5 (by omega)
       clear hg5 hl5 hn5 ho5 B5
       replace M5:=hide M5)
     |(go_at_call 106;refine(ptake_noI M5.out.here hs hlt hy.out (by omega) (by decide)).mono ?_;rintro e w6 ⟨rfl,hf6,h6⟩;have M5':=M5.out.call h6 hf6;clear M5;have M5:=hide M5';clear M5' hf6 h6))
    have u0:=M5.out.b.cell 0
    have u1:=M5.out.b.cell 1
    have u2:=M5.out.b.cell 2
    simp only[List.set_cons_zero,List.set_cons_succ,List.getElem?_cons_zero,List.getElem?_cons_succ] at u0 u1 u2
    obtain⟨wd,hwd⟩:∃ W,W=(w6).drew:=⟨_,rfl⟩
    have hd6:Still (w6) wd:=hwd▸Still.drew _
    have M9:=M5.out.call (M5.out.here.still hd6) ((Fr.refl _ _).still hd6)
    have hC9:=hide (pexpect_any (c:=41) 41 M9.here (hG.out.fr M9.fr (Ne.symm hne)) hne hs hlt rfl (by decide))
    replace M9:=hide M9
    refine wp_regionC 5 (fun W=>W.cell? ⟨b0,0,none⟩=some (.int .i64 (p:Int))∧W.cell? ⟨b0,1,none⟩=some (.slice (some ⟨g5,0,none⟩) (l.length+1) cap5)∧W.cell? ⟨b0,2,none⟩=some (.pointer none)) (by kernel_rfl) ?_
    refine wpAnyC_take 0 ?v0 rfl (by kernel_rfl) (fun _ _ _ h=>h) (by kernel_rfl) ?y0 ?_
    case y0=>(rintro W ⟨h1,h2,h3⟩;go_simp <;> rfl)
    refine wpAnyC_take 1 ?v1 rfl (by kernel_rfl) (fun _ _ _ h=>h) (by kernel_rfl) ?y1 ?_
    case y1=>(rintro W ⟨h1,h2,h3⟩;go_simp <;> rfl)
    refine wpAnyC_take 2 ?v2 rfl (by kernel_rfl) (fun _ _ _ h=>h) (by kernel_rfl) ?y2 ?_
    case y2=>(rintro W ⟨h1,h2,h3⟩;go_simp <;> rfl)
    refine wpAnyC_one 3 rfl (by kernel_rfl) (fun _=>⟨u0,u1,u2⟩) (fun K hK=>?_)
    go_simp
    rw[← hwd]
    refine hC9.out.mono ?_
    rintro e w8 ⟨v8,rfl,hf8,hE⟩
    refine hK _ _ ?_
    clear hK K
    have M8':∃ j8,j8≤s.size∧AM w bp s j8 b0 [.int .i64 (p:Int),(.slice (some ⟨g5,0,none⟩) (l.length+1) cap5),.pointer none] 216 146 2 (.slice (some ⟨g5,0,none⟩) (l.length+1) cap5) (l.length+1) (symCells l++[.int .i64 (j:Int),.int .u8 (x:Int)]) w8:=by
     rcases hE with⟨_,_,h8,hl8⟩|⟨_,_,h8⟩
     ·exact⟨_,hl8,M9.out.call h8 hf8⟩
     ·exact⟨_,hlt,M9.out.call h8 hf8⟩
    obtain⟨j8,hj8,M8'⟩:=M8'
    have x0:=M8'.b.cell 0
    have x1:=M8'.b.cell 1
    have x2:=M8'.b.cell 2
    simp only[List.getElem?_cons_zero,List.getElem?_cons_succ] at x0 x1 x2
    refine wpAnyC_one 4 rfl (by kernel_rfl) (fun _=>⟨x0,x1,x2⟩) (fun K hK=>?_)
    go_simp
    refine hK _ _ ?_
    clear hK K
    refine wpAnyC_one 5 rfl (by kernel_rfl) (fun _=>⟨x0,x1,x2⟩) (fun K hK=>?_)
    go_simp
    refine hK _ _ ?_
    clear hK K
    refine wpAnyC_done (by kernel_rfl) (fun hm=>absurd hm (by decide)) ?_ _
    replace M8':=hide M8'
    replace hE:=hide hE
    replace hf8:=hide hf8
    clear x0 x1 x2 u0 u1 u2
    go_wp2_with fail
    try go_ret
    rw[hPOST.out]
    refine⟨.iface 216 (.agg #[.int .i64 (p:Int),(.slice (some ⟨g5,0,none⟩) (l.length+1) cap5),.pointer none]),v8,.inr ⟨_,_,rfl⟩,rfl,M8'.out.fr,?_⟩
    have hs9:=M9.out.fr.size
    have hw0':=M9.out.w0
    rw[hfin.out]
    rcases hE.out with⟨hb,rfl,h8,hl8⟩|⟨hb,hF,h8⟩
    ·rw[if_pos hb]
     exact⟨rfl,h8,enum_body M8'.out rfl⟩
    ·rw[if_neg hb]
     exact⟨hF.less hs9,_,hlt,h8⟩
   case pos=>
   subst h33
   have hlt2:j+1+1≤s.size:=bt_pos (s:=s) (i:=j+1) (by omega)
   have hn44:(33:Nat)≠44:=by decide
   obtain⟨q2,hq2⟩:∃ q,q=j+1+1:=⟨_,rfl⟩
   obtain⟨z,hz⟩:∃ z,bt s (q2)=z:=⟨_,rfl⟩
   cases hsm2:isSmall z with
   | false=>
    have hfin:=hide (show pEnum s i=.error q2 by rw[hpf];unfold finE;rw[hy,if_pos rfl,show j+1+1=q2 from hq2.symm,hz,hsm2];rfl)
    rw[← hq2] at hlt2
    replace hq2:=hide hq2
    replace hsm2:=hide (show isSmall (bt s (q2))=false by rw[hz];exact hsm2)
    replace hy:=hide hy
    replace hz:=hide hz
    clear hpf
    go_wp2_with (first
     |(go_at_call 162;refine hC.out.mono ?_;rintro e w2 ⟨a,b,ev,rfl,hf2,hm⟩;obtain⟨rfl,rfl,rfl,h2⟩:a=(j:Int)∧b=(x:Int)∧ev=.nilIface∧PAt w2 bp s (j+1):=(by rcases hm with⟨_,q1,q2,q3,q4,_⟩|⟨hq,_⟩;(exact⟨q1,q2.trans (by rw[hx.out]),q3,q4⟩);exact absurd (hsm.out.symm.trans hq) (by decide));have M1:=(M.out.call h2 hf2).alloc (.cells #[.int .i64 (j:Int),.int .u8 (x:Int)] 146);have N1:=Blk.new w2 #[.int .i64 (j:Int),.int .u8 (x:Int)] 146;have t1:=M1.b.cell 1;have n0:=N1.cell 0;have n1:=N1.cell 1;simp only[List.getElem?_cons_zero,List.getElem?_cons_succ] at t1 n0 n1;have hbB1:=(M.out.call h2 hf2).hB;replace M1:=hide M1;clear h2 hf2 N1 hm)
     |(at_builtin;go_must (refine wpList_append_own_at _ rfl _ _ 213 rfl (b0+1) 146 ti _ 2 16 u_PLetters hi1 hi2 hi3 hi4 rfl (by decide) (.slice sa l.length sc) l.length (symCells l) rfl ?hown _ 1 1 [.int .i64 (j:Int),.int .u8 (x:Int)] rfl rfl (news_new _ #[.int .i64 (j:Int),.int .u8 (x:Int)] _ _ ?nn) ?one ?b1 ?b2 ?b3 ?_)
       case hown=>exact World.ownsRow.alloc M1.out.row _
       case nn=>simp
       case one=>simp[Value.oneCell']
       case b1=>unfold maxLen;omega
       case b2=>omega
       case b3=>simp;omega
       intro v5 w5 ho5 hg5 hn5 hl5
       have M5:=(M1.out.item ((Fr.refl _ _).alloc _) hg5 ho5 hl5 1).1
       have B5:=M1.out.itemCell ((Fr.refl _ _).alloc _) hg5
       have e5:=B5.cell 1
       have f5:=B5.thaw 1
       simp only[List.getElem?_cons_zero,List.getElem?_cons_succ] at e5
       obtain⟨g5,cap5,rfl⟩:=own_form ho5 (by omega)
       clear hg5 hl5 hn5 ho5 B5
       replace M5:=hide M5)
     |(go_at_call 106;refine(ptake_yesI M5.out.here hs hlt hy.out (by decide) (by decide)).mono ?_;rintro e w6 ⟨rfl,hf6,h6⟩;have M6:=M5.out.call h6 hf6;rw[← hq2.out] at M6;have hC6:=pletter_any M6.here (hG.out.fr M6.fr (Ne.symm hne)) hne hs hlt2;replace M6:=hide M6;replace hC6:=hide hC6;clear hf6 h6)
     |(go_at_call 106;refine(ptake_noI M5.out.here hs hlt hy.out (by omega) (by decide)).mono ?_;rintro e w6 ⟨rfl,hf6,h6⟩;have M5':=M5.out.call h6 hf6;clear M5;have M5:=hide M5';clear M5' hf6 h6)
     |(go_at_call 162;refine hC6.out.mono ?_;rintro e w7 ⟨a,b,ev,rfl,hf7,hm⟩;obtain⟨g,hg1,rfl,hg2,h7⟩:∃ g,w6.heap.size≤g∧ev=.iface 139 (.pointer (some ⟨g,0,none⟩))∧Blk w7 g [.int .i64 (q2:Int),.iface et ex] 141∧PAt w7 bp s q2:=(by rcases hm with⟨hq,_⟩|⟨_,⟨g,q1,q2,q3⟩,q4⟩;(exact absurd (hsm2.out.symm.trans hq) (by decide));exact⟨g,q1,q2,q3,q4⟩);replace hf7:=hide hf7;replace hg2:=hide hg2;replace h7:=hide h7))
    try go_ret
    rw[hPOST.out]
    refine⟨.nilIface,_,.inl rfl,rfl,(M6.out.fr.trans hf7.out (fun _ _ e=>e)).alloc _,?_⟩
    rw[hfin.out]
    have hs6:=M6.out.fr.size
    exact⟨⟨g,Nat.le_trans hs6 hg1,rfl,hg2.out.alloc _⟩,_,hlt2,Blk.alloc h7.out _⟩
   | true=>
    have hlt3:q2+1≤s.size:=bt_pos (isSmall_pos (by rw[hz];exact hsm2))
    have hfin:=hide (show pEnum s i=if bt s (q2+1)=41 then .ok ((l++[(x,j)],some (z,q2)),q2+1+1) else .error (q2+1) by rw[hpf];unfold finE;rw[hy,if_pos rfl,show j+1+1=q2 from hq2.symm,hz,hsm2,if_pos rfl,show j+1+2=q2+1 by omega,show j+1+3=q2+1+1 by omega])
    rw[← hq2] at hlt2
    replace hq2:=hide hq2
    replace hsm2:=hide (show isSmall (bt s (q2))=true by rw[hz];exact hsm2)
    replace hy:=hide hy
    replace hz:=hide hz
    clear hpf
    go_wp2_with (first
     |(go_at_call 162;refine hC.out.mono ?_;rintro e w2 ⟨a,b,ev,rfl,hf2,hm⟩;obtain⟨rfl,rfl,rfl,h2⟩:a=(j:Int)∧b=(x:Int)∧ev=.nilIface∧PAt w2 bp s (j+1):=(by rcases hm with⟨_,q1,q2,q3,q4,_⟩|⟨hq,_⟩;(exact⟨q1,q2.trans (by rw[hx.out]),q3,q4⟩);exact absurd (hsm.out.symm.trans hq) (by decide));have M1:=(M.out.call h2 hf2).alloc (.cells #[.int .i64 (j:Int),.int .u8 (x:Int)] 146);have N1:=Blk.new w2 #[.int .i64 (j:Int),.int .u8 (x:Int)] 146;have t1:=M1.b.cell 1;have n0:=N1.cell 0;have n1:=N1.cell 1;simp only[List.getElem?_cons_zero,List.getElem?_cons_succ] at t1 n0 n1;have hbB1:=(M.out.call h2 hf2).hB;replace M1:=hide M1;clear h2 hf2 N1 hm)
     |(at_builtin;go_must (refine wpList_append_own_at _ rfl _ _ 213 rfl (b0+1) 146 ti _ 2 16 u_PLetters hi1 hi2 hi3 hi4 rfl (by decide) (.slice sa l.length sc) l.length (symCells l) rfl ?hown _ 1 1 [.int .i64 (j:Int),.int .u8 (x:Int)] rfl rfl (news_new _ #[.int .i64 (j:Int),.int .u8 (x:Int)] _ _ ?nn) ?one ?b1 ?b2 ?b3 ?_)
       case hown=>exact World.ownsRow.alloc M1.out.row _
       case nn=>simp
       case one=>simp[Value.oneCell']
       case b1=>unfold maxLen;omega
       case b2=>omega
       case b3=>simp;omega
       intro v5 w5 ho5 hg5 hn5 hl5
       have M5:=(M1.out.item ((Fr.refl _ _).alloc _) hg5 ho5 hl5 1).1
       have B5:=M1.out.itemCell ((Fr.refl _ _).alloc _) hg5
       have e5:=B5.cell 1
       have f5:=B5.thaw 1
       simp only[List.getElem?_cons_zero,List.getElem?_cons_succ] at e5
       obtain⟨g5,cap5,rfl⟩:=own_form ho5 (by omega)
       clear hg5 hl5 hn5 ho5 B5
       replace M5:=hide M5)
     |(go_at_call 106;refine(ptake_yesI M5.out.here hs hlt hy.out (by decide) (by decide)).mono ?_;rintro e w6 ⟨rfl,hf6,h6⟩;have M6:=M5.out.call h6 hf6;rw[← hq2.out] at M6;have hC6:=pletter_any M6.here (hG.out.fr M6.fr (Ne.symm hne)) hne hs hlt2;replace M6:=hide M6;replace hC6:=hide hC6;clear hf6 h6)
     |(go_at_call 106;refine(ptake_noI M5.out.here hs hlt hy.out (by omega) (by decide)).mono ?_;rintro e w6 ⟨rfl,hf6,h6⟩;have M5':=M5.out.call h6 hf6;clear M5;have M5:=hide M5';clear M5' hf6 h6)
     |(go_at_call 162;refine hC6.out.mono ?_;rintro e w7 ⟨a,b,ev,rfl,hf7,hm⟩;obtain⟨rfl,rfl,rfl,h7⟩:a=(q2:Int)∧b=(z:Int)∧ev=.nilIface∧PAt w7 bp s (q2+1):=(by rcases hm with⟨_,q1,q2,q3,q4,_⟩|⟨hq,_⟩;(exact⟨q1,q2.trans (by rw[hz.out]),q3,q4⟩);exact absurd (hsm2.out.symm.trans hq) (by decide));have M7:=(M6.out.call h7 hf7).alloc (.cells #[.int .i64 (q2:Int),.int .u8 (z:Int)] 146);have N7:=Blk.new w7 #[.int .i64 (q2:Int),.int .u8 (z:Int)] 146;have k2:=M7.b.cell 2;have kg:=M7.b.thaw 2;simp only[List.set_cons_zero,List.set_cons_succ,List.getElem?_cons_zero,List.getElem?_cons_succ] at k2;have hb7:=(M6.out.call h7 hf7).hB;have M8:=M7.put 2 (.pointer (some ⟨w7.heap.size,0,none⟩));have N8:=Blk.other N7 (a:=⟨b0,2,none⟩) (.pointer (some ⟨w7.heap.size,0,none⟩)) (by show ¬ (w7.heap.size=b0);omega);replace M8:=hide M8;replace N8:=hide N8;clear h7 hf7 N7 hm M7))
    have u0:=M8.out.b.cell 0
    have u1:=M8.out.b.cell 1
    have u2:=M8.out.b.cell 2
    simp only[List.set_cons_zero,List.set_cons_succ,List.getElem?_cons_zero,List.getElem?_cons_succ] at u0 u1 u2
    obtain⟨wd,hwd⟩:∃ W,W=((w7.alloc (.cells #[.int .i64 (q2:Int),.int .u8 (z:Int)] 146)).setCell ⟨b0,2,none⟩ (.pointer (some ⟨w7.heap.size,0,none⟩))).drew:=⟨_,rfl⟩
    have hd6:Still ((w7.alloc (.cells #[.int .i64 (q2:Int),.int .u8 (z:Int)] 146)).setCell ⟨b0,2,none⟩ (.pointer (some ⟨w7.heap.size,0,none⟩))) wd:=hwd▸Still.drew _
    have M9:=M8.out.call (M8.out.here.still hd6) ((Fr.refl _ _).still hd6)
    have hC9:=hide (pexpect_any (c:=41) 41 M9.here (hG.out.fr M9.fr (Ne.symm hne)) hne hs hlt3 rfl (by decide))
    replace M9:=hide M9
    refine wp_regionC 5 (fun W=>W.cell? ⟨b0,0,none⟩=some (.int .i64 (p:Int))∧W.cell? ⟨b0,1,none⟩=some (.slice (some ⟨g5,0,none⟩) (l.length+1) cap5)∧W.cell? ⟨b0,2,none⟩=some (.pointer (some ⟨w7.heap.size,0,none⟩))) (by kernel_rfl) ?_
    refine wpAnyC_take 0 ?v0b rfl (by kernel_rfl) (fun _ _ _ h=>h) (by kernel_rfl) ?y0b ?_
    case y0b=>(rintro W ⟨h1,h2,h3⟩;go_simp <;> rfl)
    refine wpAnyC_take 1 ?v1b rfl (by kernel_rfl) (fun _ _ _ h=>h) (by kernel_rfl) ?y1b ?_
    case y1b=>(rintro W ⟨h1,h2,h3⟩;go_simp <;> rfl)
    refine wpAnyC_take 2 ?v2b rfl (by kernel_rfl) (fun _ _ _ h=>h) (by kernel_rfl) ?y2b ?_
    case y2b=>(rintro W ⟨h1,h2,h3⟩;go_simp <;> rfl)
    refine wpAnyC_one 3 rfl (by kernel_rfl) (fun _=>⟨u0,u1,u2⟩) (fun K hK=>?_)
    go_simp
    rw[← hwd]
    refine hC9.out.mono ?_
    rintro e w8 ⟨v8,rfl,hf8,hE⟩
    refine hK _ _ ?_
    clear hK K
    have M8':∃ j8,j8≤s.size∧AM w bp s j8 b0 [.int .i64 (p:Int),(.slice (some ⟨g5,0,none⟩) (l.length+1) cap5),.pointer (some ⟨w7.heap.size,0,none⟩)] 216 146 2 (.slice (some ⟨g5,0,none⟩) (l.length+1) cap5) (l.length+1) (symCells l++[.int .i64 (j:Int),.int .u8 (x:Int)]) w8:=by
     rcases hE with⟨_,_,h8,hl8⟩|⟨_,_,h8⟩
     ·exact⟨_,hl8,M9.out.call h8 hf8⟩
     ·exact⟨_,hlt3,M9.out.call h8 hf8⟩
    obtain⟨j8,hj8,M8'⟩:=M8'
    have x0:=M8'.b.cell 0
    have x1:=M8'.b.cell 1
    have x2:=M8'.b.cell 2
    simp only[List.getElem?_cons_zero,List.getElem?_cons_succ] at x0 x1 x2
    refine wpAnyC_one 4 rfl (by kernel_rfl) (fun _=>⟨x0,x1,x2⟩) (fun K hK=>?_)
    go_simp
    refine hK _ _ ?_
    clear hK K
    refine wpAnyC_one 5 rfl (by kernel_rfl) (fun _=>⟨x0,x1,x2⟩) (fun K hK=>?_)
    go_simp
    refine hK _ _ ?_
    clear hK K
    refine wpAnyC_done (by kernel_rfl) (fun hm=>absurd hm (by decide)) ?_ _
    replace M8':=hide M8'
    replace hE:=hide hE
    replace hf8:=hide hf8
    clear x0 x1 x2 u0 u1 u2
    go_wp2_with fail
    try go_ret
    rw[hPOST.out]
    refine⟨.iface 216 (.agg #[.int .i64 (p:Int),(.slice (some ⟨g5,0,none⟩) (l.length+1) cap5),.pointer (some ⟨w7.heap.size,0,none⟩)]),v8,.inr ⟨_,_,rfl⟩,rfl,M8'.out.fr,?_⟩
    have hs9:=M9.out.fr.size
    have hw0':=M9.out.w0
    rw[hfin.out]
    rcases hE.out with⟨hb,rfl,h8,hl8⟩|⟨hb,hF,h8⟩
    ·rw[if_pos hb]
     have hN:Blk w8 w7.heap.size [.int .i64 (q2:Int),.int .u8 (z:Int)] 146:=hf8.out.blk (((Fr.refl _ (fun _=>False)).still hd6).blk N8.out id) (by have:=M.out.lt;omega)
     exact⟨rfl,h8,enum_body M8'.out ⟨w7.heap.size,by omega,rfl,hN⟩⟩
    ·rw[if_neg hb]
     exact⟨hF.less hs9,_,hlt3,h8⟩
end Go.Proofs.YtiifagiebikmdaaGreatDoor
