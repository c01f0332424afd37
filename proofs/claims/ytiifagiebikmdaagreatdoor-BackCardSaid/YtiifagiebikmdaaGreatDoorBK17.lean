import Derived.Test.YtiifagiebikmdaaGreatDoorBK16
import Derived.Test.YtiifagiebikmdaaGreatDoorBK00
import Derived.Test.YtiifagiebikmdaaGreatDoorBK03
import Derived.Laws.BitsLemmas
namespace Go.Proofs.YtiifagiebikmdaaGreatDoor
open Go.RowKit
def PEnumPost (w:World) (bp:Nat) (s:ByteArray) (i:Nat) (et:TypeId) (ex:Value) (e:Ending) (w':World):Prop:=
 ∃ v ev,IfV v∧e=.returned (.tuple #[v,ev])∧Fr w w' (· = bp)∧
 match pEnum s i with
 | .ok ((l,o),j)=>ev=.nilIface∧PAt w' bp s j∧BodyV w' (fun g=>w.heap.size≤g) s (.enum l o) v
 | .error k=>FaultAt w' w.heap.size ev (k:Int) (.iface et ex)∧∃ j,j≤s.size∧PAt w' bp s j
theorem symCells_snoc (l:List (Nat×Nat)) (c p:Nat):symCells (l++[(c,p)])=symCells l++[.int .i64 (p:Int),.int .u8 (c:Int)]:=by
 simp[symCells]
theorem AM.put {w W:World}{bp:Nat}{s:ByteArray}{j b0:Nat}{L:List Value}{T ET:TypeId}{k:Nat}{sv:Value}{n:Nat}{xs:List Value}(M:AM w bp s j b0 L T ET k sv n xs W) (c:Nat) (v:Value) :
 AM w bp s j b0 (L.set c v) T ET k sv n xs (W.setCell ⟨b0,c,none⟩ v):=by
 have h1:=M.lt
 have h2:=M.w0
 have hF:Fr W (W.setCell ⟨b0,c,none⟩ v) (fun g=>g=b0):=(Fr.refl W (fun g=>g=b0)).setCell ⟨b0,c,none⟩ v (fun _=>rfl)
 exact⟨hF.blk M.here (by omega),M.fr.trans hF (fun x hx e=>by omega),M.lt,M.w0,Nat.le_trans M.hB hF.size,M.b.set c v,ownsRow_fr M.row hF (fun g hg e=>by have:=M.row.lt g hg;omega)⟩
def ENInv (w:World) (bp:Nat) (s:ByteArray) (i b0:Nat) (p:Int) (m:Nat) (W:World):Prop:=
 ∃ j sv l,AM w bp s j b0 [.int .i64 p,sv,.pointer none] 216 146 2 sv l.length (symCells l) W∧j≤s.size∧i+l.length≤j∧s.size+1-j≤m∧pEnum s i=aheadS s l (pSyms s j)
theorem u_PLetters:Tryz.prog.underlying 213=some (.slice 146):=by kernel_rfl
theorem i_PLetter:(Tryz.prog.info? 146).map (fun i=>(i.zero,i.size,i.bytes))=some (some (.agg #[.int .i64 0,.int .u8 0]),2,16):=by kernel_rfl
theorem enum_body {w W:World}{bp:Nat}{s:ByteArray}{j b0 x y p:Nat}{l:List (Nat×Nat)}{sv u:Value}{o:Option (Nat×Nat)}{L:List Value}(M:AM w bp s j b0 L 216 146 2 sv (l.length+1) (symCells l++[.int .i64 (y:Int),.int .u8 (x:Int)]) W) (hu:UnkV W (fun g=>w.heap.size≤g) o u) :
 BodyV W (fun g=>w.heap.size≤g) s (.enum (l++[(x,y)]) o) (.iface 216 (.agg #[.int .i64 (p:Int),sv,u])):=by
 have:=M.w0
 refine .enum p ?_ (fun g e=>by have:=M.row.lt g e;omega) hu
 rw[symCells_snoc,List.length_append,List.length_singleton]
 exact own_zero M.row
set_option maxHeartbeats 16000000 in
set_option maxRecDepth 100000 in
theorem penum_any {w:World}{bp:Nat}{s:ByteArray}{i p:Nat}{et:TypeId}{ex:Value}(h:PAt w bp s i) (hG:Gram w et ex) (hne:bp≠0) (hs:s.size≤300) (hi:i≤s.size) :
 Calls Tryz.prog 137 #[.pointer (some ⟨bp,0,none⟩),.int .i64 (p:Int)] w (PEnumPost w bp s i et ex):=by
 obtain⟨POST,hPOST⟩:∃ P,Hid (P=PEnumPost w bp s i et ex):=⟨_,rfl⟩
 rw[← hPOST.out]
 have hbp:=h.lt
 have hgl:=World.block_lt_of_cell? w ⟨0,0,none⟩ hG
 replace hG:=hide hG
 have hE:=hide (pexpect_any 40 (c:=40) h hG.out hne hs hi rfl (by decide))
 clear h
 by_cases h40:bt s i=40
 case neg=>
  have hres:=hide (show pEnum s i=.error i by unfold pEnum;rw[if_neg h40])
  replace h40:=hide h40
  go_enter Tryz.func137,Tryz.ntmps137
  go_wp2_with (go_at_call 105;refine hE.out.mono ?_;rintro e w1 ⟨v1,rfl,hf1,hm⟩;obtain⟨g,hg1,rfl,hg2,h1⟩:∃ g,w.heap.size≤g∧v1=.iface 139 (.pointer (some ⟨g,0,none⟩))∧Blk w1 g [.int .i64 (i:Int),.iface et ex] 141∧PAt w1 bp s i:=(by rcases hm with⟨hq,_⟩|⟨_,⟨g,q1,q2,q3⟩,q4⟩;(exact absurd hq h40.out);exact⟨g,q1,q2,q3,q4⟩);replace hf1:=hide hf1;replace hg2:=hide hg2;replace h1:=hide h1)
  try go_ret
  rw[hPOST.out]
  refine⟨.nilIface,_,.inl rfl,rfl,hf1.out,?_⟩
  rw[hres.out]
  exact⟨⟨g,hg1,rfl,hg2.out⟩,i,hi,h1.out⟩
 case pos=>
  have hlt0:i+1≤s.size:=bt_pos (s:=s) (i:=i) (by omega)
  have hres:=hide (show pEnum s i=aheadS s [] (pSyms s (i+1)) by rw[pEnum_eq,if_pos h40])
  replace h40:=hide h40
  go_enter Tryz.func137,Tryz.ntmps137
  go_wp2_with (go_at_call 105;refine hE.out.mono ?_;rintro e w1 ⟨v1,rfl,hf1,hm⟩;obtain⟨rfl,h1⟩:v1=.nilIface∧PAt w1 bp s (i+1):=(by rcases hm with⟨_,q1,q2,_⟩|⟨hq,_⟩;(exact⟨q1,q2⟩);exact absurd h40.out hq);have hs1:=hf1.size;have start:ENInv w bp s i w1.heap.size (p:Int) (s.size+1) (w1.alloc (.cells #[.int .i64 (p:Int),.slice none 0 0,.pointer none] 216)):=⟨i+1,.slice none 0 0,[],⟨Blk.alloc h1 _,hf1.alloc _,hbp,hs1,(by simp),Blk.new w1 _ _,World.ownsRow_nil _ _ _ _⟩,hlt0,(by simp),(by omega),hres.out⟩;replace start:=hide start;clear hf1 hm h1 hE)
  obtain⟨b0,hb0⟩:∃ b,b=w1.heap.size:=⟨_,rfl⟩
  rw[← hb0] at start⊢
  clear hb0
  go_loopg [] (s.size+1) (fun m W=>ENInv w bp s i b0 (p:Int) m W)
  case atStart=>exact start.out
  case round=>
   clear start hres
   obtain⟨j,sv,l,M,hj,hij,hm,hpf⟩:=hrel
   obtain⟨sa,sc,rfl⟩:=own_sl M.row
   have hds:l.length≤300:=by omega
   have hC:=hide (pletter_any M.here (hG.out.fr M.fr (Ne.symm hne)) hne hs hj)
   have hsz:=M.fr.size
   have hbB:=M.hB
   have hw0:=M.w0
   rw[aheadS_step] at hpf
   obtain⟨ti,hi1,hi2,hi3,hi4⟩:=info_parts i_PLetter
   replace M:=hide M
   obtain⟨x,hx⟩:∃ x,bt s j=x:=⟨_,rfl⟩
   cases hsm:isSmall x with
   | false=>
    have hfin:=hide (show pEnum s i=.error j by rw[hpf,hx,hsm];rfl)
    replace hsm:=hide (show isSmall (bt s j)=false by rw[hx];exact hsm)
    replace hx:=hide hx
    clear hpf
    go_wp2_with (first
     |(go_at_call 162;refine hC.out.mono ?_;rintro e w2 ⟨a,b,ev,rfl,hf2,hm⟩;obtain⟨g,hg1,rfl,hg2,h2⟩:∃ g,wr.heap.size≤g∧ev=.iface 139 (.pointer (some ⟨g,0,none⟩))∧Blk w2 g [.int .i64 (j:Int),.iface et ex] 141∧PAt w2 bp s j:=(by rcases hm with⟨hq,_⟩|⟨_,⟨g,q1,q2,q3⟩,q4⟩;(exact absurd (hsm.out.symm.trans hq) (by decide));exact⟨g,q1,q2,q3,q4⟩);replace hf2:=hide hf2;replace hg2:=hide hg2;replace h2:=hide h2))
    try go_ret
    rw[hPOST.out]
    refine⟨.nilIface,_,.inl rfl,rfl,(M.out.fr.trans hf2.out (fun _ _ e=>e)).alloc _,?_⟩
    rw[hfin.out]
    exact⟨⟨g,Nat.le_trans hsz hg1,rfl,hg2.out.alloc _⟩,j,hj,Blk.alloc h2.out _⟩
   | true=>
   have hlt:j+1≤s.size:=bt_pos (isSmall_pos (by rw[hx];exact hsm))
   rw[hx,hsm,if_pos rfl] at hpf
   replace hsm:=hide (show isSmall (bt s j)=true by rw[hx];exact hsm)
   replace hx:=hide hx
   obtain⟨y,hy⟩:∃ y,bt s (j+1)=y:=⟨_,rfl⟩
   rw[hy] at hpf
   by_cases h44:y=44
   case pos=>
    subst h44
    rw[if_pos rfl] at hpf
    replace hpf:=hide hpf
    have hlt2:j+1+1≤s.size:=bt_pos (s:=s) (i:=j+1) (by omega)
    replace hy:=hide hy
    go_wp2_with (first
     |(go_at_call 162;refine hC.out.mono ?_;rintro e w2 ⟨a,b,ev,rfl,hf2,hm⟩;obtain⟨rfl,rfl,rfl,h2⟩:a=(j:Int)∧b=(x:Int)∧ev=.nilIface∧PAt w2 bp s (j+1):=(by rcases hm with⟨_,q1,q2,q3,q4,_⟩|⟨hq,_⟩;(exact⟨q1,q2.trans (by rw[hx.out]),q3,q4⟩);exact absurd (hsm.out.symm.trans hq) (by decide));have M1:=(M.out.call h2 hf2).alloc (.cells #[.int .i64 (j:Int),.int .u8 (x:Int)] 146);have N1:=Blk.new w2 #[.int .i64 (j:Int),.int .u8 (x:Int)] 146;have t1:=M1.b.cell 1;have n0:=N1.cell 0;have n1:=N1.cell 1;simp only[List.getElem?_cons_zero,List.getElem?_cons_succ] at t1 n0 n1;have hbB1:=(M.out.call h2 hf2).hB;replace M1:=hide M1;clear h2 hf2 N1 hm)
     |(at_builtin;go_must (refine wpList_append_own_at _ rfl _ _ 213 rfl (b0+1) 146 ti _ 2 16 u_PLetters hi1 hi2 hi3 hi4 rfl (by decide) (.slice sa l.length sc) l.length (symCells l) rfl ?hown _ 1 1 [.int .i64 (j:Int),.int .u8 (x:Int)] rfl rfl (news_new _ #[.int .i64 (j:Int),.int .u8 (x:Int)] _ _ ?nn) ?one ?b1 ?b2 ?b3 ?_)
       case hown=>exact World.ownsRow.alloc M1.out.row _
       case nn=>simp
       case one=>simp[Value.oneCell']
       case b1=>unfold maxLen;omega
       case b2=>omega
       case b3=>simp;omega
       intro v5 w5 ho5 hg5 hn5 hl5
       have M5:=(M1.out.item ((Fr.refl _ _).alloc _) hg5 ho5 hl5 1).1
       have B5:=M1.out.itemCell ((Fr.refl _ _).alloc _) hg5
       have e5:=B5.cell 1
       have f5:=B5.thaw 1
       simp only[List.getElem?_cons_zero,List.getElem?_cons_succ] at e5
       obtain⟨g5,cap5,rfl⟩:=own_form ho5 (by omega)
       clear hg5 hl5 hn5 ho5 B5
       replace M5:=hide M5)
     |(go_at_call 106;refine(ptake_yesI M5.out.here hs hlt hy.out (by decide) (by decide)).mono ?_;rintro e w6 ⟨rfl,hf6,h6⟩;have M6:=M5.out.call h6 hf6;replace M6:=hide M6;clear hf6 h6))
    go_roundg (s.size+1-(j+2))
    case measure=>omega
    case rel=>
     refine⟨j+2,.slice (some ⟨g5,0,none⟩) (l.length+1) cap5,l++[(x,j)],?_,hlt2,by rw[List.length_append,List.length_singleton];omega,Nat.le_refl _,hpf.out⟩
     rw[symCells_snoc,List.length_append,List.length_singleton]
     exact M6.out
   case neg=>
   rw[if_neg h44] at hpf
   by_cases h33:y=33
   case neg=>
    have hfin:=hide (show pEnum s i=if bt s (j+1)=41 then .ok ((l++[(x,j)],none),j+2) else .error (j+1) by rw[hpf];unfold finE;rw[hy,if_neg h33])
    replace hy:=hide hy
    clear hpf
    go_wp2_with (first
     |(go_at_call 162;refine hC.out.mono ?_;rintro e w2 ⟨a,b,ev,rfl,hf2,hm⟩;obtain⟨rfl,rfl,rfl,h2⟩:a=(j:Int)∧b=(x:Int)∧ev=.nilIface∧PAt w2 bp s (j+1):=(by rcases hm with⟨_,q1,q2,q3,q4,_⟩|⟨hq,_⟩;(exact⟨q1,q2.trans (by rw[hx.out]),q3,q4⟩);exact absurd (hsm.out.symm.trans hq) (by decide));have M1:=(M.out.call h2 hf2).alloc (.cells #[.int .i64 (j:Int),.int .u8 (x:Int)] 146);have N1:=Blk.new w2 #[.int .i64 (j:Int),.int .u8 (x:Int)] 146;have t1:=M1.b.cell 1;have n0:=N1.cell 0;have n1:=N1.cell 1;simp only[List.getElem?_cons_zero,List.getElem?_cons_succ] at t1 n0 n1;have hbB1:=(M.out.call h2 hf2).hB;replace M1:=hide M1;clear h2 hf2 N1 hm)
     |(at_builtin;go_must (refine wpList_append_own_at _ rfl _ _ 213 rfl (b0+1) 146 ti _ 2 16 u_PLetters hi1 hi2 hi3 hi4 rfl (by decide) (.slice sa l.length sc) l.length (symCells l) rfl ?hown _ 1 1 [.int .i64 (j:Int),.int .u8 (x:Int)] rfl rfl (news_new _ #[.int .i64 (j:Int),.int .u8 (x:Int)] _ _ ?nn) ?one ?b1 ?b2 ?b3 ?_)
       case hown=>exact World.ownsRow.alloc M1.out.row _
       case nn=>simp
       case one=>simp[Value.oneCell']
       case b1=>unfold maxLen;omega
       case b2=>omega
       case b3=>simp;omega
       intro v5 w5 ho5 hg5 hn5 hl5
       have M5:=(M1.out.item ((Fr.refl _ _).alloc _) hg5 ho5 hl5 1).1
       have B5:=M1.out.itemCell ((Fr.refl _ _).alloc _) hg5
       have e5:=B5.cell 1
       have f5:=B5.thaw 1
       simp only[List.getElem?_cons_zero,List.getElem?_cons_succ] at e5
       obtain⟨g5,cap5,rfl⟩:=own_form ho5 (by omega)
       clear hg5 hl5 hn5 ho5 B5
       replace M5:=hide M5)
     |(go_at_call 106;refine(ptake_noI M5.out.here hs hlt hy.out (by omega) (by decide)).mono ?_;rintro e w6 ⟨rfl,hf6,h6⟩;have M5':=M5.out.call h6 hf6;clear M5;have M5:=hide M5';clear M5' hf6 h6))
    have u0:=M5.out.b.cell 0
    have u1:=M5.out.b.cell 1
    have u2:=M5.out.b.cell 2
    simp only[List.set_cons_zero,List.set_cons_succ,List.getElem?_cons_zero,List.getElem?_cons_succ] at u0 u1 u2
    obtain⟨wd,hwd⟩:∃ W,W=(w6).drew:=⟨_,rfl⟩
    have hd6:Still (w6) wd:=hwd▸Still.drew _
    have M9:=M5.out.call (M5.out.here.still hd6) ((Fr.refl _ _).still hd6)
    have hC9:=hide (pexpect_any (c:=41) 41 M9.here (hG.out.fr M9.fr (Ne.symm hne)) hne hs hlt rfl (by decide))
    replace M9:=hide M9
    refine wp_regionC 5 (fun W=>W.cell? ⟨b0,0,none⟩=some (.int .i64 (p:Int))∧W.cell? ⟨b0,1,none⟩=some (.slice (some ⟨g5,0,none⟩) (l.length+1) cap5)∧W.cell? ⟨b0,2,none⟩=some (.pointer none)) (by kernel_rfl) ?_
    refine wpAnyC_take 0 ?v0 rfl (by kernel_rfl) (fun _ _ _ h=>h) (by kernel_rfl) ?y0 ?_
    case y0=>(rintro W ⟨h1,h2,h3⟩;go_simp <;> rfl)
    refine wpAnyC_take 1 ?v1 rfl (by kernel_rfl) (fun _ _ _ h=>h) (by kernel_rfl) ?y1 ?_
    case y1=>(rintro W ⟨h1,h2,h3⟩;go_simp <;> rfl)
    refine wpAnyC_take 2 ?v2 rfl (by kernel_rfl) (fun _ _ _ h=>h) (by kernel_rfl) ?y2 ?_
    case y2=>(rintro W ⟨h1,h2,h3⟩;go_simp <;> rfl)
    refine wpAnyC_one 3 rfl (by kernel_rfl) (fun _=>⟨u0,u1,u2⟩) (fun K hK=>?_)
    go_simp
    rw[← hwd]
    refine hC9.out.mono ?_
    rintro e w8 ⟨v8,rfl,hf8,hE⟩
    refine hK _ _ ?_
    clear hK K
    have M8':∃ j8,j8≤s.size∧AM w bp s j8 b0 [.int .i64 (p:Int),(.slice (some ⟨g5,0,none⟩) (l.length+1) cap5),.pointer none] 216 146 2 (.slice (some ⟨g5,0,none⟩) (l.length+1) cap5) (l.length+1) (symCells l++[.int .i64 (j:Int),.int .u8 (x:Int)]) w8:=by
     rcases hE with⟨_,_,h8,hl8⟩|⟨_,_,h8⟩
     ·exact⟨_,hl8,M9.out.call h8 hf8⟩
     ·exact⟨_,hlt,M9.out.call h8 hf8⟩
    obtain⟨j8,hj8,M8'⟩:=M8'
    have x0:=M8'.b.cell 0
    have x1:=M8'.b.cell 1
    have x2:=M8'.b.cell 2
    simp only[List.getElem?_cons_zero,List.getElem?_cons_succ] at x0 x1 x2
    refine wpAnyC_one 4 rfl (by kernel_rfl) (fun _=>⟨x0,x1,x2⟩) (fun K hK=>?_)
    go_simp
    refine hK _ _ ?_
    clear hK K
    refine wpAnyC_one 5 rfl (by kernel_rfl) (fun _=>⟨x0,x1,x2⟩) (fun K hK=>?_)
    go_simp
    refine hK _ _ ?_
    clear hK K
    refine wpAnyC_done (by kernel_rfl) (fun hm=>absurd hm (by decide)) ?_ _
    replace M8':=hide M8'
    replace hE:=hide hE
    replace hf8:=hide hf8
    clear x0 x1 x2 u0 u1 u2
    go_wp2_with fail
    try go_ret
    rw[hPOST.out]
    refine⟨.iface 216 (.agg #[.int .i64 (p:Int),(.slice (some ⟨g5,0,none⟩) (l.length+1) cap5),.pointer none]),v8,.inr ⟨_,_,rfl⟩,rfl,M8'.out.fr,?_⟩
    have hs9:=M9.out.fr.size
    have hw0':=M9.out.w0
    rw[hfin.out]
    rcases hE.out with⟨hb,rfl,h8,hl8⟩|⟨hb,hF,h8⟩
    ·rw[if_pos hb]
     exact⟨rfl,h8,enum_body M8'.out rfl⟩
    ·rw[if_neg hb]
     exact⟨hF.less hs9,_,hlt,h8⟩
   case pos=>
   subst h33
   have hlt2:j+1+1≤s.size:=bt_pos (s:=s) (i:=j+1) (by omega)
   have hn44:(33:Nat)≠44:=by decide
   obtain⟨q2,hq2⟩:∃ q,q=j+1+1:=⟨_,rfl⟩
   obtain⟨z,hz⟩:∃ z,bt s (q2)=z:=⟨_,rfl⟩
   cases hsm2:isSmall z with
   | false=>
    have hfin:=hide (show pEnum s i=.error q2 by rw[hpf];unfold finE;rw[hy,if_pos rfl,show j+1+1=q2 from hq2.symm,hz,hsm2];rfl)
    rw[← hq2] at hlt2
    replace hq2:=hide hq2
    replace hsm2:=hide (show isSmall (bt s (q2))=false by rw[hz];exact hsm2)
    replace hy:=hide hy
    replace hz:=hide hz
    clear hpf
    go_wp2_with (first
     |(go_at_call 162;refine hC.out.mono ?_;rintro e w2 ⟨a,b,ev,rfl,hf2,hm⟩;obtain⟨rfl,rfl,rfl,h2⟩:a=(j:Int)∧b=(x:Int)∧ev=.nilIface∧PAt w2 bp s (j+1):=(by rcases hm with⟨_,q1,q2,q3,q4,_⟩|⟨hq,_⟩;(exact⟨q1,q2.trans (by rw[hx.out]),q3,q4⟩);exact absurd (hsm.out.symm.trans hq) (by decide));have M1:=(M.out.call h2 hf2).alloc (.cells #[.int .i64 (j:Int),.int .u8 (x:Int)] 146);have N1:=Blk.new w2 #[.int .i64 (j:Int),.int .u8 (x:Int)] 146;have t1:=M1.b.cell 1;have n0:=N1.cell 0;have n1:=N1.cell 1;simp only[List.getElem?_cons_zero,List.getElem?_cons_succ] at t1 n0 n1;have hbB1:=(M.out.call h2 hf2).hB;replace M1:=hide M1;clear h2 hf2 N1 hm)
     |(at_builtin;go_must (refine wpList_append_own_at _ rfl _ _ 213 rfl (b0+1) 146 ti _ 2 16 u_PLetters hi1 hi2 hi3 hi4 rfl (by decide) (.slice sa l.length sc) l.length (symCells l) rfl ?hown _ 1 1 [.int .i64 (j:Int),.int .u8 (x:Int)] rfl rfl (news_new _ #[.int .i64 (j:Int),.int .u8 (x:Int)] _ _ ?nn) ?one ?b1 ?b2 ?b3 ?_)
       case hown=>exact World.ownsRow.alloc M1.out.row _
       case nn=>simp
       case one=>simp[Value.oneCell']
       case b1=>unfold maxLen;omega
       case b2=>omega
       case b3=>simp;omega
       intro v5 w5 ho5 hg5 hn5 hl5
       have M5:=(M1.out.item ((Fr.refl _ _).alloc _) hg5 ho5 hl5 1).1
       have B5:=M1.out.itemCell ((Fr.refl _ _).alloc _) hg5
       have e5:=B5.cell 1
       have f5:=B5.thaw 1
       simp only[List.getElem?_cons_zero,List.getElem?_cons_succ] at e5
       obtain⟨g5,cap5,rfl⟩:=own_form ho5 (by omega)
       clear hg5 hl5 hn5 ho5 B5
       replace M5:=hide M5)
     |(go_at_call 106;refine(ptake_yesI M5.out.here hs hlt hy.out (by decide) (by decide)).mono ?_;rintro e w6 ⟨rfl,hf6,h6⟩;have M6:=M5.out.call h6 hf6;rw[← hq2.out] at M6;have hC6:=pletter_any M6.here (hG.out.fr M6.fr (Ne.symm hne)) hne hs hlt2;replace M6:=hide M6;replace hC6:=hide hC6;clear hf6 h6)
     |(go_at_call 106;refine(ptake_noI M5.out.here hs hlt hy.out (by omega) (by decide)).mono ?_;rintro e w6 ⟨rfl,hf6,h6⟩;have M5':=M5.out.call h6 hf6;clear M5;have M5:=hide M5';clear M5' hf6 h6)
     |(go_at_call 162;refine hC6.out.mono ?_;rintro e w7 ⟨a,b,ev,rfl,hf7,hm⟩;obtain⟨g,hg1,rfl,hg2,h7⟩:∃ g,w6.heap.size≤g∧ev=.iface 139 (.pointer (some ⟨g,0,none⟩))∧Blk w7 g [.int .i64 (q2:Int),.iface et ex] 141∧PAt w7 bp s q2:=(by rcases hm with⟨hq,_⟩|⟨_,⟨g,q1,q2,q3⟩,q4⟩;(exact absurd (hsm2.out.symm.trans hq) (by decide));exact⟨g,q1,q2,q3,q4⟩);replace hf7:=hide hf7;replace hg2:=hide hg2;replace h7:=hide h7))
    try go_ret
    rw[hPOST.out]
    refine⟨.nilIface,_,.inl rfl,rfl,(M6.out.fr.trans hf7.out (fun _ _ e=>e)).alloc _,?_⟩
    rw[hfin.out]
    have hs6:=M6.out.fr.size
    exact⟨⟨g,Nat.le_trans hs6 hg1,rfl,hg2.out.alloc _⟩,_,hlt2,Blk.alloc h7.out _⟩
   | true=>
    have hlt3:q2+1≤s.size:=bt_pos (isSmall_pos (by rw[hz];exact hsm2))
    have hfin:=hide (show pEnum s i=if bt s (q2+1)=41 then .ok ((l++[(x,j)],some (z,q2)),q2+1+1) else .error (q2+1) by rw[hpf];unfold finE;rw[hy,if_pos rfl,show j+1+1=q2 from hq2.symm,hz,hsm2,if_pos rfl,show j+1+2=q2+1 by omega,show j+1+3=q2+1+1 by omega])
    rw[← hq2] at hlt2
    replace hq2:=hide hq2
    replace hsm2:=hide (show isSmall (bt s (q2))=true by rw[hz];exact hsm2)
    replace hy:=hide hy
    replace hz:=hide hz
    clear hpf
    go_wp2_with (first
     |(go_at_call 162;refine hC.out.mono ?_;rintro e w2 ⟨a,b,ev,rfl,hf2,hm⟩;obtain⟨rfl,rfl,rfl,h2⟩:a=(j:Int)∧b=(x:Int)∧ev=.nilIface∧PAt w2 bp s (j+1):=(by rcases hm with⟨_,q1,q2,q3,q4,_⟩|⟨hq,_⟩;(exact⟨q1,q2.trans (by rw[hx.out]),q3,q4⟩);exact absurd (hsm.out.symm.trans hq) (by decide));have M1:=(M.out.call h2 hf2).alloc (.cells #[.int .i64 (j:Int),.int .u8 (x:Int)] 146);have N1:=Blk.new w2 #[.int .i64 (j:Int),.int .u8 (x:Int)] 146;have t1:=M1.b.cell 1;have n0:=N1.cell 0;have n1:=N1.cell 1;simp only[List.getElem?_cons_zero,List.getElem?_cons_succ] at t1 n0 n1;have hbB1:=(M.out.call h2 hf2).hB;replace M1:=hide M1;clear h2 hf2 N1 hm)
     |(at_builtin;go_must (refine wpList_append_own_at _ rfl _ _ 213 rfl (b0+1) 146 ti _ 2 16 u_PLetters hi1 hi2 hi3 hi4 rfl (by decide) (.slice sa l.length sc) l.length (symCells l) rfl ?hown _ 1 1 [.int .i64 (j:Int),.int .u8 (x:Int)] rfl rfl (news_new _ #[.int .i64 (j:Int),.int .u8 (x:Int)] _ _ ?nn) ?one ?b1 ?b2 ?b3 ?_)
       case hown=>exact World.ownsRow.alloc M1.out.row _
       case nn=>simp
       case one=>simp[Value.oneCell']
       case b1=>unfold maxLen;omega
       case b2=>omega
       case b3=>simp;omega
       intro v5 w5 ho5 hg5 hn5 hl5
       have M5:=(M1.out.item ((Fr.refl _ _).alloc _) hg5 ho5 hl5 1).1
       have B5:=M1.out.itemCell ((Fr.refl _ _).alloc _) hg5
       have e5:=B5.cell 1
       have f5:=B5.thaw 1
       simp only[List.getElem?_cons_zero,List.getElem?_cons_succ] at e5
       obtain⟨g5,cap5,rfl⟩:=own_form ho5 (by omega)
       clear hg5 hl5 hn5 ho5 B5
       replace M5:=hide M5)
     |(go_at_call 106;refine(ptake_yesI M5.out.here hs hlt hy.out (by decide) (by decide)).mono ?_;rintro e w6 ⟨rfl,hf6,h6⟩;have M6:=M5.out.call h6 hf6;rw[← hq2.out] at M6;have hC6:=pletter_any M6.here (hG.out.fr M6.fr (Ne.symm hne)) hne hs hlt2;replace M6:=hide M6;replace hC6:=hide hC6;clear hf6 h6)
     |(go_at_call 106;refine(ptake_noI M5.out.here hs hlt hy.out (by omega) (by decide)).mono ?_;rintro e w6 ⟨rfl,hf6,h6⟩;have M5':=M5.out.call h6 hf6;clear M5;have M5:=hide M5';clear M5' hf6 h6)
     |(go_at_call 162;refine hC6.out.mono ?_;rintro e w7 ⟨a,b,ev,rfl,hf7,hm⟩;obtain⟨rfl,rfl,rfl,h7⟩:a=(q2:Int)∧b=(z:Int)∧ev=.nilIface∧PAt w7 bp s (q2+1):=(by rcases hm with⟨_,q1,q2,q3,q4,_⟩|⟨hq,_⟩;(exact⟨q1,q2.trans (by rw[hz.out]),q3,q4⟩);exact absurd (hsm2.out.symm.trans hq) (by decide));have M7:=(M6.out.call h7 hf7).alloc (.cells #[.int .i64 (q2:Int),.int .u8 (z:Int)] 146);have N7:=Blk.new w7 #[.int .i64 (q2:Int),.int .u8 (z:Int)] 146;have k2:=M7.b.cell 2;have kg:=M7.b.thaw 2;simp only[List.set_cons_zero,List.set_cons_succ,List.getElem?_cons_zero,List.getElem?_cons_succ] at k2;have hb7:=(M6.out.call h7 hf7).hB;have M8:=M7.put 2 (.pointer (some ⟨w7.heap.size,0,none⟩));have N8:=Blk.other N7 (a:=⟨b0,2,none⟩) (.pointer (some ⟨w7.heap.size,0,none⟩)) (by show ¬ (w7.heap.size=b0);omega);replace M8:=hide M8;replace N8:=hide N8;clear h7 hf7 N7 hm M7))
    have u0:=M8.out.b.cell 0
    have u1:=M8.out.b.cell 1
    have u2:=M8.out.b.cell 2
    simp only[List.set_cons_zero,List.set_cons_succ,List.getElem?_cons_zero,List.getElem?_cons_succ] at u0 u1 u2
    obtain⟨wd,hwd⟩:∃ W,W=((w7.alloc (.cells #[.int .i64 (q2:Int),.int .u8 (z:Int)] 146)).setCell ⟨b0,2,none⟩ (.pointer (some ⟨w7.heap.size,0,none⟩))).drew:=⟨_,rfl⟩
    have hd6:Still ((w7.alloc (.cells #[.int .i64 (q2:Int),.int .u8 (z:Int)] 146)).setCell ⟨b0,2,none⟩ (.pointer (some ⟨w7.heap.size,0,none⟩))) wd:=hwd▸Still.drew _
    have M9:=M8.out.call (M8.out.here.still hd6) ((Fr.refl _ _).still hd6)
    have hC9:=hide (pexpect_any (c:=41) 41 M9.here (hG.out.fr M9.fr (Ne.symm hne)) hne hs hlt3 rfl (by decide))
    replace M9:=hide M9
    refine wp_regionC 5 (fun W=>W.cell? ⟨b0,0,none⟩=some (.int .i64 (p:Int))∧W.cell? ⟨b0,1,none⟩=some (.slice (some ⟨g5,0,none⟩) (l.length+1) cap5)∧W.cell? ⟨b0,2,none⟩=some (.pointer (some ⟨w7.heap.size,0,none⟩))) (by kernel_rfl) ?_
    refine wpAnyC_take 0 ?v0b rfl (by kernel_rfl) (fun _ _ _ h=>h) (by kernel_rfl) ?y0b ?_
    case y0b=>(rintro W ⟨h1,h2,h3⟩;go_simp <;> rfl)
    refine wpAnyC_take 1 ?v1b rfl (by kernel_rfl) (fun _ _ _ h=>h) (by kernel_rfl) ?y1b ?_
    case y1b=>(rintro W ⟨h1,h2,h3⟩;go_simp <;> rfl)
    refine wpAnyC_take 2 ?v2b rfl (by kernel_rfl) (fun _ _ _ h=>h) (by kernel_rfl) ?y2b ?_
    case y2b=>(rintro W ⟨h1,h2,h3⟩;go_simp <;> rfl)
    refine wpAnyC_one 3 rfl (by kernel_rfl) (fun _=>⟨u0,u1,u2⟩) (fun K hK=>?_)
    go_simp
    rw[← hwd]
    refine hC9.out.mono ?_
    rintro e w8 ⟨v8,rfl,hf8,hE⟩
    refine hK _ _ ?_
    clear hK K
    have M8':∃ j8,j8≤s.size∧AM w bp s j8 b0 [.int .i64 (p:Int),(.slice (some ⟨g5,0,none⟩) (l.length+1) cap5),.pointer (some ⟨w7.heap.size,0,none⟩)] 216 146 2 (.slice (some ⟨g5,0,none⟩) (l.length+1) cap5) (l.length+1) (symCells l++[.int .i64 (j:Int),.int .u8 (x:Int)]) w8:=by
     rcases hE with⟨_,_,h8,hl8⟩|⟨_,_,h8⟩
     ·exact⟨_,hl8,M9.out.call h8 hf8⟩
     ·exact⟨_,hlt3,M9.out.call h8 hf8⟩
    obtain⟨j8,hj8,M8'⟩:=M8'
    have x0:=M8'.b.cell 0
    have x1:=M8'.b.cell 1
    have x2:=M8'.b.cell 2
    simp only[List.getElem?_cons_zero,List.getElem?_cons_succ] at x0 x1 x2
    refine wpAnyC_one 4 rfl (by kernel_rfl) (fun _=>⟨x0,x1,x2⟩) (fun K hK=>?_)
    go_simp
    refine hK _ _ ?_
    clear hK K
    refine wpAnyC_one 5 rfl (by kernel_rfl) (fun _=>⟨x0,x1,x2⟩) (fun K hK=>?_)
    go_simp
    refine hK _ _ ?_
    clear hK K
    refine wpAnyC_done (by kernel_rfl) (fun hm=>absurd hm (by decide)) ?_ _
    replace M8':=hide M8'
    replace hE:=hide hE
    replace hf8:=hide hf8
    clear x0 x1 x2 u0 u1 u2
    go_wp2_with fail
    try go_ret
    rw[hPOST.out]
    refine⟨.iface 216 (.agg #[.int .i64 (p:Int),(.slice (some ⟨g5,0,none⟩) (l.length+1) cap5),.pointer (some ⟨w7.heap.size,0,none⟩)]),v8,.inr ⟨_,_,rfl⟩,rfl,M8'.out.fr,?_⟩
    have hs9:=M9.out.fr.size
    have hw0':=M9.out.w0
    rw[hfin.out]
    rcases hE.out with⟨hb,rfl,h8,hl8⟩|⟨hb,hF,h8⟩
    ·rw[if_pos hb]
     have hN:Blk w8 w7.heap.size [.int .i64 (q2:Int),.int .u8 (z:Int)] 146:=hf8.out.blk (((Fr.refl _ (fun _=>False)).still hd6).blk N8.out id) (by have:=M.out.lt;omega)
     exact⟨rfl,h8,enum_body M8'.out ⟨w7.heap.size,by omega,rfl,hN⟩⟩
    ·rw[if_neg hb]
     exact⟨hF.less hs9,_,hlt3,h8⟩
open Go.RowKit
def PBodyPost (w:World) (bp:Nat) (s:ByteArray) (i:Nat) (et:TypeId) (ex:Value) (e:Ending) (w':World):Prop:=
 ∃ v ev,IfV v∧e=.returned (.tuple #[v,ev])∧Fr w w' (· = bp)∧
 match pDefn s i with
 | .ok (b,j)=>ev=.nilIface∧PAt w' bp s j∧BodyV w' (fun g=>w.heap.size≤g) s b v
 | .error k=>FaultAt w' w.heap.size ev (k:Int) (.iface et ex)∧∃ j,j≤s.size∧PAt w' bp s j
set_option maxHeartbeats 4000000 in
set_option maxRecDepth 100000 in
theorem pbody_any {w:World}{bp:Nat}{s:ByteArray}{i:Nat}{et:TypeId}{ex:Value}(h:PAt w bp s i) (hG:Gram w et ex) (hne:bp≠0) (hs:s.size≤300) (hi:i≤s.size) :
 Calls Tryz.prog 104 #[.pointer (some ⟨bp,0,none⟩)] w (PBodyPost w bp s i et ex):=by
 obtain⟨POST,hPOST⟩:∃ P,Hid (P=PBodyPost w bp s i et ex):=⟨_,rfl⟩
 rw[← hPOST.out]
 have hbp:=h.lt
 have H:=hide (And.intro h (Fr.refl w (fun x=>x=bp)))
 replace hG:=hide hG
 clear h
 by_cases h114:bt s i=114
 ·have hlt:i+1≤s.size:=bt_pos (s:=s) (i:=i) (by omega)
  have hp:=hide (pDefn_rec h114)
  have hx:=hide h114
  clear h114
  go_enter Tryz.func104,Tryz.ntmps104
  go_wp2_with (first
   |(go_at_call 103;refine(pspot_any H.out.1).mono ?_;rintro e w' ⟨rfl,hw'⟩;rw[hw'])
   |(go_at_call 106;refine(ptake_yesI H.out.1 hs hi hx.out (by decide) (by decide)).mono ?_;rintro e w' ⟨rfl,hf',h'⟩;have H1:=hide (And.intro h' (H.out.2.trans hf' (fun _ _ e=>e)));clear hf' h')
   |(go_at_call 136;refine(precord_any (p:=i) H1.out.1 (hG.out.fr H1.out.2 (Ne.symm hne)) hne hs hlt).mono ?_;rintro e w3 ⟨v,ev,hI,rfl,hf3,hm⟩;replace hf3:=hide hf3;replace hm:=hide hm;replace hI:=hide hI))
  try go_ret
  rw[hPOST.out]
  have hsz:=H1.out.2.size
  refine⟨v,ev,hI.out,rfl,H1.out.2.trans hf3.out (fun _ _ e=>e),?_⟩
  rw[hp.out]
  have hm':=hm.out
  cases hq:pRecord s (i+1) with
  | error k=>rw[hq] at hm';exact⟨hm'.1.less hsz,hm'.2⟩
  | ok r=>
   obtain⟨fs,j⟩:=r
   rw[hq] at hm'
   exact⟨hm'.1,hm'.2.1,hm'.2.2.mono (fun g _ hg=>Nat.le_trans hsz hg)⟩
 ·by_cases h101:bt s i=101
  ·have hlt:i+1≤s.size:=bt_pos (s:=s) (i:=i) (by omega)
   have hp:=hide (pDefn_enum h101)
   have hx:=hide h101
   clear h101 h114
   go_enter Tryz.func104,Tryz.ntmps104
   go_wp2_with (first
    |(go_at_call 103;refine(pspot_any H.out.1).mono ?_;rintro e w' ⟨rfl,hw'⟩;rw[hw'])
    |(go_at_call 106;refine(ptake_yesI H.out.1 hs hi hx.out (by decide) (by decide)).mono ?_;rintro e w' ⟨rfl,hf',h'⟩;have H1:=hide (And.intro h' (H.out.2.trans hf' (fun _ _ e=>e)));clear hf' h')
    |(go_at_call 106;refine(ptake_noI H.out.1 hs hi hx.out (by decide) (by decide)).mono ?_;rintro e w' ⟨rfl,hf',h'⟩;replace H:=hide (And.intro h' (H.out.2.trans hf' (fun _ _ e=>e)));clear hf' h')
    |(go_at_call 137;refine(penum_any (p:=i) H1.out.1 (hG.out.fr H1.out.2 (Ne.symm hne)) hne hs hlt).mono ?_;rintro e w3 ⟨v,ev,hI,rfl,hf3,hm⟩;replace hf3:=hide hf3;replace hm:=hide hm;replace hI:=hide hI))
   try go_ret
   rw[hPOST.out]
   have hsz:=H1.out.2.size
   refine⟨v,ev,hI.out,rfl,H1.out.2.trans hf3.out (fun _ _ e=>e),?_⟩
   rw[hp.out]
   have hm':=hm.out
   cases hq:pEnum s (i+1) with
   | error k=>rw[hq] at hm';exact⟨hm'.1.less hsz,hm'.2⟩
   | ok r=>
    obtain⟨⟨l,o⟩,j⟩:=r
    rw[hq] at hm'
    exact⟨hm'.1,hm'.2.1,hm'.2.2.mono (fun g _ hg=>Nat.le_trans hsz hg)⟩
  ·by_cases h102:bt s i=102
   ·have hlt:i+1≤s.size:=bt_pos (s:=s) (i:=i) (by omega)
    have hp:=hide (pDefn_bytes h102)
    have hx:=hide h102
    clear h101 h114 h102
    go_enter Tryz.func104,Tryz.ntmps104
    go_wp2_with (first
     |(go_at_call 103;refine(pspot_any H.out.1).mono ?_;rintro e w' ⟨rfl,hw'⟩;rw[hw'])
     |(go_at_call 106;refine(ptake_yesI H.out.1 hs hi hx.out (by decide) (by decide)).mono ?_;rintro e w' ⟨rfl,hf',h'⟩;have H1:=hide (And.intro h' (H.out.2.trans hf' (fun _ _ e=>e)));clear hf' h')
     |(go_at_call 106;refine(ptake_noI H.out.1 hs hi hx.out (by decide) (by decide)).mono ?_;rintro e w' ⟨rfl,hf',h'⟩;replace H:=hide (And.intro h' (H.out.2.trans hf' (fun _ _ e=>e)));clear hf' h')
     |(go_at_call 138;refine(pbytes_any (p:=(i:Int)) H1.out.1 (hG.out.fr H1.out.2 (Ne.symm hne)) hs hlt).mono ?_;rintro e w3 ⟨v,ev,hI,rfl,hf3,hm⟩;replace hf3:=hide hf3;replace hm:=hide hm;replace hI:=hide hI))
    try go_ret
    rw[hPOST.out]
    have hsz:=H1.out.2.size
    refine⟨v,ev,hI.out,rfl,H1.out.2.trans hf3.out (fun _ _ e=>e),?_⟩
    rw[hp.out]
    rcases hm.out with⟨q1,q2,rfl,rfl,q3,_⟩|⟨q1,q2,q3⟩
    ·rw[if_pos ⟨q1,q2⟩]
     exact⟨rfl,q3,.bytes i _⟩
    ·rw[if_neg q1]
     exact⟨q2.less hsz,_,hlt,q3⟩
   ·have hp:=hide (pDefn_bad h114 h101 h102)
    obtain⟨x,hx⟩:∃ x,bt s i=x:=⟨_,rfl⟩
    rw[hx] at h114 h101 h102
    replace hx:=hide hx
    go_enter Tryz.func104,Tryz.ntmps104
    go_wp2_with (first
     |(go_at_call 103;refine(pspot_any H.out.1).mono ?_;rintro e w' ⟨rfl,hw'⟩;rw[hw'])
     |(go_at_call 106;refine(ptake_noI H.out.1 hs hi hx.out (by omega) (by decide)).mono ?_;rintro e w' ⟨rfl,hf',h'⟩;replace H:=hide (And.intro h' (H.out.2.trans hf' (fun _ _ e=>e)));clear hf' h')
     |(go_at_call 75;refine(pwrong_any H.out.1 (hG.out.fr H.out.2 (Ne.symm hne))).mono ?_;rintro e w2 ⟨v,rfl,hF,hf2⟩;replace hF:=hide hF;replace hf2:=hide hf2))
    try go_ret
    rw[hPOST.out]
    have hsz:=H.out.2.size
    refine⟨.nilIface,v,.inl rfl,rfl,H.out.2.trans hf2.out (fun _ _ f=>f.elim),?_⟩
    rw[hp.out]
    exact⟨hF.out.less hsz,i,hi,hf2.out.blk H.out.1 id⟩
def atD (s:ByteArray) (i:Nat):Bool:=isName (bt s i)&&decide (i+1<s.size)&&decide (bt s (i+1)=61)
set_option maxHeartbeats 4000000 in
set_option maxRecDepth 100000 in
theorem patDef_any {w:World}{bp:Nat}{s:ByteArray}{i:Nat}(h:PAt w bp s i) (hs:s.size≤300) (hi:i≤s.size) :
 Calls Tryz.prog 72 #[.pointer (some ⟨bp,0,none⟩)] w fun e w'=>e=.returned (.bool (atD s i))∧Still w w':=by
 have c0:=h.c0
 have c1:=h.c1
 obtain⟨x,hx⟩:∃ x,bt s i=x:=⟨_,rfl⟩
 have hpk:Hid (∀ q,Calls Tryz.prog 102 #[.pointer (some ⟨bp,0,none⟩)] (w.drewN q) fun e w'=>e=.returned (.int .u8 (x:Int))∧∃ m,w'=(w.drewN q).drewN m):=hide (fun q=>by rw[← hx];exact ppeek_any (h.still (Still.drewN w q)) hs hi)
 have hwi:Hid (∀ (q:Nat) (b:Bool),isName x=b→Calls Tryz.prog 101 #[.int .u8 (x:Int)] (w.drewN q) fun e w'=>e=.returned (.bool b)∧w'=w.drewN q):=hide (fun q b hb=>by rw[← hb];exact pisName_any x _)
 unfold atD
 rw[hx]
 clear h hx
 cases hn:isName x with
 | false=>
  replace hn:=hide hn
  go_enter Tryz.func72,Tryz.ntmps72
  go_wp2_with fail
  go_quiet (first|(go_at_call 102;exact Calls.quiet_of (hpk.out _))|(go_at_call 101;exact Calls.quiet_of_same (hwi.out _ _ hn.out)))
  go_wp2_with fail
  try go_ret
  exact⟨rfl,Still.drewN _ _⟩
 | true=>
  replace hn:=hide hn
  by_cases h1:i+1<s.size
  ·obtain⟨k,hk⟩:∃ k,k=i+1:=⟨_,rfl⟩
   have hwp:IntKind.i64.wrap ((i:Int)+1)=(k:Int):=by rw[IntKind.wrap_i64];omega
   rw[← hk] at h1
   rw[← hk]
   have h1':(k:Int)<(s.size:Int):=by omega
   have hd1:decide ((k:Int)<(s.size:Int))=true:=decide_eq_true h1'
   have hb:(((s[k]'h1).toNat:Int)==61)=decide (bt s k=61):=by
    rw[bt_eq s k h1]
    by_cases e:(s[k]'h1).toNat=61
    ·rw[e];rfl
    ·rw[decide_eq_false e,beq_eq_false_iff_ne];omega
   have hd:decide (k<s.size)=true:=decide_eq_true h1
   clear hk
   rw[hd,Bool.true_and,Bool.true_and,← hb]
   clear hd hb
   go_enter Tryz.func72,Tryz.ntmps72
   go_wp2_with fail
   go_quiet (first|(go_at_call 102;exact Calls.quiet_of (hpk.out _))|(go_at_call 101;exact Calls.quiet_of_same (hwi.out _ _ hn.out)))
   go_wp2_with fail
   try go_ret
   exact⟨rfl,Still.drewN _ _⟩
  ·have h1':¬ ((i:Int)+1<(s.size:Int)):=by omega
   have hwp:IntKind.i64.wrap ((i:Int)+1)=(i:Int)+1:=by rw[IntKind.wrap_i64];omega
   have hd1:decide ((i:Int)+1<(s.size:Int))=false:=decide_eq_false h1'
   have hd:decide (i+1<s.size)=false:=decide_eq_false h1
   rw[hd,Bool.and_false,Bool.false_and]
   clear hd
   go_enter Tryz.func72,Tryz.ntmps72
   go_wp2_with fail
   go_quiet (first|(go_at_call 102;exact Calls.quiet_of (hpk.out _))|(go_at_call 101;exact Calls.quiet_of_same (hwi.out _ _ hn.out)))
   go_wp2_with fail
   try go_ret
   exact⟨rfl,Still.drewN _ _⟩
open Go.RowKit
theorem Fr.three (w:World) (b:Nat) (v0 v1 v2:Value):Fr w (((w.setCell ⟨b,0,none⟩ v0).setCell ⟨b,1,none⟩ v1).setCell ⟨b,2,none⟩ v2) (fun g=>g=b):=
 (((Fr.refl w (fun g=>g=b)).setCell ⟨b,0,none⟩ v0 (fun _=>rfl)).setCell ⟨b,1,none⟩ v1 (fun _=>rfl)).setCell ⟨b,2,none⟩ v2 (fun _=>rfl)
theorem Blk.three {w:World}{b t:Nat}{u0 u1 u2:Value}(h:Blk w b [u0,u1,u2] t) (v0 v1 v2:Value):Blk (((w.setCell ⟨b,0,none⟩ v0).setCell ⟨b,1,none⟩ v1).setCell ⟨b,2,none⟩ v2) b [v0,v1,v2] t:=
 ((h.set 0 v0).set 1 v1).set 2 v2
theorem BodyV.iface {w:World}{P:Nat→Prop}{s:ByteArray}{b:PB}{v:Value}(h:BodyV w P s b v):∃ T x,v=.iface T x:=by
 cases h <;> exact⟨_,_,rfl⟩
theorem PAt.two {w:World}{bp:Nat}{s:ByteArray}{i:Nat}(h:PAt w bp s i):PAt (w.setCell ⟨bp,1,none⟩ (.int .i64 ((i:Int)+2))) bp s (i+2):=Blk.set h 1 _
def PDfPost (w:World) (bp:Nat) (s:ByteArray) (i:Nat) (et:TypeId) (ex:Value) (e:Ending) (w':World):Prop:=
 ∃ (a b:Int) (c ev:Value),e=.returned (.tuple #[.agg #[.int .i64 a,.int .u8 b,c],ev])∧IfV c∧Fr w w' (· = bp)∧
 match pDefn s (i+2) with
 | .ok (pb,j)=>if bt s j=59 then ev=.nilIface∧PAt w' bp s (j+1)∧j<s.size∧a=(i:Int)∧b=(bt s i:Int)∧BodyV w' (fun g=>w.heap.size≤g) s pb c else FaultAt w' w.heap.size ev (j:Int) (.iface et ex)∧∃ j,j≤s.size∧PAt w' bp s j
 | .error k=>FaultAt w' w.heap.size ev (k:Int) (.iface et ex)∧∃ j,j≤s.size∧PAt w' bp s j
set_option maxHeartbeats 8000000 in
set_option maxRecDepth 100000 in
theorem pdef_any {w:World}{bp:Nat}{s:ByteArray}{i:Nat}{et:TypeId}{ex:Value}(h:PAt w bp s i) (hG:Gram w et ex) (hne:bp≠0) (hs:s.size≤300) (hi:i+2≤s.size) (hjl:∀ pb j,pDefn s (i+2)=.ok (pb,j)→j≤s.size) :
 Calls Tryz.prog 73 #[.pointer (some ⟨bp,0,none⟩)] w (PDfPost w bp s i et ex):=by
 obtain⟨POST,hPOST⟩:∃ P,Hid (P=PDfPost w bp s i et ex):=⟨_,rfl⟩
 rw[← hPOST.out]
 have hbp:=h.lt
 have h0:=hide (show PAt (w.alloc (.cells #[.int .i64 0,.int .u8 0,.nilIface] 132)) bp s i from Blk.alloc h _)
 have F0:=hide (show Fr w (w.alloc (.cells #[.int .i64 0,.int .u8 0,.nilIface] 132)) (fun x=>x=bp) from(Fr.refl w _).alloc _)
 have B0:=hide (Blk.new w #[.int .i64 0,.int .u8 0,.nilIface] 132)
 have hz0:(w.alloc (.cells #[.int .i64 0,.int .u8 0,.nilIface] 132)).heap.size=w.heap.size+1:=by simp
 replace hz0:=hide hz0
 have hGw:=hide hG
 have hi':i≤s.size:=by omega
 clear h hG
 obtain⟨x,hx⟩:∃ x,bt s i=x:=⟨_,rfl⟩
 replace hx:=hide hx
 cases hp:pDefn s (i+2) with
 | error k=>
  replace hp:=hide hp
  clear hjl
  go_enter Tryz.func73,Tryz.ntmps73
  go_wp2_with (first
   |(go_at_call 103;refine(pspot_any h0.out).mono ?_;rintro e w' ⟨rfl,hw'⟩;rw[hw'];clear hw')
   |(go_at_call 102;refine(ppeek_any h0.out hs hi').mono ?_;rintro e w1 ⟨rfl,hw1⟩;rw[hx.out];have h1:=h0.out.still hw1;have F1:=(Fr.refl (w.alloc (.cells #[.int .i64 0,.int .u8 0,.nilIface] 132)) (fun g=>g=bp)).still hw1;have P1:=Blk.alloc h1 (.cells #[.int .i64 (i:Int),.int .u8 (x:Int),.nilIface] 132);have c1:=PAt.c1 P1;have f1:=PAt.thaw P1 1;have hs1:=F1.size;rw[hz0.out] at hs1;have A1:=F1.alloc (.cells #[.int .i64 (i:Int),.int .u8 (x:Int),.nilIface] 132);have hfp:Fr (w1.alloc (.cells #[.int .i64 (i:Int),.int .u8 (x:Int),.nilIface] 132)) ((w1.alloc (.cells #[.int .i64 (i:Int),.int .u8 (x:Int),.nilIface] 132)).setCell ⟨bp,1,none⟩ (.int .i64 ((i:Int)+2))) (fun g=>g=bp):=(Fr.refl _ (fun g=>g=bp)).setCell ⟨bp,1,none⟩ _ (fun _=>rfl);have R2:=hfp.blk (A1.blk B0.out (by omega)) (by omega);have E2:=hfp.blk (Blk.new w1 #[.int .i64 (i:Int),.int .u8 (x:Int),.nilIface] 132) (by omega);have P2:=PAt.two P1;have F2:=(F0.out.trans A1 (fun _ _ e=>e)).trans hfp (fun _ _ e=>e);have G2:=hGw.out.fr F2 (Ne.symm hne);have hz2:((w1.alloc (.cells #[.int .i64 (i:Int),.int .u8 (x:Int),.nilIface] 132)).setCell ⟨bp,1,none⟩ (.int .i64 ((i:Int)+2))).heap.size=w1.heap.size+1:=(by simp);replace R2:=hide R2;replace E2:=hide E2;replace P2:=hide P2;replace F2:=hide F2;replace G2:=hide G2;replace hz2:=hide hz2;clear h1 F1 A1 hfp hw1;replace P1:=hide P1)
   |(go_at_call 104;refine(pbody_any P2.out G2.out hne hs hi).mono ?_;rintro e w3 ⟨v,ev,hI,rfl,hf3,hm⟩;rw[hp.out] at hm;obtain⟨⟨g,hg1,rfl,hg2⟩,j3,hj3,h3⟩:=hm;have R3:=hf3.blk R2.out (by omega);have r0:=R3.cell 0;have r1:=R3.cell 1;have r2:=R3.cell 2;have g0:=R3.thaw 0;have g1:=R3.thaw 1;have g2:=R3.thaw 2;simp only[List.getElem?_cons_zero,List.getElem?_cons_succ] at r0 r1 r2;replace R3:=hide R3;replace hf3:=hide hf3;replace hg2:=hide hg2;replace h3:=hide h3;clear hI))
  have S2:=Blk.three R3.out (.int .i64 0) (.int .u8 0) .nilIface
  have q0:=S2.cell 0
  have q1:=S2.cell 1
  have q2:=S2.cell 2
  simp only[List.getElem?_cons_zero,List.getElem?_cons_succ] at q0 q1 q2
  refine bodyPost_ret (v:=.tuple #[.agg #[.int .i64 0,.int .u8 0,.nilIface],.iface 139 (.pointer (some ⟨g,0,none⟩))]) (by simp[results,Tryz.results73,go_sem,q0,q1,q2]) rfl ?_
  rw[hPOST.out]
  have h4:=Fr.three w3 w.heap.size (.int .i64 0) (.int .u8 0) .nilIface
  have hz:=hz2.out
  refine⟨0,0,.nilIface,_,rfl,.inl rfl,(F2.out.trans hf3.out (fun _ _ e=>e)).trans h4 (fun y hy e=>by omega),?_⟩
  rw[hp.out]
  exact⟨⟨g,by omega,rfl,h4.blk hg2.out (by omega)⟩,j3,hj3,h4.blk h3.out (by omega)⟩
 | ok r=>
  obtain⟨pb,j⟩:=r
  have hj:j≤s.size:=hjl pb j hp
  clear hjl
  replace hp:=hide hp
  go_enter Tryz.func73,Tryz.ntmps73
  go_wp2_with (first
   |(go_at_call 103;refine(pspot_any h0.out).mono ?_;rintro e w' ⟨rfl,hw'⟩;rw[hw'];clear hw')
   |(go_at_call 102;refine(ppeek_any h0.out hs hi').mono ?_;rintro e w1 ⟨rfl,hw1⟩;rw[hx.out];have h1:=h0.out.still hw1;have F1:=(Fr.refl (w.alloc (.cells #[.int .i64 0,.int .u8 0,.nilIface] 132)) (fun g=>g=bp)).still hw1;have P1:=Blk.alloc h1 (.cells #[.int .i64 (i:Int),.int .u8 (x:Int),.nilIface] 132);have c1:=PAt.c1 P1;have f1:=PAt.thaw P1 1;have hs1:=F1.size;rw[hz0.out] at hs1;have A1:=F1.alloc (.cells #[.int .i64 (i:Int),.int .u8 (x:Int),.nilIface] 132);have hfp:Fr (w1.alloc (.cells #[.int .i64 (i:Int),.int .u8 (x:Int),.nilIface] 132)) ((w1.alloc (.cells #[.int .i64 (i:Int),.int .u8 (x:Int),.nilIface] 132)).setCell ⟨bp,1,none⟩ (.int .i64 ((i:Int)+2))) (fun g=>g=bp):=(Fr.refl _ (fun g=>g=bp)).setCell ⟨bp,1,none⟩ _ (fun _=>rfl);have R2:=hfp.blk (A1.blk B0.out (by omega)) (by omega);have E2:=hfp.blk (Blk.new w1 #[.int .i64 (i:Int),.int .u8 (x:Int),.nilIface] 132) (by omega);have P2:=PAt.two P1;have F2:=(F0.out.trans A1 (fun _ _ e=>e)).trans hfp (fun _ _ e=>e);have G2:=hGw.out.fr F2 (Ne.symm hne);have hz2:((w1.alloc (.cells #[.int .i64 (i:Int),.int .u8 (x:Int),.nilIface] 132)).setCell ⟨bp,1,none⟩ (.int .i64 ((i:Int)+2))).heap.size=w1.heap.size+1:=(by simp);replace R2:=hide R2;replace E2:=hide E2;replace P2:=hide P2;replace F2:=hide F2;replace G2:=hide G2;replace hz2:=hide hz2;clear h1 F1 A1 hfp hw1;replace P1:=hide P1)
   |(go_at_call 104;refine(pbody_any P2.out G2.out hne hs hi).mono ?_;rintro e w3 ⟨v,ev,hI,rfl,hf3,hm⟩;rw[hp.out] at hm;obtain⟨rfl,h3,hv⟩:=hm;obtain⟨vT,vx,rfl⟩:=hv.iface;have hs3:=hf3.size;rw[hz2.out] at hs3;have R3:=hf3.blk R2.out (by omega);have E3:=hf3.blk E2.out (by omega);have k2:=E3.cell 2;have kg:=E3.thaw 2;simp only[List.getElem?_cons_zero,List.getElem?_cons_succ] at k2;have hfs:Fr w3 (w3.setCell ⟨w1.heap.size,2,none⟩ (.iface vT vx)) (fun g=>g=w1.heap.size):=(Fr.refl w3 (fun g=>g=w1.heap.size)).setCell ⟨w1.heap.size,2,none⟩ _ (fun _=>rfl);have E4:=E3.set 2 (.iface vT vx);have R4:=hfs.blk R3 (by omega);have P4:=hfs.blk h3 (by omega);have V4:=(hv.mono (Q:=fun g=>w1.heap.size<g) (fun g _ hg=>by have:=hz2.out;omega)).fr hfs (fun g hg e=>by omega);have F4:=(F2.out.trans hf3 (fun _ _ e=>e)).trans hfs (fun y hy e=>by omega);have G4:=hGw.out.fr F4 (Ne.symm hne);replace E4:=hide E4;replace R4:=hide R4;replace P4:=hide (show PAt _ bp s j from P4);replace V4:=hide V4;replace F4:=hide F4;replace G4:=hide G4;clear hI hf3 h3 hv R3 E3 hfs))
  have u0:=E4.out.cell 0
  have u1:=E4.out.cell 1
  have u2:=E4.out.cell 2
  simp only[List.set_cons_zero,List.set_cons_succ,List.getElem?_cons_zero,List.getElem?_cons_succ] at u0 u1 u2
  obtain⟨w4,hw4⟩:∃ W,W=w3.setCell ⟨w1.heap.size,2,none⟩ (.iface vT vx):=⟨_,rfl⟩
  rw[← hw4] at u0 u1 u2⊢
  rw[← hw4] at E4 R4 P4 V4 F4 G4
  clear hw4 k2 kg
  have hC:=hide (pexpect_any (c:=59) 59 (P4.out.still (Still.drew w4)) (G4.out.fr ((Fr.refl w4 (fun _=>False)).still (Still.drew w4)) id) hne hs hj rfl (by decide))
  have hs4:=F4.out.size
  have hr4:=R4.out.lt
  refine wp_regionC 4 (fun W=>W.cell? ⟨w1.heap.size,0,none⟩=some (.int .i64 (i:Int))∧W.cell? ⟨w1.heap.size,1,none⟩=some (.int .u8 (x:Int))∧W.cell? ⟨w1.heap.size,2,none⟩=some (.iface vT vx)) (by kernel_rfl) ?_
  refine wpAnyC_take 0 ?v0 rfl (by kernel_rfl) (fun _ _ _ h=>h) (by kernel_rfl) ?y0 ?_
  case y0=>(rintro W ⟨h1,h2,h3⟩;go_simp <;> rfl)
  refine wpAnyC_take 1 ?v1 rfl (by kernel_rfl) (fun _ _ _ h=>h) (by kernel_rfl) ?y1 ?_
  case y1=>(rintro W ⟨h1,h2,h3⟩;go_simp <;> rfl)
  refine wpAnyC_one 2 rfl (by kernel_rfl) (fun _=>⟨u0,u1,u2⟩) (fun K hK=>?_)
  go_simp
  refine hC.out.mono ?_
  rintro e w8 ⟨v8,rfl,hf8,hE⟩
  refine hK _ _ ?_
  clear hK K
  have hf8':Fr w4 w8 (fun g=>g=bp):=((Fr.refl w4 _).still (Still.drew w4)).trans hf8 (fun _ _ e=>e)
  have E8:=hf8'.blk E4.out (by omega)
  have R8:=hf8'.blk R4.out (by omega)
  have x0:=E8.cell 0
  have x1:=E8.cell 1
  have x2:=E8.cell 2
  have r0:=R8.cell 0
  have r1:=R8.cell 1
  have r2:=R8.cell 2
  have g0:=R8.thaw 0
  have g1:=R8.thaw 1
  have g2:=R8.thaw 2
  simp only[List.set_cons_zero,List.set_cons_succ,List.getElem?_cons_zero,List.getElem?_cons_succ] at x0 x1 x2 r0 r1 r2
  have h4:=Fr.three w8 w.heap.size (.int .i64 (i:Int)) (.int .u8 (x:Int)) (.iface vT vx)
  have E9:=h4.blk E8 (by omega)
  have z0:=E9.cell 0
  have z1:=E9.cell 1
  have z2:=E9.cell 2
  simp only[List.set_cons_zero,List.set_cons_succ,List.getElem?_cons_zero,List.getElem?_cons_succ] at z0 z1 z2
  replace hf8':=hide hf8'
  replace h4:=hide h4
  replace hE:=hide hE
  replace E8:=hide E8
  replace E9:=hide E9
  refine wpAnyC_one 3 rfl (by kernel_rfl) (fun _=>⟨x0,x1,x2⟩) (fun K hK=>?_)
  go_simp
  refine hK _ _ ?_
  clear hK K
  refine wpAnyC_one 4 rfl (by kernel_rfl) (fun _=>⟨z0,z1,z2⟩) (fun K hK=>?_)
  go_simp
  refine hK _ _ ?_
  clear hK K
  refine wpAnyC_done (by kernel_rfl) (fun hm=>absurd hm (by decide)) ?_ _
  have S2:=Blk.three R8 (.int .i64 (i:Int)) (.int .u8 (x:Int)) (.iface vT vx)
  have q0:=S2.cell 0
  have q1:=S2.cell 1
  have q2:=S2.cell 2
  simp only[List.getElem?_cons_zero,List.getElem?_cons_succ] at q0 q1 q2
  clear x0 x1 x2 u0 u1 u2 z0 z1 z2 r0 r1 r2 g0 g1 g2
  go_wp2_with fail
  refine bodyPost_ret (v:=.tuple #[.agg #[.int .i64 (i:Int),.int .u8 (x:Int),.iface vT vx],v8]) (by simp[results,Tryz.results73,go_sem,q0,q1,q2]) rfl ?_
  rw[hPOST.out]
  refine⟨(i:Int),(x:Int),.iface vT vx,v8,rfl,.inr ⟨_,_,rfl⟩,(F4.out.trans hf8'.out (fun _ _ e=>e)).trans h4.out (fun y hy e=>by omega),?_⟩
  rw[hp.out]
  have hz:=hz2.out
  show(if bt s j=59 then _ else _)
  rcases hE.out with⟨hb,rfl,h8,hl8⟩|⟨hb,hF,h8⟩
  ·rw[if_pos hb]
   exact⟨rfl,h4.out.blk h8 (by omega),hl8,rfl,by rw[hx.out],((V4.out.fr hf8'.out (fun g hg e=>by omega)).fr h4.out (fun g hg e=>by omega)).mono (fun g _ hg=>by omega)⟩
  ·rw[if_neg hb]
   exact⟨(hF.fr h4.out (fun g hg e=>by have:w4.drew.heap.size=w4.heap.size:=rfl;omega)).less (by have:w4.drew.heap.size=w4.heap.size:=rfl;omega),j,hj,h4.out.blk h8 (by omega)⟩
end Go.Proofs.YtiifagiebikmdaaGreatDoor
