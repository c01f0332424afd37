import Derived.Test.YtiifagiebikmdaaGreatDoorBK17
namespace Go.Proofs.YtiifagiebikmdaaGreatDoor
open Go.RowKit
theorem pFieldsN_le (s:ByteArray):∀ (n i:Nat) (l:List PF) (j:Nat),pFieldsN s n i=.ok (l,j)→j≤s.size:=by
 intro n
 induction n with
 | zero=>intro i l j h;cases h
 | succ n ih=>
  intro i l j h
  unfold pFieldsN at h
  split at h
  ·cases h
  ·rename_i f k hf
   split at h
   ·rename_i h41
    simp only[Except.ok.injEq,Prod.mk.injEq] at h
    have:=bt_pos (s:=s) (i:=k) (by omega)
    omega
   ·split at h
    ·split at h
     ·cases h
     ·rename_i fs k2 hr
      simp only[Except.ok.injEq,Prod.mk.injEq] at h
      have:=ih _ _ _ hr
      omega
    ·cases h
theorem pDefn_le {s:ByteArray}{i:Nat}{b:PB}{j:Nat}(h:pDefn s i=.ok (b,j)):j≤s.size:=by
 unfold pDefn at h
 split at h
 ·split at h
  ·cases h
  ·rename_i ds k hr
   simp only[Except.ok.injEq,Prod.mk.injEq] at h
   obtain⟨_,rfl⟩:=h
   unfold pRecord at hr
   split at hr
   ·split at hr
    ·rename_i h41
     simp only[Except.ok.injEq,Prod.mk.injEq] at hr
     have:=bt_pos (s:=s) (i:=i+1+1) (by omega)
     omega
    ·exact pFieldsN_le s _ _ _ _ hr
   ·cases hr
 ·split at h
  ·split at h
   ·cases h
   ·rename_i l o k hr
    simp only[Except.ok.injEq,Prod.mk.injEq] at h
    obtain⟨_,rfl⟩:=h
    unfold pEnum at hr
    split at hr
    ·split at hr
     ·cases hr
     ·rename_i r q hq
      split at hr
      ·split at hr
       ·split at hr
        ·simp only[Except.ok.injEq,Prod.mk.injEq] at hr
         have:=bt_pos (s:=s) (i:=q+2) (by omega)
         omega
        ·cases hr
       ·cases hr
      ·split at hr
       ·simp only[Except.ok.injEq,Prod.mk.injEq] at hr
        have:=bt_pos (s:=s) (i:=q) (by omega)
        omega
       ·cases hr
    ·cases hr
  ·split at h
   ·split at h
    ·simp only[Except.ok.injEq,Prod.mk.injEq] at h
     have:=bt_pos (s:=s) (i:=i+1) (by omega)
     omega
    ·cases h
   ·cases h
def DefsV (w:World) (P:Nat→Prop) (s:ByteArray) (ds:List PD) (xs:List Value):Prop:=
 ∀ i d,ds[i]?=some d→∃ c,xs[3*i]?=some (.int .i64 (d.place:Int))∧xs[3*i+1]?=some (.int .u8 (d.letter:Int))∧xs[3*i+2]?=some c∧BodyV w P s d.body c
theorem DefsV.mono {w:World}{P Q:Nat→Prop}{s:ByteArray}{ds:List PD}{xs:List Value}(h:DefsV w P s ds xs) (hQ:∀ g,g<w.heap.size→P g→Q g):DefsV w Q s ds xs:=fun i f e=>by
 obtain⟨c,h1,h2,h3,h5⟩:=h i f e
 exact⟨c,h1,h2,h3,h5.mono hQ⟩
theorem DefsV.fr {w w':World}{P S:Nat→Prop}{s:ByteArray}{ds:List PD}{xs:List Value}(h:DefsV w P s ds xs) (hf:Fr w w' S) (hS:∀ g,P g→¬ S g):DefsV w' P s ds xs:=fun i f e=>by
 obtain⟨c,h1,h2,h3,h5⟩:=h i f e
 exact⟨c,h1,h2,h3,h5.fr hf hS⟩
theorem DefsV.snoc {w:World}{P:Nat→Prop}{s:ByteArray}{ds:List PD}{xs:List Value}{d:PD}{c:Value}(h:DefsV w P s ds xs) (hl:xs.length=ds.length*3) (hc:BodyV w P s d.body c):DefsV w P s (ds++[d]) (xs++[.int .i64 (d.place:Int),.int .u8 (d.letter:Int),c]):=fun i f' e=>by
 by_cases hi:i<ds.length
 ·rw[List.getElem?_append_left hi] at e
  obtain⟨c',h1,h2,h3,h5⟩:=h i f' e
  exact⟨c',by rw[List.getElem?_append_left (by omega)];exact h1,by rw[List.getElem?_append_left (by omega)];exact h2,by rw[List.getElem?_append_left (by omega)];exact h3,h5⟩
 ·have hi':i=ds.length:=by
   have:=(List.getElem?_eq_some_iff.1 e).1
   simp at this;omega
  subst hi'
  rw[List.getElem?_append_right (Nat.le_refl _),Nat.sub_self] at e
  simp only[List.getElem?_cons_zero,Option.some.injEq] at e
  subst e
  refine⟨c,?_,?_,?_,hc⟩
  ·rw[List.getElem?_append_right (by omega),show 3*ds.length-xs.length=0 by omega];rfl
  ·rw[List.getElem?_append_right (by omega),show 3*ds.length+1-xs.length=1 by omega];rfl
  ·rw[List.getElem?_append_right (by omega),show 3*ds.length+2-xs.length=2 by omega];rfl
def SchV (w:World) (P:Nat→Prop) (s:ByteArray) (ds:List PD) (t:PT) (sv rv:Value):Prop:=
 ∃ xs,w.ownsRow 0 132 3 sv ds.length xs∧(∀ g,sv.ownBlock=some g→P g)∧DefsV w P s ds xs∧TyV w P t rv
def PSchPost (w:World) (bp:Nat) (s:ByteArray) (et:TypeId) (ex:Value) (e:Ending) (w':World):Prop:=
 ∃ (sv rv ev:Value),e=.returned (.tuple #[.agg #[sv,rv],ev])∧(∃ a n c,sv=.slice a n c)∧IfV rv∧Fr w w' (· = bp)∧
 match pSchema s with
 | .ok (ds,t)=>ev=.nilIface∧SchV w' (fun g=>w.heap.size≤g) s ds t sv rv
 | .error k=>FaultAt w' w.heap.size ev (k:Int) (.iface et ex)
theorem schema_rest {s:ByteArray}{ds:List PD}{j:Nat}(h:pDefsN s 6 0=aheadD ds (pDefsN s (6-ds.length) j)) (hl:ds.length≤6) (hn:¬ (ds.length<6∧atD s j=true)) :
 pSchema s=match pT s j with | .error k=>.error k | .ok (t,k)=>if k<s.size then .error k else .ok (ds,t):=by
 unfold pSchema
 rw[h]
 by_cases h6:ds.length<6
 ·have ha:atD s j=false:=by
   cases hb:atD s j with
   | false=>rfl
   | true=>exact absurd ⟨h6,hb⟩ hn
  rw[show 6-ds.length=(5-ds.length)+1 by omega,pDefs_step]
  unfold atD at ha
  by_cases hc:isName (bt s j)=true∧j+1<s.size
  ·have h61:bt s (j+1)≠61:=fun e=>by rw[hc.1,decide_eq_true hc.2,decide_eq_true e] at ha;cases ha
   rw[if_pos hc,if_neg h61,pT_name (by simpa[isName] using hc.1)]
   simp only
   rw[if_pos hc.2]
  ·rw[if_neg hc]
   simp only
   cases pT s j with
   | error k=>rfl
   | ok r=>rfl
 ·rw[show 6-ds.length=0 by omega,pDefsN,aheadD,List.append_nil]
  simp only
  cases pT s j with
  | error k=>rfl
  | ok r=>rfl
structure SMm (w:World) (bp:Nat) (s:ByteArray) (j:Nat) (sv:Value) (ds:List PD) (xs:List Value) (W:World):Prop where
 A:AM w bp s j (w.heap.size+1) [sv,.nilIface] 85 132 3 sv ds.length xs W
 D:DefsV W (fun g=>w.heap.size+1+1≤g∧sv.ownBlock≠some g) s ds xs
 R:Blk W w.heap.size [.slice none 0 0,.nilIface] 85
section
variable {w W W':World} {bp:Nat} {s:ByteArray} {j j':Nat} {sv:Value} {ds:List PD} {xs:List Value}
theorem SMm.call (M:SMm w bp s j sv ds xs W) (h:PAt W' bp s j') (hf:Fr W W' (· = bp)):SMm w bp s j' sv ds xs W':=by
 have h1:=M.A.lt
 exact⟨M.A.call h hf,M.D.fr hf (fun g hg e=>by omega),hf.blk M.R (by omega)⟩
theorem SMm.alloc (M:SMm w bp s j sv ds xs W) (o:Obj):SMm w bp s j sv ds xs (W.alloc o):=M.call (Blk.alloc M.A.here o) ((Fr.refl W _).alloc o)
theorem SMm.still (M:SMm w bp s j sv ds xs W) (hW:Still W W'):SMm w bp s j sv ds xs W':=M.call (M.A.here.still hW) ((Fr.refl W _).still hW)
theorem SMm.item (M:SMm w bp s j sv ds xs W){o:Obj}{w5:World}{v5 c:Value}{d:PD}(hg:(W.alloc o).grownBy w5 sv.ownBlock) (ho:w5.ownsRow (w.heap.size+1+1) 132 3 v5 (ds.length+1) (xs++[.int .i64 (d.place:Int),.int .u8 (d.letter:Int),c]))
 (hl:v5.ownBlock=sv.ownBlock∨v5.ownBlock=some (W.alloc o).heap.size) (hv:BodyV W (fun g=>w.heap.size+1+1≤g∧sv.ownBlock≠some g) s d.body c) :
 SMm w bp s j v5 (ds++[d]) (xs++[.int .i64 (d.place:Int),.int .u8 (d.letter:Int),c]) (w5.setCell ⟨w.heap.size+1,0,none⟩ v5):=by
 obtain⟨h1,h2,h3⟩:=M.A.item ((Fr.refl W _).alloc o) hg ho hl 0
 have off:∀ g,(w.heap.size+1+1≤g∧sv.ownBlock≠some g)∧g<W.heap.size→¬ (sv.ownBlock=some g∨g=w.heap.size+1):=fun g hg e=>by
  rcases e with e|e
  ·exact hg.1.2 e
  ·have:=hg.1.1;omega
 have on:∀ g,(w.heap.size+1+1≤g∧sv.ownBlock≠some g)∧g<W.heap.size→w.heap.size+1+1≤g∧v5.ownBlock≠some g:=fun g hg=>⟨hg.1.1,fun e=>by
  rcases(h3 g e).2 with q|q
  ·exact hg.1.2 q
  ·have:=hg.2;omega⟩
 refine⟨?_,DefsV.snoc (((M.D.mono (Q:=fun g=>(w.heap.size+1+1≤g∧sv.ownBlock≠some g)∧g<W.heap.size) (fun _ a b=>⟨b,a⟩)).fr h2 off).mono (fun g _ hg=>on g hg)) M.A.row.1 (((hv.mono (Q:=fun g=>(w.heap.size+1+1≤g∧sv.ownBlock≠some g)∧g<W.heap.size) (fun _ a b=>⟨b,a⟩)).fr h2 off).mono (fun g _ hg=>on g hg)),h2.blk M.R (fun e=>?_)⟩
 ·rw[List.length_append,List.length_singleton]
  exact h1
 ·rcases e with e|e
  ·have:=M.A.row.lt _ e;omega
  ·omega
end
theorem u_PDefs:Tryz.prog.underlying 81=some (.slice 132):=by kernel_rfl
theorem i_PDef:(Tryz.prog.info? 132).map (fun i=>(i.zero,i.size,i.bytes))=some (some (.agg #[.int .i64 0,.int .u8 0,.nilIface]),3,32):=by kernel_rfl
def SMmInv (w:World) (bp:Nat) (s:ByteArray) (m:Nat) (W:World):Prop:=
 ∃ j sv ds xs,SMm w bp s j sv ds xs W∧j≤s.size∧ds.length≤6∧7-ds.length≤m∧pDefsN s 6 0=aheadD ds (pDefsN s (6-ds.length) j)
theorem Fr.pair (w:World) (b:Nat) (v0 v1:Value):Fr w ((w.setCell ⟨b,0,none⟩ v0).setCell ⟨b,1,none⟩ v1) (fun g=>g=b):=
 ((Fr.refl w (fun g=>g=b)).setCell ⟨b,0,none⟩ v0 (fun _=>rfl)).setCell ⟨b,1,none⟩ v1 (fun _=>rfl)
theorem Blk.pair {w:World}{b t:Nat}{u0 u1:Value}(h:Blk w b [u0,u1] t) (v0 v1:Value):Blk ((w.setCell ⟨b,0,none⟩ v0).setCell ⟨b,1,none⟩ v1) b [v0,v1] t:=(h.set 0 v0).set 1 v1
theorem pschema_err {w W:World}{bp:Nat}{s:ByteArray}{k lo:Nat}{et:TypeId}{ex ev:Value}(hk:pSchema s=.error k) (hF:FaultAt W lo ev (k:Int) (.iface et ex)) (hf:Fr w W (· = bp)) (hlo:w.heap.size<lo) :
 PSchPost w bp s et ex (.returned (.tuple #[.agg #[.slice none 0 0,.nilIface],ev])) ((W.setCell ⟨w.heap.size,0,none⟩ (.slice none 0 0)).setCell ⟨w.heap.size,1,none⟩ .nilIface):=by
 have h4:=Fr.pair W w.heap.size (.slice none 0 0) .nilIface
 refine⟨_,_,ev,rfl,⟨_,_,_,rfl⟩,.inl rfl,hf.trans h4 (fun x hx e=>by omega),?_⟩
 rw[hk]
 exact(hF.fr h4 (fun g hg e=>by omega)).less (by omega)
set_option maxHeartbeats 16000000 in
set_option maxRecDepth 100000 in
theorem pschema_any {w:World}{bp:Nat}{s:ByteArray}{et:TypeId}{ex:Value}(h:PAt w bp s 0) (hG:Gram w et ex) (hne:bp≠0) (hs:s.size≤300) :
 Calls Tryz.prog 50 #[.pointer (some ⟨bp,0,none⟩)] w (PSchPost w bp s et ex):=by
 obtain⟨POST,hPOST⟩:∃ P,Hid (P=PSchPost w bp s et ex):=⟨_,rfl⟩
 rw[← hPOST.out]
 have hbp:=h.lt
 have start:SMmInv w bp s 7 ((w.alloc (.cells #[.slice none 0 0,.nilIface] 85)).alloc (.cells #[.slice none 0 0,.nilIface] 85)):=by
  refine⟨0,.slice none 0 0,[],[],⟨⟨Blk.alloc (Blk.alloc h _) _,((Fr.refl w _).alloc _).alloc _,hbp,by omega,by simp,?_,World.ownsRow_nil _ _ _ _⟩,fun i d e=>by simp at e,(Blk.new w #[.slice none 0 0,.nilIface] 85).alloc _⟩,Nat.zero_le _,by simp,by simp,(aheadD_nil _).symm⟩
  have:=Blk.new (w.alloc (.cells #[.slice none 0 0,.nilIface] 85)) #[.slice none 0 0,.nilIface] 85
  simpa using this
 replace start:=hide start
 have hgl:=World.block_lt_of_cell? w ⟨0,0,none⟩ hG
 replace hG:=hide hG
 clear h
 go_enter Tryz.func50,Tryz.ntmps50
 go_wp2_with fail
 go_loopg [] 7 (fun m W=>SMmInv w bp s m W)
 case atStart=>exact start.out
 case round=>
  clear start
  obtain⟨j,sv,ds,xs,M,hj,hl6,hm,hpd⟩:=hrel
  obtain⟨sa,sc,rfl⟩:=own_sl M.A.row
  have hsz:=M.A.fr.size
  have hbB:=M.A.hB
  have s0:=M.A.b.cell 0
  simp only[List.getElem?_cons_zero] at s0
  replace M:=hide M
  by_cases h6:ds.length<6
  ·have h6':(ds.length:Int)<6:=by omega
   cases hat:atD s j with
   | true=>
    have hd:isName (bt s j)=true∧j+1<s.size∧bt s (j+1)=61:=by
     unfold atD at hat
     simpa[and_assoc] using hat
    have hj2:j+2≤s.size:=by omega
    rw[show 6-ds.length=(5-ds.length)+1 by omega,pDefs_step,if_pos ⟨hd.1,hd.2.1⟩,if_pos hd.2.2] at hpd
    replace hat:=hide hat
    obtain⟨x,hx⟩:∃ x,bt s j=x:=⟨_,rfl⟩
    rw[hx] at hpd
    replace hx:=hide hx
    clear hd
    cases hp:pDefn s (j+2) with
    | error k=>
     have herr:=hide (show pSchema s=.error k by unfold pSchema;rw[hpd,hp])
     replace hp:=hide hp
     go_wp2_with (first
      |(go_at_call 72;refine(patDef_any M.out.A.here hs hj).mono ?_;rintro e w1 ⟨rfl,hw1⟩;rw[hat.out];have M1:=M.out.still hw1;have hC1:=pdef_any M1.A.here (hG.out.fr M1.A.fr (Ne.symm hne)) hne hs hj2 (fun pb q e=>pDefn_le e);have hbB1:=M1.A.hB;replace M1:=hide M1;replace hC1:=hide hC1)
      |(go_at_call 73;refine hC1.out.mono ?_;rintro e w2 ⟨a,b,c,ev,rfl,hIc,hf2,hm⟩;rw[hp.out] at hm;obtain⟨⟨g,hg1,rfl,hg2⟩,_⟩:=hm;rcases hIc with rfl|⟨cT,cx,rfl⟩;have R3:=(hf2.blk M1.out.R (by omega)).alloc (.cells #[.int .i64 a,.int .u8 b,.nilIface] 132);have r0:=R3.cell 0;have r1:=R3.cell 1;have g0:=R3.thaw 0;have g1:=R3.thaw 1;simp only[List.getElem?_cons_zero,List.getElem?_cons_succ] at r0 r1;replace R3:=hide R3;replace hf2:=hide hf2;replace hg2:=hide hg2;rotate_left;have R3:=(hf2.blk M1.out.R (by omega)).alloc (.cells #[.int .i64 a,.int .u8 b,.iface cT cx] 132);have r0:=R3.cell 0;have r1:=R3.cell 1;have g0:=R3.thaw 0;have g1:=R3.thaw 1;simp only[List.getElem?_cons_zero,List.getElem?_cons_succ] at r0 r1;replace R3:=hide R3;replace hf2:=hide hf2;replace hg2:=hide hg2))
     all_goals
      have S2:=Blk.pair R3.out (.slice none 0 0) .nilIface
      have q0:=S2.cell 0
      have q1:=S2.cell 1
      simp only[List.getElem?_cons_zero,List.getElem?_cons_succ] at q0 q1
      refine bodyPost_ret (v:=.tuple #[.agg #[.slice none 0 0,.nilIface],.iface 139 (.pointer (some ⟨g,0,none⟩))]) (by simp[results,Tryz.results50,go_sem,q0,q1]) rfl ?_
      rw[hPOST.out]
      exact pschema_err herr.out (lo:=w1.heap.size) ⟨g,hg1,rfl,hg2.out.alloc _⟩ ((M1.out.A.fr.trans hf2.out (fun _ _ e=>e)).alloc _) (by omega)
    | ok r=>
     obtain⟨pb,j2⟩:=r
     rw[hp] at hpd
     simp only at hpd
     by_cases h59:bt s j2=59
     ·rw[if_pos h59] at hpd
      replace hpd:=hide hpd
      replace hp:=hide hp
      replace h59:=hide h59
      obtain⟨ti,hi1,hi2,hi3,hi4⟩:=info_parts i_PDef
      go_wp2_with (first
       |(go_at_call 72;refine(patDef_any M.out.A.here hs hj).mono ?_;rintro e w1 ⟨rfl,hw1⟩;rw[hat.out];have M1:=M.out.still hw1;have hC1:=pdef_any M1.A.here (hG.out.fr M1.A.fr (Ne.symm hne)) hne hs hj2 (fun pb q e=>pDefn_le e);have hbB1:=M1.A.hB;replace M1:=hide M1;replace hC1:=hide hC1)
       |(go_at_call 73;refine hC1.out.mono ?_;rintro e w2 ⟨a,b,c,ev,rfl,hIc,hf2,hm⟩;rw[hp.out] at hm;simp only[] at hm;rw[if_pos h59.out,hx.out] at hm;obtain⟨rfl,h2,hl2,rfl,rfl,hv⟩:=hm;obtain⟨cT,cx,rfl⟩:=hv.iface;have M2:=(M1.out.call h2 hf2).alloc (.cells #[.int .i64 (j:Int),.int .u8 (x:Int),.iface cT cx] 132);have hv2:=(hv.mono (Q:=fun g=>w.heap.size+1+1≤g∧(Value.slice sa ds.length sc).ownBlock≠some g) (fun g _ hg=>⟨by omega,fun e=>by have:=M1.out.A.row.lt g e;omega⟩)).fr ((Fr.refl w2 (fun _=>False)).alloc (.cells #[.int .i64 (j:Int),.int .u8 (x:Int),.iface cT cx] 132)) (fun _ _ f=>f);have N2:=Blk.new w2 #[.int .i64 (j:Int),.int .u8 (x:Int),.iface cT cx] 132;have t0:=M2.A.b.cell 0;have n0:=N2.cell 0;have n1:=N2.cell 1;have n2:=N2.cell 2;simp only[List.getElem?_cons_zero,List.getElem?_cons_succ] at t0 n0 n1 n2;have hbB2:=(M1.out.call h2 hf2).A.hB;replace M2:=hide M2;replace hv2:=hide hv2;clear h2 hv N2 hIc hf2)
       |(at_builtin;go_must (refine wpList_append_own_at _ rfl _ _ 81 rfl (w.heap.size+1+1) 132 ti _ 3 32 u_PDefs hi1 hi2 hi3 hi4 rfl (by decide) (.slice sa ds.length sc) ds.length xs rfl ?hown _ 1 1 [.int .i64 (j:Int),.int .u8 (x:Int),.iface cT cx] rfl rfl (news_new _ #[.int .i64 (j:Int),.int .u8 (x:Int),.iface cT cx] _ _ ?nn) ?one ?b1 ?b2 ?b3 ?_)
         case hown=>exact World.ownsRow.alloc M2.out.A.row _
         case nn=>simp
         case one=>simp[Value.oneCell']
         case b1=>unfold maxLen;omega
         case b2=>omega
         case b3=>simp;omega
         intro v5 w5 ho5 hg5 hn5 hl5
         have M5:=M2.out.item (d:=⟨x,j,pb⟩) hg5 ho5 hl5 hv2.out
         have B5:=M2.out.A.itemCell ((Fr.refl _ _).alloc _) hg5
         have e5:=B5.cell 0
         have f5:=B5.thaw 0
         simp only[List.getElem?_cons_zero] at e5
         obtain⟨g5,cap5,rfl⟩:=own_form ho5 (by omega)
         clear hg5 hl5 hn5 ho5 B5
         replace M5:=hide M5))
      go_roundg (7-(ds.length+1))
      case measure=>omega
      case rel=>exact⟨j2+1,_,ds++[⟨x,j,pb⟩],_,M5.out,hl2,by rw[List.length_append,List.length_singleton];omega,by rw[List.length_append,List.length_singleton];omega,by rw[List.length_append,List.length_singleton,show 6-(ds.length+1)=5-ds.length by omega];exact hpd.out⟩
     ·rw[if_neg h59] at hpd
      have herr:=hide (show pSchema s=.error j2 by unfold pSchema;rw[hpd])
      replace hp:=hide hp
      replace h59:=hide h59
      go_wp2_with (first
       |(go_at_call 72;refine(patDef_any M.out.A.here hs hj).mono ?_;rintro e w1 ⟨rfl,hw1⟩;rw[hat.out];have M1:=M.out.still hw1;have hC1:=pdef_any M1.A.here (hG.out.fr M1.A.fr (Ne.symm hne)) hne hs hj2 (fun pb q e=>pDefn_le e);have hbB1:=M1.A.hB;replace M1:=hide M1;replace hC1:=hide hC1)
       |(go_at_call 73;refine hC1.out.mono ?_;rintro e w2 ⟨a,b,c,ev,rfl,hIc,hf2,hm⟩;rw[hp.out] at hm;simp only[] at hm;rw[if_neg h59.out] at hm;obtain⟨⟨g,hg1,rfl,hg2⟩,_⟩:=hm;rcases hIc with rfl|⟨cT,cx,rfl⟩;have R3:=(hf2.blk M1.out.R (by omega)).alloc (.cells #[.int .i64 a,.int .u8 b,.nilIface] 132);have r0:=R3.cell 0;have r1:=R3.cell 1;have g0:=R3.thaw 0;have g1:=R3.thaw 1;simp only[List.getElem?_cons_zero,List.getElem?_cons_succ] at r0 r1;replace R3:=hide R3;replace hf2:=hide hf2;replace hg2:=hide hg2;rotate_left;have R3:=(hf2.blk M1.out.R (by omega)).alloc (.cells #[.int .i64 a,.int .u8 b,.iface cT cx] 132);have r0:=R3.cell 0;have r1:=R3.cell 1;have g0:=R3.thaw 0;have g1:=R3.thaw 1;simp only[List.getElem?_cons_zero,List.getElem?_cons_succ] at r0 r1;replace R3:=hide R3;replace hf2:=hide hf2;replace hg2:=hide hg2))
      all_goals
       have S2:=Blk.pair R3.out (.slice none 0 0) .nilIface
       have q0:=S2.cell 0
       have q1:=S2.cell 1
       simp only[List.getElem?_cons_zero,List.getElem?_cons_succ] at q0 q1
       refine bodyPost_ret (v:=.tuple #[.agg #[.slice none 0 0,.nilIface],.iface 139 (.pointer (some ⟨g,0,none⟩))]) (by simp[results,Tryz.results50,go_sem,q0,q1]) rfl ?_
       rw[hPOST.out]
       exact pschema_err herr.out (lo:=w1.heap.size) ⟨g,hg1,rfl,hg2.out.alloc _⟩ ((M1.out.A.fr.trans hf2.out (fun _ _ e=>e)).alloc _) (by omega)
   | false=>
    have hrest:=hide (schema_rest hpd hl6 (by rw[hat];exact fun e=>absurd e.2 (by decide)))
    replace hat:=hide hat
    clear hpd
    obtain⟨RES,hRES⟩:∃ r,pT s j=r:=⟨_,rfl⟩
    have hbT:=(pT_bounds (s:=s) hj)
    cases hp:pT s j with
    | error k=>
     have herr:=hide (show pSchema s=.error k by rw[hrest.out,hp])
     replace hp:=hide hp
     go_wp2_with (first
      |(go_at_call 72;refine(patDef_any M.out.A.here hs hj).mono ?_;rintro e w1 ⟨rfl,hw1⟩;rw[hat.out];have M1:=M.out.still hw1;have hC1:=ptyp_ok hs _ j (Nat.le_refl _) hj _ bp et ex M1.A.here (hG.out.fr M1.A.fr (Ne.symm hne)) hne;have hbB1:=M1.A.hB;replace M1:=hide M1;replace hC1:=hide hC1)
      |(go_at_call 74;refine hC1.out.mono ?_;rintro e w3 ⟨v,ev,_,rfl,hf3,hm⟩;rw[hp.out] at hm;obtain⟨⟨g,hg1,rfl,hg2⟩,_⟩:=hm;have R3:=hf3.blk M1.out.R (by omega);have r0:=R3.cell 0;have r1:=R3.cell 1;have g0:=R3.thaw 0;have g1:=R3.thaw 1;simp only[List.getElem?_cons_zero,List.getElem?_cons_succ] at r0 r1;replace R3:=hide R3;replace hf3:=hide hf3;replace hg2:=hide hg2))
     have S2:=Blk.pair R3.out (.slice none 0 0) .nilIface
     have q0:=S2.cell 0
     have q1:=S2.cell 1
     simp only[List.getElem?_cons_zero,List.getElem?_cons_succ] at q0 q1
     refine bodyPost_ret (v:=.tuple #[.agg #[.slice none 0 0,.nilIface],.iface 139 (.pointer (some ⟨g,0,none⟩))]) (by simp[results,Tryz.results50,go_sem,q0,q1]) rfl ?_
     rw[hPOST.out]
     have hsz:=M1.out.A.hB
     exact pschema_err herr.out (lo:=wr.heap.size) ⟨g,by have:=((Fr.refl wr (fun _=>False)).still hw1).size;omega,rfl,hg2.out⟩ (M1.out.A.fr.trans hf3.out (fun _ _ e=>e)) (by omega)
    | ok r=>
     obtain⟨t,k⟩:=r
     have hk:=hbT.1 t k hp
     by_cases hks:k<s.size
     ·have herr:=hide (show pSchema s=.error k by rw[hrest.out,hp];simp only;rw[if_pos hks])
      have hks':(k:Int)<(s.size:Int):=by omega
      replace hp:=hide hp
      go_wp2_with (first
       |(go_at_call 72;refine(patDef_any M.out.A.here hs hj).mono ?_;rintro e w1 ⟨rfl,hw1⟩;rw[hat.out];have M1:=M.out.still hw1;have hC1:=ptyp_ok hs _ j (Nat.le_refl _) hj _ bp et ex M1.A.here (hG.out.fr M1.A.fr (Ne.symm hne)) hne;have hbB1:=M1.A.hB;replace M1:=hide M1;replace hC1:=hide hC1)
       |(go_at_call 74;refine hC1.out.mono ?_;rintro e w3 ⟨v,ev,_,rfl,hf3,hm⟩;rw[hp.out] at hm;obtain⟨rfl,h3,hv⟩:=hm;obtain⟨vT,vx,rfl⟩:=hv.iface;have M3:=M1.out.call h3 hf3;have c0:=M3.A.here.c0;have c1:=M3.A.here.c1;have hV:=hv.mono (Q:=fun g=>w.heap.size+1+1≤g) (fun g _ hg=>by omega);have hs3:=hf3.size;replace M3:=hide M3;replace hV:=hide hV;clear hf3 h3 hv))
      go_quiet (fail)
      have M4:=M3.out.still (Still.drewN w3 nq)
      generalize hW4:w3.drewN nq=W4 at M4⊢
      have hz4:W4.heap.size=w3.heap.size:=by rw[← hW4];rfl
      clear hW4
      have hC4:=hide (pwrong_any M4.A.here (hG.out.fr M4.A.fr (Ne.symm hne)))
      replace M4:=hide M4
      go_wp2_with (go_at_call 75;refine hC4.out.mono ?_;rintro e w5 ⟨v5,rfl,⟨g,hg1,rfl,hg2⟩,hf5⟩;have R3:=hf5.blk M4.out.R id;have r0:=R3.cell 0;have r1:=R3.cell 1;have g0:=R3.thaw 0;have g1:=R3.thaw 1;simp only[List.getElem?_cons_zero,List.getElem?_cons_succ] at r0 r1;replace R3:=hide R3;replace hf5:=hide hf5;replace hg2:=hide hg2)
      have S2:=Blk.pair R3.out (.slice none 0 0) .nilIface
      have q0:=S2.cell 0
      have q1:=S2.cell 1
      simp only[List.getElem?_cons_zero,List.getElem?_cons_succ] at q0 q1
      refine bodyPost_ret (v:=.tuple #[.agg #[.slice none 0 0,.nilIface],.iface 139 (.pointer (some ⟨g,0,none⟩))]) (by simp[results,Tryz.results50,go_sem,q0,q1]) rfl ?_
      rw[hPOST.out]
      have hsz:=M4.out.A.hB
      exact pschema_err herr.out (lo:=W4.heap.size) ⟨g,hg1,rfl,hg2.out⟩ (M4.out.A.fr.trans hf5.out (fun _ _ f=>f.elim)) (by omega)
     ·have hres:=hide (show pSchema s=.ok (ds,t) by rw[hrest.out,hp];simp only;rw[if_neg hks])
      have hks':¬ ((k:Int)<(s.size:Int)):=by omega
      replace hp:=hide hp
      go_wp2_with (first
       |(go_at_call 72;refine(patDef_any M.out.A.here hs hj).mono ?_;rintro e w1 ⟨rfl,hw1⟩;rw[hat.out];have M1:=M.out.still hw1;have hC1:=ptyp_ok hs _ j (Nat.le_refl _) hj _ bp et ex M1.A.here (hG.out.fr M1.A.fr (Ne.symm hne)) hne;have hbB1:=M1.A.hB;replace M1:=hide M1;replace hC1:=hide hC1)
       |(go_at_call 74;refine hC1.out.mono ?_;rintro e w3 ⟨v,ev,_,rfl,hf3,hm⟩;rw[hp.out] at hm;obtain⟨rfl,h3,hv⟩:=hm;obtain⟨vT,vx,rfl⟩:=hv.iface;have M3:=M1.out.call h3 hf3;have c0:=M3.A.here.c0;have c1:=M3.A.here.c1;have hV:=hv.mono (Q:=fun g=>w.heap.size+1+1≤g) (fun g _ hg=>by omega);have hs3:=hf3.size;replace M3:=hide M3;replace hV:=hide hV;clear hf3 h3 hv))
      go_quiet (fail)
      have M4:=M3.out.still (Still.drewN w3 nq)
      have V4:=hV.out.fr ((Fr.refl w3 (fun _=>False)).still (Still.drewN w3 nq)) (fun _ _ f=>f)
      generalize hW4:w3.drewN nq=W4 at M4 V4⊢
      clear hW4
      have M5:=M4.A.put 1 (.iface vT vx)
      have hfs:Fr W4 (W4.setCell ⟨w.heap.size+1,1,none⟩ (.iface vT vx)) (fun g=>g=w.heap.size+1):=(Fr.refl W4 (fun g=>g=w.heap.size+1)).setCell ⟨w.heap.size+1,1,none⟩ _ (fun _=>rfl)
      have R3:=hfs.blk M4.R (by omega)
      have k1:=M4.A.b.cell 1
      have kg:=M4.A.b.thaw 1
      have e0:=M5.b.cell 0
      have e1:=M5.b.cell 1
      have r0:=R3.cell 0
      have r1:=R3.cell 1
      have g0:=R3.thaw 0
      have g1:=R3.thaw 1
      simp only[List.set_cons_zero,List.set_cons_succ,List.getElem?_cons_zero,List.getElem?_cons_succ] at k1 e0 e1 r0 r1
      have D5:=M4.D.fr hfs (fun g hg e=>by omega)
      have V5:=V4.fr hfs (fun g hg e=>by omega)
      replace M5:=hide M5
      replace M4:=hide M4
      replace D5:=hide D5
      replace V5:=hide V5
      replace R3:=hide R3
      clear hfs V4
      go_wp2_with fail
      have S2:=Blk.pair R3.out (.slice sa ds.length sc) (.iface vT vx)
      have q0:=S2.cell 0
      have q1:=S2.cell 1
      simp only[List.getElem?_cons_zero,List.getElem?_cons_succ] at q0 q1
      refine bodyPost_ret (v:=.tuple #[.agg #[.slice sa ds.length sc,.iface vT vx],.nilIface]) (by simp[results,Tryz.results50,go_sem,q0,q1]) rfl ?_
      rw[hPOST.out]
      have h4:=Fr.pair (W4.setCell ⟨w.heap.size+1,1,none⟩ (.iface vT vx)) w.heap.size (.slice sa ds.length sc) (.iface vT vx)
      refine⟨_,_,_,rfl,⟨_,_,_,rfl⟩,.inr ⟨_,_,rfl⟩,M5.out.fr.trans h4 (fun y hy e=>by omega),?_⟩
      rw[hres.out]
      refine⟨rfl,xs,own_zero (ownsRow_fr M5.out.row h4 (fun g hg e=>by have:=M5.out.row.lt g hg;omega)),fun g hg=>by have:=M5.out.row.lt g hg;omega,(D5.out.fr h4 (fun g hg e=>by omega)).mono (fun g _ hg=>by have:=hg.1;omega),(V5.out.fr h4 (fun g hg e=>by omega)).mono (fun g _ hg=>by omega)⟩
  ·have h6':¬ ((ds.length:Int)<6):=by omega
   have hrest:=hide (schema_rest hpd hl6 (fun e=>h6 e.1))
   have hC1:=ptyp_ok hs _ j (Nat.le_refl _) hj _ bp et ex M.out.A.here (hG.out.fr M.out.A.fr (Ne.symm hne)) hne
   have M1:=M
   replace hC1:=hide hC1
   clear hpd
   obtain⟨RES,hRES⟩:∃ r,pT s j=r:=⟨_,rfl⟩
   have hbT:=(pT_bounds (s:=s) hj)
   cases hp:pT s j with
   | error k=>
    have herr:=hide (show pSchema s=.error k by rw[hrest.out,hp])
    replace hp:=hide hp
    go_wp2_with (first
     |(go_at_call 74;refine hC1.out.mono ?_;rintro e w3 ⟨v,ev,_,rfl,hf3,hm⟩;rw[hp.out] at hm;obtain⟨⟨g,hg1,rfl,hg2⟩,_⟩:=hm;have R3:=hf3.blk M1.out.R (by omega);have r0:=R3.cell 0;have r1:=R3.cell 1;have g0:=R3.thaw 0;have g1:=R3.thaw 1;simp only[List.getElem?_cons_zero,List.getElem?_cons_succ] at r0 r1;replace R3:=hide R3;replace hf3:=hide hf3;replace hg2:=hide hg2))
    have S2:=Blk.pair R3.out (.slice none 0 0) .nilIface
    have q0:=S2.cell 0
    have q1:=S2.cell 1
    simp only[List.getElem?_cons_zero,List.getElem?_cons_succ] at q0 q1
    refine bodyPost_ret (v:=.tuple #[.agg #[.slice none 0 0,.nilIface],.iface 139 (.pointer (some ⟨g,0,none⟩))]) (by simp[results,Tryz.results50,go_sem,q0,q1]) rfl ?_
    rw[hPOST.out]
    have hsz:=M1.out.A.hB
    exact pschema_err herr.out (lo:=wr.heap.size) ⟨g,by omega,rfl,hg2.out⟩ (M1.out.A.fr.trans hf3.out (fun _ _ e=>e)) (by omega)
   | ok r=>
    obtain⟨t,k⟩:=r
    have hk:=hbT.1 t k hp
    by_cases hks:k<s.size
    ·have herr:=hide (show pSchema s=.error k by rw[hrest.out,hp];simp only;rw[if_pos hks])
     have hks':(k:Int)<(s.size:Int):=by omega
     replace hp:=hide hp
     go_wp2_with (first
      |(go_at_call 74;refine hC1.out.mono ?_;rintro e w3 ⟨v,ev,_,rfl,hf3,hm⟩;rw[hp.out] at hm;obtain⟨rfl,h3,hv⟩:=hm;obtain⟨vT,vx,rfl⟩:=hv.iface;have M3:=M1.out.call h3 hf3;have c0:=M3.A.here.c0;have c1:=M3.A.here.c1;have hV:=hv.mono (Q:=fun g=>w.heap.size+1+1≤g) (fun g _ hg=>by omega);have hs3:=hf3.size;replace M3:=hide M3;replace hV:=hide hV;clear hf3 h3 hv))
     go_quiet (fail)
     have M4:=M3.out.still (Still.drewN w3 nq)
     generalize hW4:w3.drewN nq=W4 at M4⊢
     have hz4:W4.heap.size=w3.heap.size:=by rw[← hW4];rfl
     clear hW4
     have hC4:=hide (pwrong_any M4.A.here (hG.out.fr M4.A.fr (Ne.symm hne)))
     replace M4:=hide M4
     go_wp2_with (go_at_call 75;refine hC4.out.mono ?_;rintro e w5 ⟨v5,rfl,⟨g,hg1,rfl,hg2⟩,hf5⟩;have R3:=hf5.blk M4.out.R id;have r0:=R3.cell 0;have r1:=R3.cell 1;have g0:=R3.thaw 0;have g1:=R3.thaw 1;simp only[List.getElem?_cons_zero,List.getElem?_cons_succ] at r0 r1;replace R3:=hide R3;replace hf5:=hide hf5;replace hg2:=hide hg2)
     have S2:=Blk.pair R3.out (.slice none 0 0) .nilIface
     have q0:=S2.cell 0
     have q1:=S2.cell 1
     simp only[List.getElem?_cons_zero,List.getElem?_cons_succ] at q0 q1
     refine bodyPost_ret (v:=.tuple #[.agg #[.slice none 0 0,.nilIface],.iface 139 (.pointer (some ⟨g,0,none⟩))]) (by simp[results,Tryz.results50,go_sem,q0,q1]) rfl ?_
     rw[hPOST.out]
     have hsz:=M4.out.A.hB
     exact pschema_err herr.out (lo:=W4.heap.size) ⟨g,hg1,rfl,hg2.out⟩ (M4.out.A.fr.trans hf5.out (fun _ _ f=>f.elim)) (by omega)
    ·have hres:=hide (show pSchema s=.ok (ds,t) by rw[hrest.out,hp];simp only;rw[if_neg hks])
     have hks':¬ ((k:Int)<(s.size:Int)):=by omega
     replace hp:=hide hp
     go_wp2_with (first
      |(go_at_call 74;refine hC1.out.mono ?_;rintro e w3 ⟨v,ev,_,rfl,hf3,hm⟩;rw[hp.out] at hm;obtain⟨rfl,h3,hv⟩:=hm;obtain⟨vT,vx,rfl⟩:=hv.iface;have M3:=M1.out.call h3 hf3;have c0:=M3.A.here.c0;have c1:=M3.A.here.c1;have hV:=hv.mono (Q:=fun g=>w.heap.size+1+1≤g) (fun g _ hg=>by omega);have hs3:=hf3.size;replace M3:=hide M3;replace hV:=hide hV;clear hf3 h3 hv))
     go_quiet (fail)
     have M4:=M3.out.still (Still.drewN w3 nq)
     have V4:=hV.out.fr ((Fr.refl w3 (fun _=>False)).still (Still.drewN w3 nq)) (fun _ _ f=>f)
     generalize hW4:w3.drewN nq=W4 at M4 V4⊢
     clear hW4
     have M5:=M4.A.put 1 (.iface vT vx)
     have hfs:Fr W4 (W4.setCell ⟨w.heap.size+1,1,none⟩ (.iface vT vx)) (fun g=>g=w.heap.size+1):=(Fr.refl W4 (fun g=>g=w.heap.size+1)).setCell ⟨w.heap.size+1,1,none⟩ _ (fun _=>rfl)
     have R3:=hfs.blk M4.R (by omega)
     have k1:=M4.A.b.cell 1
     have kg:=M4.A.b.thaw 1
     have e0:=M5.b.cell 0
     have e1:=M5.b.cell 1
     have r0:=R3.cell 0
     have r1:=R3.cell 1
     have g0:=R3.thaw 0
     have g1:=R3.thaw 1
     simp only[List.set_cons_zero,List.set_cons_succ,List.getElem?_cons_zero,List.getElem?_cons_succ] at k1 e0 e1 r0 r1
     have D5:=M4.D.fr hfs (fun g hg e=>by omega)
     have V5:=V4.fr hfs (fun g hg e=>by omega)
     replace M5:=hide M5
     replace M4:=hide M4
     replace D5:=hide D5
     replace V5:=hide V5
     replace R3:=hide R3
     clear hfs V4
     go_wp2_with fail
     have S2:=Blk.pair R3.out (.slice sa ds.length sc) (.iface vT vx)
     have q0:=S2.cell 0
     have q1:=S2.cell 1
     simp only[List.getElem?_cons_zero,List.getElem?_cons_succ] at q0 q1
     refine bodyPost_ret (v:=.tuple #[.agg #[.slice sa ds.length sc,.iface vT vx],.nilIface]) (by simp[results,Tryz.results50,go_sem,q0,q1]) rfl ?_
     rw[hPOST.out]
     have h4:=Fr.pair (W4.setCell ⟨w.heap.size+1,1,none⟩ (.iface vT vx)) w.heap.size (.slice sa ds.length sc) (.iface vT vx)
     refine⟨_,_,_,rfl,⟨_,_,_,rfl⟩,.inr ⟨_,_,rfl⟩,M5.out.fr.trans h4 (fun y hy e=>by omega),?_⟩
     rw[hres.out]
     refine⟨rfl,xs,own_zero (ownsRow_fr M5.out.row h4 (fun g hg e=>by have:=M5.out.row.lt g hg;omega)),fun g hg=>by have:=M5.out.row.lt g hg;omega,(D5.out.fr h4 (fun g hg e=>by omega)).mono (fun g _ hg=>by have:=hg.1;omega),(V5.out.fr h4 (fun g hg e=>by omega)).mono (fun g _ hg=>by omega)⟩
end Go.Proofs.YtiifagiebikmdaaGreatDoor
