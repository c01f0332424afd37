import Derived.Test.YtiifagiebikmdaaGreatDoorBK35
import Derived.Test.YtiifagiebikmdaaGreatDoorBK13
import Derived.Test.YtiifagiebikmdaaGreatDoorBK27
import Derived.Test.YtiifagiebikmdaaGreatDoorBK26
import Derived.Test.YtiifagiebikmdaaGreatDoorBK21
namespace Go.Proofs.YtiifagiebikmdaaGreatDoor
open Go.RowKit
structure YL (w0:World) (P:Nat→Prop) (ss:ByteArray) (ds:List PD) (sv rv:Value) (xs:List Value) (s:ByteArray) (E:WErr) (br j nn:Nat) (cx:List Value) (ct:TypeId) (t:PT) (w:World) (lv:Value) (l:List DT) (W:World):Prop where
 M:YC w0 P ss ds sv rv xs s E br j nn W
 fr:Fr w W (· = br)
 bx:Blk W w.heap.size cx ct
 bB:w.heap.size+1≤W.heap.size
 lt:br<w.heap.size
 row:RowT (envOf ds) W (w.heap.size+1) (fun g=>w.heap.size+1≤g∧lv.ownBlock≠some g) t lv l
section
variable {w0 w W W':World} {P:Nat→Prop} {ss:ByteArray} {ds:List PD} {sv rv:Value} {xs:List Value} {s:ByteArray} {E:WErr} {br i n j nn j' nn':Nat} {cx:List Value} {ct:TypeId} {t:PT} {lv:Value} {l:List DT}
theorem YL.call (Q:YL w0 P ss ds sv rv xs s E br j nn cx ct t w lv l W) (h:RwAt W' br sv rv s j' nn') (hf:Fr W W' (· = br)) (hj:j'≤s.size):YL w0 P ss ds sv rv xs s E br j' nn' cx ct t w lv l W':=by
 have h1:=Q.lt
 have h2:=Q.bB
 refine⟨Q.M.call h hf hj,Q.fr.trans hf (fun _ _ e=>e),hf.blk Q.bx (by omega),Nat.le_trans h2 hf.size,h1,Q.row.fr hf (fun g hg=>by omega) (fun g hg=>?_)⟩
 obtain⟨Y,a,_⟩:=Q.row
 have:=a.lt g hg
 omega
theorem YL.item (Q:YL w0 P ss ds sv rv xs s E br j nn cx ct t w lv l W){o:Obj}{w5:World}{v5 v:Value}{d:DT}{Y:Nat→Value}(hY:∀ i d,l[i]?=some d→DaV (envOf ds) W (fun g=>w.heap.size+1≤g∧lv.ownBlock≠some g) d (subTy (envOf ds) t 0 i) (Y i)) (hd:DaV (envOf ds) W (fun g=>w.heap.size+1≤g∧lv.ownBlock≠some g) d (subTy (envOf ds) t 0 l.length) v)
 (hg:(W.alloc o).grownBy w5 lv.ownBlock) (ho:w5.ownsRow (w.heap.size+1) 89 1 v5 (l.length+1) (((List.range l.length).flatMap fun i=>[Y i])++[v])) (hl:v5.ownBlock=lv.ownBlock∨v5.ownBlock=some (W.alloc o).heap.size):YL w0 P ss ds sv rv xs s E br j nn cx ct t w v5 (l++[d]) w5:=by
 have h1:=Q.lt
 have h2:=Q.bB
 have h3:(W.alloc o).heap.size=W.heap.size+1:=by simp
 obtain⟨Y0,a,_⟩:=Q.row
 have hF:Fr W w5 (fun g=>lv.ownBlock=some g):=((Fr.refl W _).alloc o).grown hg (fun k e _=>e)
 have hrow:∀ g,lv.ownBlock=some g→w.heap.size+1≤g:=fun g e=>(a.lt g e).1
 have hM:YC w0 P ss ds sv rv xs s E br j nn w5:=by
  have hb:=Q.M.brG
  exact⟨hF.blk Q.M.R (fun e=>by have:=hrow _ e;omega),Q.M.D.fr hF (fun g hg e=>by have:=hrow _ e;have:=Q.M.Pbr g hg;omega),Q.M.G.fr hF (by omega) (fun g e=>by have:=hrow _ e;omega),Q.M.E1,Q.M.E2,Q.M.Pbr,Q.M.brG,Q.M.hs,Q.M.il⟩
 refine⟨hM,Q.fr.trans hF (fun x hx e=>absurd (hrow x e) (by omega)),hF.blk Q.bx (fun e=>by have:=hrow _ e;omega),Nat.le_trans h2 hF.size,h1,RowT.grow hY hd (hF.mono (fun g _ e=>.inl e)) (c:=br) (by omega) ?_ ho⟩
 rcases hl with e|e
 ·exact .inl e
 ·exact .inr ⟨_,e,by omega⟩
end
def LyInv (RES:Except Nat (List (ByteArray×DT)×Nat×Nat)) (R:Nat→Nat→Except Nat (DT×Nat×Nat)) (cnt n:Nat) (w0:World) (P:Nat→Prop) (ss:ByteArray) (ds:List PD) (sv rv:Value) (xs:List Value) (s:ByteArray) (E:WErr) (br:Nat) (cx:List Value) (ct:TypeId) (t:PT) (w:World) (q:Nat) (v8 v20:Value) (W:World):Prop:=
 ∃ (acc:List (ByteArray×DT)) (j nn:Nat),v20=.int .i64 (acc.length:Int)∧acc.length≤cnt∧n+acc.length≤nn∧nn≤300∧302≤q+nn∧Hid (YL w0 P ss ds sv rv xs s E br j nn cx ct t w v8 (acc.map Prod.snd) W)∧RES=aheadI acc (bItems R s false (cnt-acc.length) (lastK acc) j nn)
section
variable {w0 w:World} {P:Nat→Prop} {ss:ByteArray} {ds:List PD} {sv rv:Value} {xs:List Value} {s:ByteArray} {E:WErr} {br i n:Nat}
set_option maxHeartbeats 8000000 in
set_option maxRecDepth 100000 in
theorem ylist_any {u:PT}{p f:Nat}{pt:Int}{vT:TypeId}{vx:Value}(hI:ItoaOK w0) (M:YC w0 P ss ds sv rv xs s E br i n w) (hn:n≤300) (hT:TyV w P u (.iface vT vx)) (hR:∀ j nn,n≤nn→nn≤300→j≤s.size→DatY w0 P ss ds sv rv xs s E br f u j nn) :
 Calls Tryz.prog 128 #[.pointer (some ⟨br,0,none⟩),.agg #[.int .i64 pt,.iface vT vx]] w (YPost (envOf ds) (.wrap 91 p u) w sv rv s E br (bWrap (rdB s (envOf ds) f u) s 91 i n)):=by
 obtain⟨POST,hPOST⟩:∃ Q,Hid (Q=YPost (envOf ds) (.wrap 91 p u) w sv rv s E br (bWrap (rdB s (envOf ds) f u) s 91 i n)):=⟨_,rfl⟩
 rw[← hPOST.out]
 rw[bWrap_eq] at hPOST
 have hsl:=M.hs
 have hbl:=M.lt
 have A:Fr w (w.alloc (.cells #[.int .i64 pt,.iface vT vx] 205)) (fun _=>False):=(Fr.refl w _).alloc _
 have M0:=M.new A
 have B0:=Blk.new w #[.int .i64 pt,.iface vT vx] 205
 have hC:=wcount_any M0.R M0.hs M0.il M0.err
 have hnb:=M.brP
 replace hT:=hide hT
 replace hR:=hide hR
 cases hb:bSize s i with
 | none=>
  rw[hb] at hC hPOST
  replace hC:=hide hC
  replace A:=hide A
  clear M M0 B0 hb
  go_enter Tryz.func128,Tryz.ntmps128
  go_wp2_with (go_at_call 156;refine hC.out.mono ?_;rintro e w1 ⟨hf1,rfl,j,hj,h1⟩;replace hf1:=hide hf1;replace h1:=hide h1)
  try go_ret
  rw[hPOST.out]
  exact ybad ((A.out.mono (fun _ _ f=>f.elim)).trans hf1.out (fun _ _ e=>e)) ⟨j,n,h1.out,hj⟩
 | some q=>
  obtain⟨v,j0⟩:=q
  have hg:=bNum_goes hb
  obtain⟨cnt,rfl⟩:∃ m:Nat,v=(m:Int):=⟨v.toNat,by omega⟩
  rw[hb] at hC hPOST
  simp only[Int.toNat_natCast] at hPOST
  obtain⟨RES,hRES⟩:∃ r,r=bItems (rdB s (envOf ds) f u) s false cnt none j0 n:=⟨_,rfl⟩
  rw[show((91:Nat)==123)=false from rfl,← hRES] at hPOST
  have start:Hid (∀ w1,RwAt w1 br sv rv s j0 n→Fr (w.alloc (.cells #[.int .i64 pt,.iface vT vx] 205)) w1 (· = br)→LyInv RES (rdB s (envOf ds) f u) cnt n w0 P ss ds sv rv xs s E br [.int .i64 pt,.iface vT vx] 205 (.wrap 91 p u) w 302 (.slice none 0 0) (.int .i64 0) w1):=hide (fun w1 h1 F1=>⟨[],j0,n,rfl,by simp,by simp,hn,by omega,hide ⟨M0.call h1 F1 hg.2.1,(A.mono (fun _ _ f=>f.elim)).trans F1 (fun _ _ e=>e),F1.blk B0 (by omega),by have:=F1.size;simp at this;omega,hbl,RowT.nil _ _ _ _ _⟩,by rw[aheadI_nil,hRES];rfl⟩)
  replace hC:=hide hC
  replace hRES:=hide hRES
  have hcnt:(cnt:Int)≤9223372036854775807:=hg.2.2.2.1
  clear M M0 B0 A hb
  go_enter Tryz.func128,Tryz.ntmps128
  go_wp2_with (go_at_call 156;refine hC.out.mono ?_;rintro e w1 ⟨hf1,rfl,hj,h1⟩;have st1:=hide (start.out w1 h1 hf1);clear hf1 h1)
  go_loopg [8,9,10,20] 302 (fun q v8 v9 v10 v20 W=>LyInv RES (rdB s (envOf ds) f u) cnt n w0 P ss ds sv rv xs s E br [.int .i64 pt,.iface vT vx] 205 (.wrap 91 p u) w q v8 v20 W)
  case atStart=>exact st1.out
  case round=>
   clear start st1 hC
   obtain⟨acc,j,nn,rfl,hkc,hnn,hnn3,hq,hQ,hres⟩:=hrel
   obtain⟨Y,hrow,hY⟩:=hQ.out.row
   obtain⟨la,lc,rfl⟩:=own_sl hrow
   have hll:(acc.map Prod.snd).length=acc.length:=by simp
   rw[hll] at hrow hQ hY
   by_cases hend:acc.length=cnt
   ·have hlt:¬ (acc.length:Int)<(cnt:Int):=by omega
    have hr:=hide (show RES=.ok (acc,j,nn) by rw[hres,show cnt-acc.length=0 by omega];simp[bItems,aheadI])
    have hQr:=hide hQ.out.row
    clear hres hrow hY hll hend
    go_wp2_with fail
    try go_ret
    rw[hPOST.out,hr.out]
    refine yok ?_ hQ.out.fr hQ.out.M.R hQ.out.M.il
    exact hQr.out.dat (fun g _ hg=>by omega) (fun g e=>by have:=hQr.out;obtain⟨_,a,_⟩:=this;have:=(a.lt g e).1;show w.heap.size≤g;omega) (.inl ⟨rfl,rfl⟩)
   ·have hlt:(acc.length:Int)<(cnt:Int):=by omega
    obtain⟨cn,hcn⟩:∃ cn,cnt-acc.length=cn+1:=⟨cnt-acc.length-1,by omega⟩
    rw[hcn,aheadI_step] at hres
    have hk1:bKey s false (lastK acc) j=some (noB,j):=by simp[bKey]
    rw[hk1] at hres
    simp only[itemI] at hres
    have hc1:=hQ.out.bx.cell 1
    simp only[List.getElem?_cons_zero,List.getElem?_cons_succ] at hc1
    have hC:=hR.out j nn (by omega) hnn3 hQ.out.M.il wr _ hQ.out.M hnn3 (hT.out.fr hQ.out.fr (fun g hg e=>hnb (e▸hg)))
    have hbB:=hQ.out.bB
    cases hrd:rdB s (envOf ds) f u j nn with
    | error e0=>
     rw[hrd] at hres hC
     have hr:=hide hres
     replace hC:=hide hC
     have hL3:acc.length≤300:=by omega
     clear hrow hY hres
     go_wp2_with (first
      |(go_at_call 66;refine hC.out.mono ?_;rintro e w1 ⟨v1,ev1,rfl,hf1,hv1,hE1,hR1⟩;subst hv1;obtain⟨eT,ex,rfl⟩:=hE1.iface;have hG1:=((hQ.out.M.call hR1.choose_spec.choose_spec.1 hf1 hR1.choose_spec.choose_spec.2)).G;replace hE1:=hide hE1;replace hf1:=hide hf1;replace hR1:=hide hR1)
      |(go_at_call 145;refine(inItem_any hI hG1 (by omega)).mono ?_;rintro e w2 hW2;have hE2:=hide (fun v (he:e=.returned v)=>hE1.out.wrap hW2 (by have:=hf1.out.size;omega) he);obtain⟨g2,tx2,rfl,hg2,hb2,hf2⟩:=hW2;replace hf2:=hide hf2;replace hb2:=hide hb2))
     try go_ret
     rw[hPOST.out,hr.out]
     refine⟨_,_,rfl,(hQ.out.fr.trans hf1.out (fun _ _ e=>e)).trans (hf2.out.mono (fun _ _ f=>f.elim)) (fun _ _ e=>e),rfl,(hE2.out _ rfl).less (by omega),?_⟩
     obtain⟨j1,m1,h1,h2⟩:=hR1.out
     exact⟨j1,m1,hf2.out.blk h1 id,h2⟩
    | ok q=>
     obtain⟨d,j1,m1⟩:=q
     rw[hrd] at hres hC
     have hgo:=rdB_goes s (envOf ds) f u j nn d j1 m1 hQ.out.M.il hnn3 hrd
     have hres':=hide hres
     replace hC:=hide hC
     replace hY:=hide hY
     replace hrow:=hide hrow
     have hL3:acc.length≤300:=by omega
     obtain⟨ti,hi1,hi2,hi3,hi4⟩:=info_parts i_Datum2
     clear hres
     go_wp2_with (first
      |(go_at_call 66;refine hC.out.mono ?_;rintro e w1 ⟨v1,ev1,rfl,hf1,hv1,hD1,hR1,hj1⟩;subst hv1;obtain⟨dT,dx,rfl⟩:=hD1.iface;have Q1:=hQ.out.call hR1 hf1 hj1;have hb1:=Q1.bB;have hrow1:=hide (ownsRow_fr hrow.out hf1 (fun g hg e=>by have:=hrow.out.lt g hg;omega));have hD1':=hide (hD1.mono (Q:=fun g=>w.heap.size+1≤g∧(Value.slice la acc.length lc).ownBlock≠some g) (fun g _ hg=>⟨by omega,fun e=>by have:=hrow.out.lt g e;omega⟩));have hY1:=hide (fun i d (e:(acc.map Prod.snd)[i]?=some d)=>(hY.out i d e).fr hf1 (fun g hg e=>by have:=hg.1;omega));replace Q1:=hide Q1;clear hD1 hR1)
      |(at_builtin;go_must (refine wpList_append_own_at _ rfl _ _ 156 rfl (w.heap.size+1) 89 ti _ 1 16 u_DList hi1 hi2 hi3 hi4 rfl (by decide) (.slice la acc.length lc) acc.length ((List.range acc.length).flatMap fun i=>[Y i]) rfl ?hown _ 1 1 [.iface dT dx] rfl rfl (news_new _ #[.iface dT dx] _ _ ?nn) ?one ?b1 ?b2 ?b3 ?_)
        case hown=>exact World.ownsRow.alloc hrow1.out _
        case nn=>simp
        case one=>simp[Value.oneCell']
        case b1=>unfold maxLen;omega
        case b2=>omega
        case b3=>simp;omega
        intro v5 w5 ho5 hg5 hn5 hl5
        have Q5:=Q1.out.item hY1.out hD1'.out hg5 (by rw[hll];exact ho5) hl5
        obtain⟨g5,cap5,rfl⟩:=own_form ho5 (by omega)
        clear hg5 hl5 hn5 ho5
        replace Q5:=hide Q5))
     go_roundg (302-m1)
     case measure=>omega
     case rel=>
      refine⟨acc++[(noB,d)],j1,m1,by simp,by simp;omega,by simp;omega,hgo.2.2.2,by omega,hide (by rw[List.map_append];exact Q5.out),?_⟩
      rw[hres'.out,List.length_append,List.length_singleton,show cnt-(acc.length+1)=cn by omega]
      have:lastK (acc++[(noB,d)])=some noB:=by simp[lastK]
      rw[this]
end
open Go.RowKit
structure YM (w0:World) (P:Nat→Prop) (ss:ByteArray) (ds:List PD) (sv rv:Value) (xs:List Value) (s:ByteArray) (E:WErr) (br j nn:Nat) (cx:List Value) (ct:TypeId) (t:PT) (w:World) (lv:Value) (l:List (ByteArray×DT)) (W:World):Prop where
 M:YC w0 P ss ds sv rv xs s E br j nn W
 fr:Fr w W (· = br)
 bx:Blk W w.heap.size cx ct
 bB:w.heap.size+1≤W.heap.size
 lt:br<w.heap.size
 row:∃ ys,W.ownsRow (w.heap.size+1) 160 2 lv l.length ys∧LastIs (lastE l) l.length ys∧RowE (envOf ds) W (fun g=>w.heap.size+1≤g∧lv.ownBlock≠some g) t l ys
section
variable {w0 w W W':World} {P:Nat→Prop} {ss:ByteArray} {ds:List PD} {sv rv:Value} {xs:List Value} {s:ByteArray} {E:WErr} {br i n j nn j' nn':Nat} {cx:List Value} {ct:TypeId} {t:PT} {lv:Value} {l:List (ByteArray×DT)}
theorem YM.call (Q:YM w0 P ss ds sv rv xs s E br j nn cx ct t w lv l W) (h:RwAt W' br sv rv s j' nn') (hf:Fr W W' (· = br)) (hj:j'≤s.size):YM w0 P ss ds sv rv xs s E br j' nn' cx ct t w lv l W':=by
 have h1:=Q.lt
 have h2:=Q.bB
 obtain⟨ys,a,b,c⟩:=Q.row
 exact⟨Q.M.call h hf hj,Q.fr.trans hf (fun _ _ e=>e),hf.blk Q.bx (by omega),Nat.le_trans h2 hf.size,h1,ys,ownsRow_fr a hf (fun g hg e=>by have:=a.lt g hg;omega),b,c.fr hf (fun g hg e=>by omega)⟩
theorem YM.item (Q:YM w0 P ss ds sv rv xs s E br j nn cx ct t w lv l W){o:Obj}{w5:World}{v5 v:Value}{d:DT}{key:ByteArray}{ys:List Value}(ha:W.ownsRow (w.heap.size+1) 160 2 lv l.length ys) (hY:RowE (envOf ds) W (fun g=>w.heap.size+1≤g∧lv.ownBlock≠some g) t l ys) (hk:key.size≤4000) (hd:DaV (envOf ds) W (fun g=>w.heap.size+1≤g∧lv.ownBlock≠some g) d (subTy (envOf ds) t 0 l.length) v)
 (hg:(W.alloc o).grownBy w5 lv.ownBlock) (ho:w5.ownsRow (w.heap.size+1) 160 2 v5 (l.length+1) (ys++[.string key,v])) (hl:v5.ownBlock=lv.ownBlock∨v5.ownBlock=some (W.alloc o).heap.size):YM w0 P ss ds sv rv xs s E br j nn cx ct t w v5 (l++[(key,d)]) w5:=by
 have h1:=Q.lt
 have h2:=Q.bB
 have h3:(W.alloc o).heap.size=W.heap.size+1:=by simp
 have hF:Fr W w5 (fun g=>lv.ownBlock=some g):=((Fr.refl W _).alloc o).grown hg (fun k e _=>e)
 have hrow:∀ g,lv.ownBlock=some g→w.heap.size+1≤g:=fun g e=>(ha.lt g e).1
 have hM:YC w0 P ss ds sv rv xs s E br j nn w5:=by
  have hb:=Q.M.brG
  exact⟨hF.blk Q.M.R (fun e=>by have:=hrow _ e;omega),Q.M.D.fr hF (fun g hg e=>by have:=hrow _ e;have:=Q.M.Pbr g hg;omega),Q.M.G.fr hF (by omega) (fun g e=>by have:=hrow _ e;omega),Q.M.E1,Q.M.E2,Q.M.Pbr,Q.M.brG,Q.M.hs,Q.M.il⟩
 have hyl:=ha.1
 refine⟨hM,Q.fr.trans hF (fun x hx e=>absurd (hrow x e) (by omega)),hF.blk Q.bx (fun e=>by have:=hrow _ e;omega),Nat.le_trans h2 hF.size,h1,_,by rw[List.length_append,List.length_singleton];exact ho,?_,RowE.grow hY hd hk (hF.mono (fun g _ e=>.inl e)) (c:=br) (by omega) ?_⟩
 ·rw[lastE_snoc,List.length_append,List.length_singleton]
  exact⟨l.length,rfl,by rw[List.getElem?_append_right (by omega),show l.length*2-ys.length=0 by omega];rfl⟩
 ·rcases hl with e|e
  ·exact .inl e
  ·exact .inr ⟨_,e,by omega⟩
end
def MyInv (RES:Except Nat (List (ByteArray×DT)×Nat×Nat)) (R:Nat→Nat→Except Nat (DT×Nat×Nat)) (cnt n:Nat) (w0:World) (P:Nat→Prop) (ss:ByteArray) (ds:List PD) (sv rv:Value) (xs:List Value) (s:ByteArray) (E:WErr) (br:Nat) (cx:List Value) (ct:TypeId) (t:PT) (w:World) (q:Nat) (v8 v21:Value) (W:World):Prop:=
 ∃ (acc:List (ByteArray×DT)) (j nn:Nat),v21=.int .i64 (acc.length:Int)∧acc.length≤cnt∧n+acc.length≤nn∧nn≤300∧302≤q+nn∧Hid (YM w0 P ss ds sv rv xs s E br j nn cx ct t w v8 acc W)∧RES=aheadI acc (bItems R s true (cnt-acc.length) (lastE acc) j nn)
section
variable {w0 w:World} {P:Nat→Prop} {ss:ByteArray} {ds:List PD} {sv rv:Value} {xs:List Value} {s:ByteArray} {E:WErr} {br i n:Nat}
set_option maxHeartbeats 16000000 in
set_option maxRecDepth 100000 in
theorem ymap_any {u:PT}{p f:Nat}{pt:Int}{vT:TypeId}{vx:Value}(hI:QuoteOK w0) (M:YC w0 P ss ds sv rv xs s E br i n w) (hn:n≤300) (hT:TyV w P u (.iface vT vx)) (hR:∀ j nn,n≤nn→nn≤300→j≤s.size→DatY w0 P ss ds sv rv xs s E br f u j nn) :
 Calls Tryz.prog 129 #[.pointer (some ⟨br,0,none⟩),.agg #[.int .i64 pt,.iface vT vx]] w (YPost (envOf ds) (.wrap 123 p u) w sv rv s E br (bWrap (rdB s (envOf ds) f u) s 123 i n)):=by
 obtain⟨POST,hPOST⟩:∃ Q,Hid (Q=YPost (envOf ds) (.wrap 123 p u) w sv rv s E br (bWrap (rdB s (envOf ds) f u) s 123 i n)):=⟨_,rfl⟩
 rw[← hPOST.out]
 rw[bWrap_eq] at hPOST
 have hsl:=M.hs
 have hbl:=M.lt
 have A:Fr w (w.alloc (.cells #[.int .i64 pt,.iface vT vx] 206)) (fun _=>False):=(Fr.refl w _).alloc _
 have M0:=M.new A
 have B0:=Blk.new w #[.int .i64 pt,.iface vT vx] 206
 have hC:=wcount_any M0.R M0.hs M0.il M0.err
 have hnb:=M.brP
 replace hT:=hide hT
 replace hR:=hide hR
 cases hb:bSize s i with
 | none=>
  rw[hb] at hC hPOST
  replace hC:=hide hC
  replace A:=hide A
  clear M M0 B0 hb
  go_enter Tryz.func129,Tryz.ntmps129
  go_wp2_with (go_at_call 156;refine hC.out.mono ?_;rintro e w1 ⟨hf1,rfl,j,hj,h1⟩;replace hf1:=hide hf1;replace h1:=hide h1)
  try go_ret
  rw[hPOST.out]
  exact ybad ((A.out.mono (fun _ _ f=>f.elim)).trans hf1.out (fun _ _ e=>e)) ⟨j,n,h1.out,hj⟩
 | some q=>
  obtain⟨v,j0⟩:=q
  have hg:=bNum_goes hb
  obtain⟨cnt,rfl⟩:∃ m:Nat,v=(m:Int):=⟨v.toNat,by omega⟩
  rw[hb] at hC hPOST
  simp only[Int.toNat_natCast] at hPOST
  obtain⟨RES,hRES⟩:∃ r,r=bItems (rdB s (envOf ds) f u) s true cnt none j0 n:=⟨_,rfl⟩
  rw[show((123:Nat)==123)=true from rfl,← hRES] at hPOST
  have start:Hid (∀ w1,RwAt w1 br sv rv s j0 n→Fr (w.alloc (.cells #[.int .i64 pt,.iface vT vx] 206)) w1 (· = br)→MyInv RES (rdB s (envOf ds) f u) cnt n w0 P ss ds sv rv xs s E br [.int .i64 pt,.iface vT vx] 206 (.wrap 123 p u) w 302 (.slice none 0 0) (.int .i64 0) w1):=hide (fun w1 h1 F1=>⟨[],j0,n,rfl,by simp,by simp,hn,by omega,hide ⟨M0.call h1 F1 hg.2.1,(A.mono (fun _ _ f=>f.elim)).trans F1 (fun _ _ e=>e),F1.blk B0 (by omega),by have:=F1.size;simp at this;omega,hbl,[],World.ownsRow_nil _ _ _ _,rfl,RowE.nil _ _ _ _⟩,by rw[aheadI_nil,hRES];rfl⟩)
  replace hC:=hide hC
  replace hRES:=hide hRES
  have hcnt:(cnt:Int)≤9223372036854775807:=hg.2.2.2.1
  clear M M0 B0 A hb
  go_enter Tryz.func129,Tryz.ntmps129
  go_wp2_with (go_at_call 156;refine hC.out.mono ?_;rintro e w1 ⟨hf1,rfl,hj,h1⟩;have st1:=hide (start.out w1 h1 hf1);clear hf1 h1)
  go_loopg [8,9,10,11,21] 302 (fun q v8 v9 v10 v11 v21 W=>MyInv RES (rdB s (envOf ds) f u) cnt n w0 P ss ds sv rv xs s E br [.int .i64 pt,.iface vT vx] 206 (.wrap 123 p u) w q v8 v21 W)
  case atStart=>exact st1.out
  case round=>
   clear start st1 hC
   obtain⟨acc,j,nn,rfl,hkc,hnn,hnn3,hq,hQ,hres⟩:=hrel
   obtain⟨ys,hrow,hlast,hY⟩:=hQ.out.row
   obtain⟨la,lc,rfl⟩:=own_sl hrow
   by_cases hend:acc.length=cnt
   ·have hlt:¬ (acc.length:Int)<(cnt:Int):=by omega
    have hr:=hide (show RES=.ok (acc,j,nn) by rw[hres,show cnt-acc.length=0 by omega];simp[bItems,aheadI])
    have hYr:=hide hY
    have hrw:=hide hrow
    clear hres hrow hY hend hlast
    go_wp2_with fail
    try go_ret
    rw[hPOST.out,hr.out]
    refine yok ?_ hQ.out.fr hQ.out.M.R hQ.out.M.il
    exact hYr.out.dat hrw.out (fun g _ hg=>by omega) (fun g e=>by have:=(hrw.out.lt g e).1;show w.heap.size≤g;omega)
   ·have hlt:(acc.length:Int)<(cnt:Int):=by omega
    obtain⟨cn,hcn⟩:∃ cn,cnt-acc.length=cn+1:=⟨cnt-acc.length-1,by omega⟩
    rw[hcn,aheadI_step] at hres
    have hK:=wsized_any hQ.out.M.R hQ.out.M.hs hQ.out.M.il hQ.out.M.err
    have hbB:=hQ.out.bB
    have hL3:acc.length≤300:=by omega
    cases hsz:bSized s j with
    | none=>
     have hr:=hide (show RES=.error 6 by rw[hres];simp[bKey,hsz])
     rw[hsz] at hK
     replace hK:=hide hK
     clear hres hrow hY hend hlast
     go_wp2_with (go_at_call 155;refine hK.out.mono ?_;rintro e w1 ⟨hf1,rfl,j1,hj1,h1⟩;replace hf1:=hide hf1;replace h1:=hide h1)
     try go_ret
     rw[hPOST.out,hr.out]
     exact ybad (hQ.out.fr.trans hf1.out (fun _ _ e=>e)) ⟨j1,nn,h1.out,hj1⟩
    | some q=>
     obtain⟨key,j1⟩:=q
     have hgk:=bSized_goes hsz
     have hks:key.size≤4000:=by omega
     rw[hsz] at hK
     replace hK:=hide hK
     have hYh:=hide hY
     have hrw:=hide hrow
     cases hle:lastE acc with
     | none=>
      have hl0:acc.length=0:=by rw[hle] at hlast;exact hlast
      have hmp:¬ (0:Int)<(acc.length:Int):=by omega
      replace hl0:=hide hl0
      rw[hle,show bKey s true none j=some (key,j1) by simp[bKey,hsz,rises]] at hres
      clear hrow hY hlast
      simp only[itemI] at hres
      have hRd:=hide (fun w1 (h1:RwAt w1 br sv rv s j1 nn) (hf:Fr wr w1 (· = br))=>hR.out j1 nn (by omega) hnn3 (by omega) w1 _ (hQ.out.M.call h1 hf (by omega)) hnn3 ((hT.out.fr hQ.out.fr (fun g hg e=>hnb (e▸hg))).fr hf (fun g hg e=>hnb (e▸hg))))
      clear hend
      cases hrd:rdB s (envOf ds) f u j1 nn with
      | error e0=>
       rw[hrd] at hres hRd
       have hr:=hide hres
       clear hres
       go_wp2_with (first
        |(go_at_call 155;refine hK.out.mono ?_;rintro e w1 ⟨hf1,rfl,hj1,h1⟩;have hC:=hide (hRd.out w1 h1 hf1);have Q1:=hQ.out.call h1 hf1 hj1;have c1:=Q1.bx.cell 1;simp only[List.getElem?_cons_zero,List.getElem?_cons_succ] at c1;replace Q1:=hide Q1;clear h1 hf1)
        |(go_at_call 66;refine hC.out.mono ?_;rintro e w2 ⟨v2,ev2,rfl,hf2,hv2,hE2,hR2⟩;subst hv2;obtain⟨eT,ex,rfl⟩:=hE2.iface;have hG2:=(Q1.out.M.call hR2.choose_spec.choose_spec.1 hf2 hR2.choose_spec.choose_spec.2).G;have hz:=hide hf2.size;replace hE2:=hide hE2;replace hf2:=hide hf2;replace hR2:=hide hR2)
        |(go_at_call 149;refine(inKey_any hI hG2 hks).mono ?_;rintro e w3 hW3;have hE3:=hide (fun v (he:e=.returned v)=>hE2.out.wrap hW3 (by have:=hz.out;omega) he);obtain⟨g3,tx3,rfl,hg3,hb3,hf3⟩:=hW3;replace hf3:=hide hf3;replace hb3:=hide hb3))
       try go_ret
       rw[hPOST.out,hr.out]
       refine⟨_,_,rfl,(Q1.out.fr.trans hf2.out (fun _ _ e=>e)).trans (hf3.out.mono (fun _ _ f=>f.elim)) (fun _ _ e=>e),rfl,(hE3.out _ rfl).less (by have:=Q1.out.fr.size;omega),?_⟩
       obtain⟨j2,m2,h1,h2⟩:=hR2.out
       exact⟨j2,m2,hf3.out.blk h1 id,h2⟩
      | ok q=>
       obtain⟨d,j2,m1⟩:=q
       rw[hrd] at hres hRd
       have hgo:=rdB_goes s (envOf ds) f u j1 nn d j2 m1 (by omega) hnn3 hrd
       have hres':=hide hres
       obtain⟨ti,hi1,hi2,hi3,hi4⟩:=info_parts i_Entry
       clear hres
       go_wp2_with (first
        |(go_at_call 155;refine hK.out.mono ?_;rintro e w1 ⟨hf1,rfl,hj1,h1⟩;have hC:=hide (hRd.out w1 h1 hf1);have Q1:=hQ.out.call h1 hf1 hj1;have c1:=Q1.bx.cell 1;have hb1:=Q1.bB;have hrow1:=hide (ownsRow_fr hrw.out hf1 (fun g hg e=>by have:=hrw.out.lt g hg;omega));have hY1:=hide (hYh.out.fr hf1 (fun g hg e=>by have:=hg.1;omega));simp only[List.getElem?_cons_zero,List.getElem?_cons_succ] at c1;replace Q1:=hide Q1;clear h1 hf1)
        |(go_at_call 66;refine hC.out.mono ?_;rintro e w2 ⟨v2,ev2,rfl,hf2,hv2,hD2,hR2,hj2⟩;subst hv2;obtain⟨dT,dx,rfl⟩:=hD2.iface;have Q2:=Q1.out.call hR2 hf2 hj2;have hb2:=Q2.bB;have hrow2:=hide (ownsRow_fr hrow1.out hf2 (fun g hg e=>by have:=hrow1.out.lt g hg;omega));have hD2':=hide (hD2.mono (Q:=fun g=>w.heap.size+1≤g∧(Value.slice la acc.length lc).ownBlock≠some g) (fun g _ hg=>⟨by omega,fun e=>by have:=hrow1.out.lt g e;omega⟩));have hY2:=hide (hY1.out.fr hf2 (fun g hg e=>by have:=hg.1;omega));replace Q2:=hide Q2;clear hD2 hR2 hf2)
        |(at_builtin;go_must (refine wpList_append_own_at _ rfl _ _ 158 rfl (w.heap.size+1) 160 ti _ 2 32 u_DMap hi1 hi2 hi3 hi4 rfl (by decide) (Value.slice la acc.length lc) acc.length ys rfl ?hown _ 1 1 [.string key,.iface dT dx] rfl rfl (news_new _ #[.string key,.iface dT dx] _ _ ?nn) ?one ?b1 ?b2 ?b3 ?_)
          case hown=>exact World.ownsRow.alloc hrow2.out _
          case nn=>simp
          case one=>simp[Value.oneCell']
          case b1=>unfold maxLen;omega
          case b2=>omega
          case b3=>simp;omega
          intro v5 w5 ho5 hg5 hn5 hl5
          have Q5:=Q2.out.item (d:=d) hrow2.out hY2.out hks hD2'.out hg5 ho5 hl5
          obtain⟨g5,cap5,rfl⟩:=own_form ho5 (by omega)
          clear hg5 hl5 hn5 ho5
          replace Q5:=hide Q5))
       go_roundg (302-m1)
       case measure=>omega
       case rel=>
        refine⟨acc++[(key,d)],j2,m1,by simp,by simp;omega,by simp;omega,hgo.2.2.2,by omega,hide Q5.out,?_⟩
        rw[hres'.out,List.length_append,List.length_singleton,show cnt-(acc.length+1)=cn by omega,lastE_snoc]
     | some key0=>
      have hm:=hlast
      rw[hle] at hm
      obtain⟨m,hm1,hym⟩:=hm
      obtain⟨gz,cap,hgc⟩:=own_form hrow (by omega)
      cases hgc
      have hwp:IntKind.i64.wrap ((acc.length:Int)-1)=(m:Int):=by rw[IntKind.wrap_i64];omega
      have hmp:(0:Int)<(acc.length:Int):=by omega
      have hmpn:0<acc.length:=by omega
      have hml:(m:Int)<(acc.length:Int):=by omega
      have hfac:Hid (∀ w1,Fr wr w1 (· = br)→w1.cell? ⟨gz,m*2,none⟩=some (.string key0)):=hide (fun w1 hf=>own_cell (ownsRow_fr hrow hf (fun g' hg e=>by have:=hrow.lt g' hg;have:=hQ.out.lt;omega)) rfl hym)
      replace hm1:=hide hm1
      clear hym hrow hY hlast
      by_cases hri:Op.bytesLess key0.toList key.toList=true
      case neg=>
       have hless:(Op.bytesLess key.toList key0.toList||key.toList==key0.toList)=true:=by
        rw[less_total]
        rw[Bool.eq_false_iff.2 hri]
        rfl
       have hr:=hide (show RES=.error 6 by rw[hres,hle];simp[bKey,hsz,rises,hri])
       replace hri:=hide hri
       clear hres hend
       go_wp2_with (go_at_call 155;refine hK.out.mono ?_;rintro e w1 ⟨hf1,rfl,hj1,h1⟩;have hk1:=hfac.out w1 hf1;have he1:=hQ.out.M.err w1 hf1;unfold ErrDt at he1;replace hf1:=hide hf1;replace h1:=hide h1)
       go_quiet (fail)
       go_wp2_with fail
       try go_ret
       rw[hPOST.out,hr.out]
       exact ybad ((hQ.out.fr.trans hf1.out (fun _ _ e=>e)).still (Still.drewN _ _)) ⟨_,nn,h1.out.still (Still.drewN _ _),hj1⟩
      have hless:(Op.bytesLess key.toList key0.toList||key.toList==key0.toList)=false:=by
       rw[less_total]
       rw[show Op.bytesLess key0.toList key.toList=true from hri]
       rfl
      rw[hle,show bKey s true (some key0) j=some (key,j1) by simp[bKey,hsz,rises,hri]] at hres
      replace hri:=hide hri
      simp only[itemI] at hres
      have hRd:=hide (fun w1 (h1:RwAt w1 br sv rv s j1 nn) (hf:Fr wr w1 (· = br))=>hR.out j1 nn (by omega) hnn3 (by omega) w1 _ (hQ.out.M.call h1 hf (by omega)) hnn3 ((hT.out.fr hQ.out.fr (fun g hg e=>hnb (e▸hg))).fr hf (fun g hg e=>hnb (e▸hg))))
      clear hend
      cases hrd:rdB s (envOf ds) f u j1 nn with
      | error e0=>
       rw[hrd] at hres hRd
       have hr:=hide hres
       clear hres
       go_wp2_with (first
        |(go_at_call 155;refine hK.out.mono ?_;rintro e w1 ⟨hf1,rfl,hj1,h1⟩;have hk1:=hfac.out w1 hf1;have hC:=hide (hRd.out w1 h1 hf1);have Q1:=hQ.out.call h1 hf1 hj1;have c1:=Q1.bx.cell 1;simp only[List.getElem?_cons_zero,List.getElem?_cons_succ] at c1;replace Q1:=hide Q1;clear h1 hf1)
        |(go_at_call 66;refine hC.out.mono ?_;rintro e w2 ⟨v2,ev2,rfl,hf2,hv2,hE2,hR2⟩;subst hv2;obtain⟨eT,ex,rfl⟩:=hE2.iface;have hG2:=(Q1.out.M.call hR2.choose_spec.choose_spec.1 hf2 hR2.choose_spec.choose_spec.2).G;have hz:=hide hf2.size;replace hE2:=hide hE2;replace hf2:=hide hf2;replace hR2:=hide hR2)
        |(go_at_call 149;refine(inKey_any hI hG2 hks).mono ?_;rintro e w3 hW3;have hE3:=hide (fun v (he:e=.returned v)=>hE2.out.wrap hW3 (by have:=hz.out;omega) he);obtain⟨g3,tx3,rfl,hg3,hb3,hf3⟩:=hW3;replace hf3:=hide hf3;replace hb3:=hide hb3))
       try go_ret
       rw[hPOST.out,hr.out]
       refine⟨_,_,rfl,(Q1.out.fr.trans hf2.out (fun _ _ e=>e)).trans (hf3.out.mono (fun _ _ f=>f.elim)) (fun _ _ e=>e),rfl,(hE3.out _ rfl).less (by have:=Q1.out.fr.size;omega),?_⟩
       obtain⟨j2,m2,h1,h2⟩:=hR2.out
       exact⟨j2,m2,hf3.out.blk h1 id,h2⟩
      | ok q=>
       obtain⟨d,j2,m1⟩:=q
       rw[hrd] at hres hRd
       have hgo:=rdB_goes s (envOf ds) f u j1 nn d j2 m1 (by omega) hnn3 hrd
       have hres':=hide hres
       obtain⟨ti,hi1,hi2,hi3,hi4⟩:=info_parts i_Entry
       clear hres
       go_wp2_with (first
        |(go_at_call 155;refine hK.out.mono ?_;rintro e w1 ⟨hf1,rfl,hj1,h1⟩;have hk1:=hfac.out w1 hf1;have hC:=hide (hRd.out w1 h1 hf1);have Q1:=hQ.out.call h1 hf1 hj1;have c1:=Q1.bx.cell 1;have hb1:=Q1.bB;have hrow1:=hide (ownsRow_fr hrw.out hf1 (fun g hg e=>by have:=hrw.out.lt g hg;omega));have hY1:=hide (hYh.out.fr hf1 (fun g hg e=>by have:=hg.1;omega));simp only[List.getElem?_cons_zero,List.getElem?_cons_succ] at c1;replace Q1:=hide Q1;clear h1 hf1)
        |(go_at_call 66;refine hC.out.mono ?_;rintro e w2 ⟨v2,ev2,rfl,hf2,hv2,hD2,hR2,hj2⟩;subst hv2;obtain⟨dT,dx,rfl⟩:=hD2.iface;have Q2:=Q1.out.call hR2 hf2 hj2;have hb2:=Q2.bB;have hrow2:=hide (ownsRow_fr hrow1.out hf2 (fun g hg e=>by have:=hrow1.out.lt g hg;omega));have hD2':=hide (hD2.mono (Q:=fun g=>w.heap.size+1≤g∧(Value.slice (some ⟨gz,0,none⟩) acc.length lc).ownBlock≠some g) (fun g _ hg=>⟨by omega,fun e=>by have:=hrow1.out.lt g e;omega⟩));have hY2:=hide (hY1.out.fr hf2 (fun g hg e=>by have:=hg.1;omega));replace Q2:=hide Q2;clear hD2 hR2 hf2)
        |(at_builtin;go_must (refine wpList_append_own_at _ rfl _ _ 158 rfl (w.heap.size+1) 160 ti _ 2 32 u_DMap hi1 hi2 hi3 hi4 rfl (by decide) (Value.slice (some ⟨gz,0,none⟩) acc.length lc) acc.length ys rfl ?hown _ 1 1 [.string key,.iface dT dx] rfl rfl (news_new _ #[.string key,.iface dT dx] _ _ ?nn) ?one ?b1 ?b2 ?b3 ?_)
          case hown=>exact World.ownsRow.alloc hrow2.out _
          case nn=>simp
          case one=>simp[Value.oneCell']
          case b1=>unfold maxLen;omega
          case b2=>omega
          case b3=>simp;omega
          intro v5 w5 ho5 hg5 hn5 hl5
          have Q5:=Q2.out.item (d:=d) hrow2.out hY2.out hks hD2'.out hg5 ho5 hl5
          obtain⟨g5,cap5,rfl⟩:=own_form ho5 (by omega)
          clear hg5 hl5 hn5 ho5
          replace Q5:=hide Q5))
       go_roundg (302-m1)
       case measure=>omega
       case rel=>
        refine⟨acc++[(key,d)],j2,m1,by simp,by simp;omega,by simp;omega,hgo.2.2.2,by omega,hide Q5.out,?_⟩
        rw[hres'.out,List.length_append,List.length_singleton,show cnt-(acc.length+1)=cn by omega,lastE_snoc]
end
open Go.RowKit
section
variable {w0 w:World} {P:Nat→Prop} {ss:ByteArray} {ds:List PD} {sv rv:Value} {xs:List Value} {s:ByteArray} {E:WErr} {br i n:Nat}
set_option maxHeartbeats 8000000 in
set_option maxRecDepth 100000 in
theorem yunion_any {l:List PT}{p f:Nat}{pt:Int}{bv:Value}{X:Nat→Value}(hI:ItoaOK w0) (M:YC w0 P ss ds sv rv xs s E br i n w) (hn:n≤300) (hl:l.length≤4000) (ho:w.ownsRow 0 83 1 bv l.length ((List.range l.length).map X)) (hP:∀ g,bv.ownBlock=some g→P g) (hX:∀ i t,l[i]?=some t→TyV w P t (X i)) (hR:∀ t∈l,∀ j,j≤s.size→DatY w0 P ss ds sv rv xs s E br f t j n) :
 Calls Tryz.prog 130 #[.pointer (some ⟨br,0,none⟩),.agg #[.int .i64 pt,bv]] w (YPost (envOf ds) (.alts p l) w sv rv s E br (bBranch (rdB s (envOf ds) f) s l i n)):=by
 obtain⟨POST,hPOST⟩:∃ Q,Hid (Q=YPost (envOf ds) (.alts p l) w sv rv s E br (bBranch (rdB s (envOf ds) f) s l i n)):=⟨_,rfl⟩
 rw[← hPOST.out]
 have hbl:=M.lt
 have hnb:=M.brP
 obtain⟨fa,fc,rfl⟩:=own_sl ho
 have A:Fr w (w.alloc (.cells #[.int .i64 pt,.slice fa l.length fc] 220)) (fun _=>False):=(Fr.refl w _).alloc _
 have M0:=M.new A
 have B0:=Blk.new w #[.int .i64 pt,.slice fa l.length fc] 220
 have hC:=wchoice_any hl M0.R M0.hs M0.il M0.err
 have hsl:=M.hs
 unfold bBranch at hPOST
 cases hb:bNum s 0 ((l.length:Int)-1) i with
 | none=>
  rw[hb] at hC hPOST
  replace hC:=hide hC
  replace A:=hide A
  clear M M0 B0 hb ho hX hR hP
  go_enter Tryz.func130,Tryz.ntmps130
  go_wp2_with (go_at_call 157;refine hC.out.mono ?_;rintro e w1 ⟨hf1,rfl,j,hj,h1⟩;replace hf1:=hide hf1;replace h1:=hide h1)
  try go_ret
  rw[hPOST.out]
  exact ybad ((A.out.mono (fun _ _ f=>f.elim)).trans hf1.out (fun _ _ e=>e)) ⟨j,n,h1.out,hj⟩
 | some q=>
  obtain⟨v,j⟩:=q
  have hg:=bNum_goes hb
  obtain⟨k,rfl⟩:∃ m:Nat,v=(m:Int):=⟨v.toNat,by omega⟩
  rw[hb] at hC hPOST
  simp only[Int.toNat_natCast] at hPOST
  have hkl:k<l.length:=by omega
  have hk4:k≤4000:=by omega
  have hki:(k:Int)<(l.length:Int):=by omega
  have hd:l[k]?=some l[k]:=List.getElem?_eq_getElem hkl
  have hmem:l[k]∈l:=List.getElem_mem hkl
  rw[hd] at hPOST
  have hsub:Hid (subTy (envOf ds) (.alts p l) k 0=l[k]):=hide (by simp[subTy,List.getD_eq_getElem?_getD,hd])
  generalize l[k]=t at hd hmem hPOST hsub
  simp only at hPOST
  have hT:=hX k t hd
  obtain⟨T,x,hx⟩:=hT.iface
  obtain⟨g,cap,hgc⟩:=own_form ho (by omega)
  cases hgc
  have hfac:Hid (∀ w1,Fr w w1 (· = br)→w1.cell? ⟨g,k,none⟩=some (.iface T x)∧TyV w1 P t (.iface T x)):=hide (fun w1 hf=>⟨by rw[own_cell (ownsRow_fr ho hf (fun g' hg e=>hnb (e▸hP g' hg))) rfl (k:=k) (x:=X k) (by simp[hkl]),hx],hx▸hT.fr hf (fun g' hg e=>hnb (e▸hg))⟩)
  have hnx:=hide (fun w1 (h1:RwAt w1 br sv rv s j n) (hf:Fr w w1 (· = br))=>hR t hmem j (by omega) w1 _ (M.call h1 hf (by omega)) hn (hfac.out w1 hf).2)
  have hB:=hide (fun w1 (hf:Fr (w.alloc (.cells #[.int .i64 pt,.slice (some ⟨g,0,none⟩) l.length fc] 220)) w1 (· = br))=>hf.blk B0 (by omega))
  replace hC:=hide hC
  replace A:=hide A
  have hG:=hide (fun w1 (h1:RwAt w1 br sv rv s j n) (hf:Fr w w1 (· = br))=>M.call h1 hf (by omega))
  clear M M0 hb ho hX hR hP hT hx hmem hd B0
  cases hrd:rdB s (envOf ds) f t j n with
  | error e0=>
   rw[hrd] at hPOST hnx
   go_enter Tryz.func130,Tryz.ntmps130
   go_wp2_with (first
    |(go_at_call 157;refine hC.out.mono ?_;rintro e w1 ⟨hf1,rfl,hj,h1⟩;have F1:=(A.out.mono (T:=fun g=>g=br) (fun _ _ f=>f.elim)).trans hf1 (fun _ _ e=>e);have c1:=(hfac.out w1 F1).1;have b1:=(hB.out w1 hf1).cell 1;simp only[List.getElem?_cons_zero,List.getElem?_cons_succ] at b1;have hD:=hide (hnx.out w1 h1 F1);have hM:=hide (hG.out w1 h1 F1);replace F1:=hide F1;clear hf1 h1)
    |(go_at_call 66;refine hD.out.mono ?_;rintro e w2 ⟨v2,ev2,rfl,hf2,hv2,hE2,hR2⟩;subst hv2;obtain⟨eT,ex,rfl⟩:=hE2.iface;have hG2:=(hM.out.call hR2.choose_spec.choose_spec.1 hf2 hR2.choose_spec.choose_spec.2).G;have hz:=hide hf2.size;replace hE2:=hide hE2;replace hf2:=hide hf2;replace hR2:=hide hR2)
    |(go_at_call 158;refine(inBranch_any (n:=k) hI hG2 hk4).mono ?_;rintro e w3 hW3;have hE3:=hide (fun v (he:e=.returned v)=>hE2.out.wrap hW3 (by have:=hz.out;omega) he);obtain⟨g3,tx3,rfl,hg3,hb3,hf3⟩:=hW3;replace hf3:=hide hf3;replace hb3:=hide hb3))
   try go_ret
   rw[hPOST.out]
   refine⟨_,_,rfl,(F1.out.trans hf2.out (fun _ _ e=>e)).trans (hf3.out.mono (fun _ _ f=>f.elim)) (fun _ _ e=>e),rfl,(hE3.out _ rfl).less (by have:=F1.out.size;omega),?_⟩
   obtain⟨j2,m2,h1,h2⟩:=hR2.out
   exact⟨j2,m2,hf3.out.blk h1 id,h2⟩
  | ok q=>
   obtain⟨d,j2,m2⟩:=q
   rw[hrd] at hPOST hnx
   go_enter Tryz.func130,Tryz.ntmps130
   go_wp2_with (first
    |(go_at_call 157;refine hC.out.mono ?_;rintro e w1 ⟨hf1,rfl,hj,h1⟩;have F1:=(A.out.mono (T:=fun g=>g=br) (fun _ _ f=>f.elim)).trans hf1 (fun _ _ e=>e);have c1:=(hfac.out w1 F1).1;have b1:=(hB.out w1 hf1).cell 1;simp only[List.getElem?_cons_zero,List.getElem?_cons_succ] at b1;have hD:=hide (hnx.out w1 h1 F1);replace F1:=hide F1;clear hf1 h1)
    |(go_at_call 66;refine hD.out.mono ?_;rintro e w2 ⟨v2,ev2,rfl,hf2,hv2,hD2,hR2,hj2⟩;subst hv2;obtain⟨dT,dx,rfl⟩:=hD2.iface;replace hD2:=hide hD2;replace hf2:=hide hf2;replace hR2:=hide hR2))
   try go_ret
   rw[hPOST.out]
   have hz:=F1.out.size
   refine yok (.branch k hk4 ?_) (F1.out.trans hf2.out (fun _ _ e=>e)) hR2.out hj2
   rw[hsub.out]
   exact hD2.out.mono (fun g _ hg=>by omega)
set_option maxHeartbeats 4000000 in
set_option maxRecDepth 100000 in
theorem ysymbol_any {l:List (Nat×Nat)}{t:PT}{pt:Int}{bv:Value}{dd:Option Addr}(M:YC w0 P ss ds sv rv xs s E br i n w) (hl:l.length≤300) (hsm:∀ q∈l,isSmall q.1=true) (ho:w.ownsRow 0 146 2 bv l.length (symCells l)) (hP:∀ g,bv.ownBlock=some g→P g) (hsy:∀ k,symL (envOf ds) t k=(l.map Prod.fst).getD k 0) :
 Calls Tryz.prog 132 #[.pointer (some ⟨br,0,none⟩),.agg #[.int .i64 pt,bv,.pointer dd]] w (YPost (envOf ds) t w sv rv s E br (match bNum s 0 ((l.length:Int)-1) i with|none=>.error 6|some (q,j)=>.ok (.mk 101 q noB [] [],j,n))):=by
 obtain⟨POST,hPOST⟩:∃ Q,Hid (Q=YPost (envOf ds) t w sv rv s E br (match bNum s 0 ((l.length:Int)-1) i with|none=>.error 6|some (q,j)=>.ok (.mk 101 q noB [] [],j,n))):=⟨_,rfl⟩
 rw[← hPOST.out]
 have hbl:=M.lt
 have hnb:=M.brP
 obtain⟨fa,fc,rfl⟩:=own_sl ho
 have A:Fr w (w.alloc (.cells #[.int .i64 pt,.slice fa l.length fc,.pointer dd] 216)) (fun _=>False):=(Fr.refl w _).alloc _
 have M0:=M.new A
 have B0:=Blk.new w #[.int .i64 pt,.slice fa l.length fc,.pointer dd] 216
 have hC:=wchoice_any (m:=l.length) (by omega) M0.R M0.hs M0.il M0.err
 have hsl:=M.hs
 cases hb:bNum s 0 ((l.length:Int)-1) i with
 | none=>
  rw[hb] at hC hPOST
  replace hC:=hide hC
  replace A:=hide A
  clear M M0 B0 hb ho hP hsy
  go_enter Tryz.func132,Tryz.ntmps132
  go_wp2_with (go_at_call 157;refine hC.out.mono ?_;rintro e w1 ⟨hf1,rfl,j,hj,h1⟩;replace hf1:=hide hf1;replace h1:=hide h1)
  try go_ret
  rw[hPOST.out]
  exact ybad ((A.out.mono (fun _ _ f=>f.elim)).trans hf1.out (fun _ _ e=>e)) ⟨j,n,h1.out,hj⟩
 | some q=>
  obtain⟨v,j⟩:=q
  have hg:=bNum_goes hb
  obtain⟨k,rfl⟩:∃ m:Nat,v=(m:Int):=⟨v.toNat,by omega⟩
  rw[hb] at hC hPOST
  have hkl:k<l.length:=by omega
  have hk4:k≤4000:=by omega
  have hki:(k:Int)<(l.length:Int):=by omega
  have hd:l[k]?=some l[k]:=List.getElem?_eq_getElem hkl
  have hmem:l[k]∈l:=List.getElem_mem hkl
  have hsu:symL (envOf ds) t k=l[k].1:=by rw[hsy k];simp[List.getD_eq_getElem?_getD,hd]
  generalize l[k]=c at hd hmem hsu
  obtain⟨cl,cp⟩:=c
  have hcs:=hsm _ hmem
  obtain⟨kk,hkk,hk26⟩:=small_k hcs
  simp only at hsu hkk
  have hc2:cl<256:=by omega
  obtain⟨g,cap,hgc⟩:=own_form ho (by omega)
  cases hgc
  have hfac:Hid (∀ w1,Fr w w1 (· = br)→w1.cell? ⟨g,k*2+1,none⟩=some (.int .u8 (cl:Int))):=hide (fun w1 hf=>own_cell (ownsRow_fr ho hf (fun g' hg e=>hnb (e▸hP g' hg))) rfl (symCells_get hd).2)
  have hB:=hide (fun w1 (hf:Fr (w.alloc (.cells #[.int .i64 pt,.slice (some ⟨g,0,none⟩) l.length fc,.pointer dd] 216)) w1 (· = br))=>hf.blk B0 (by omega))
  replace hC:=hide hC
  replace A:=hide A
  replace hsu:=hide hsu
  replace hkk:=hide hkk
  clear M M0 hb ho hP hmem hd B0 hsy hsm hcs
  go_enter Tryz.func132,Tryz.ntmps132
  go_wp2_with (go_at_call 157;refine hC.out.mono ?_;rintro e w1 ⟨hf1,rfl,hj,h1⟩;have F1:=(A.out.mono (T:=fun g=>g=br) (fun _ _ f=>f.elim)).trans hf1 (fun _ _ e=>e);have c1:=(hfac.out w1 F1);have b1:=(hB.out w1 hf1).cell 1;simp only[List.getElem?_cons_zero,List.getElem?_cons_succ] at b1;replace F1:=hide F1;replace h1:=hide h1;clear hf1)
  try go_ret
  rw[hPOST.out]
  refine yok (.flat (.sym k cl hk4) (fun n' l' e=>?_)) F1.out h1.out hj
  injection e with _ e
  injection e with e
  have e2:=congrArg (fun a=>a.toList) e
  simp only[List.cons.injEq,Value.int.injEq,true_and,and_true] at e2
  obtain⟨e3,e4⟩:=e2
  have e5:cl=l':=by omega
  have e6:k=n':=by omega
  subst e5
  subst e6
  exact⟨hsu.out,hc2⟩
set_option maxHeartbeats 4000000 in
set_option maxRecDepth 100000 in
theorem yfixed_any {k:Nat}{t:PT}{pt:Int}(M:YC w0 P ss ds sv rv xs s E br i n w) (hk:k≤9) :
 Calls Tryz.prog 133 #[.pointer (some ⟨br,0,none⟩),.agg #[.int .i64 pt,.int .i64 (k:Int)]] w (YPost (envOf ds) t w sv rv s E br (match bText s i k with|none=>.error 6|some (tx,j)=>.ok (.mk 102 0 tx [] [],j,n))):=by
 obtain⟨POST,hPOST⟩:∃ Q,Hid (Q=YPost (envOf ds) t w sv rv s E br (match bText s i k with|none=>.error 6|some (tx,j)=>.ok (.mk 102 0 tx [] [],j,n))):=⟨_,rfl⟩
 rw[← hPOST.out]
 have A:Fr w (w.alloc (.cells #[.int .i64 pt,.int .i64 (k:Int)] 233)) (fun _=>False):=(Fr.refl w _).alloc _
 have M0:=M.new A
 have hC:=wletters_any (m:=k) M0.R M0.hs M0.il (by omega) M0.err
 have hsl:=M.hs
 have hil:=M.il
 clear M M0
 replace A:=hide A
 cases hb:bText s i k with
 | none=>
  rw[hb] at hC hPOST
  replace hC:=hide hC
  clear hb
  go_enter Tryz.func133,Tryz.ntmps133
  go_wp2_with (go_at_call 159;refine hC.out.mono ?_;rintro e w1 ⟨hf1,rfl,j,hj,h1⟩;replace hf1:=hide hf1;replace h1:=hide h1)
  try go_ret
  rw[hPOST.out]
  exact ybad ((A.out.mono (fun _ _ f=>f.elim)).trans hf1.out (fun _ _ e=>e)) ⟨j,n,h1.out,hj⟩
 | some q=>
  obtain⟨tx,j⟩:=q
  have hg:=bText_goes hil hb
  rw[hb] at hC hPOST
  replace hC:=hide hC
  clear hb
  go_enter Tryz.func133,Tryz.ntmps133
  go_wp2_with (go_at_call 159;refine hC.out.mono ?_;rintro e w1 ⟨hf1,rfl,hj,h1⟩;replace hf1:=hide hf1;replace h1:=hide h1)
  try go_ret
  rw[hPOST.out]
  exact yok (DaV.plain (.bytes tx (by omega)) (by decide)) ((A.out.mono (fun _ _ f=>f.elim)).trans hf1.out (fun _ _ e=>e)) h1.out hj
end
end Go.Proofs.YtiifagiebikmdaaGreatDoor
