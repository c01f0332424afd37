import Derived.Test.YtiifagiebikmdaaGreatDoorBK18
import Derived.Test.YtiifagiebikmdaaGreatDoorBK19
namespace Go.Proofs.YtiifagiebikmdaaGreatDoor
open Go.RowKit
theorem look_free (c:Nat) (ds:List PD):∀ b b',(look b c ds).map Prod.fst=(look b' c ds).map Prod.fst:=by
 induction ds with
 | nil=>intro b b';rfl
 | cons d r ih=>
  intro b b'
  simp only[look]
  split
  ·rfl
  ·exact ih _ _
theorem envOf_nil (c:Nat):envOf [] c=none:=rfl
theorem envOf_cons (d:PD) (r:List PD) (c:Nat):envOf (d::r) c=if d.letter=c then some d.body else envOf r c:=by
 unfold envOf
 simp only[look]
 split
 ·rfl
 ·exact look_free c r _ _
theorem envOf_drop {ds:List PD}{q:Nat}{d:PD}(h:ds[q]?=some d) (c:Nat):envOf (ds.drop q) c=if d.letter=c then some d.body else envOf (ds.drop (q+1)) c:=by
 have hl:=(List.getElem?_eq_some_iff.1 h).1
 rw[List.drop_eq_getElem_cons hl,envOf_cons,(List.getElem?_eq_some_iff.1 h).2]
structure DRow (w:World) (P:Nat→Prop) (s:ByteArray) (ds:List PD) (sv:Value) (xs:List Value):Prop where
 row:w.ownsRow 0 132 3 sv ds.length xs
 off:∀ g,sv.ownBlock=some g→P g
 V:DefsV w P s ds xs
 len:ds.length≤6
theorem DRow.fr {w w':World}{P S:Nat→Prop}{s:ByteArray}{ds:List PD}{sv:Value}{xs:List Value}(h:DRow w P s ds sv xs) (hf:Fr w w' S) (hS:∀ g,P g→¬ S g):DRow w' P s ds sv xs:=
 ⟨ownsRow_fr h.row hf (fun g hg=>hS g (h.off g hg)),h.off,h.V.fr hf hS,h.len⟩
theorem DRow.cells {w:World}{P:Nat→Prop}{s:ByteArray}{ds:List PD}{g m cap:Nat}{xs:List Value}(h:DRow w P s ds (.slice (some ⟨g,0,none⟩) m cap) xs){q:Nat}{d:PD}(hq:ds[q]?=some d) :
 ∃ T x,w.cell? ⟨g,q*3,none⟩=some (.int .i64 (d.place:Int))∧w.cell? ⟨g,q*3+1,none⟩=some (.int .u8 (d.letter:Int))∧w.cell? ⟨g,q*3+2,none⟩=some (.iface T x)∧BodyV w P s d.body (.iface T x):=by
 obtain⟨c,h1,h2,h3,h4⟩:=h.V q d hq
 obtain⟨T,x,rfl⟩:=h4.iface
 have hm:=own_n h.row
 subst hm
 rw[Nat.mul_comm] at h1 h2 h3
 exact⟨T,x,own_cell h.row rfl h1,own_cell h.row rfl h2,own_cell h.row rfl h3,h4⟩
def MeanPost (w:World) (P:Nat→Prop) (s:ByteArray) (ds:List PD) (c:Nat) (e:Ending) (w':World):Prop:=
 ∃ v,e=.returned v∧Fr w w' (fun _=>False)∧match envOf ds c with|none=>v=.nilIface|some b=>BodyV w' P s b v
set_option maxHeartbeats 4000000 in
set_option maxRecDepth 100000 in
theorem meaning_any {w:World}{P:Nat→Prop}{s:ByteArray}{ds:List PD}{sv rv:Value}{xs:List Value}(c:Nat) (D:DRow w P s ds sv xs) :
 Calls Tryz.prog 76 #[.agg #[sv,rv],.int .u8 (c:Int)] w (MeanPost w P s ds c):=by
 obtain⟨POST,hPOST⟩:∃ Q,Hid (Q=MeanPost w P s ds c):=⟨_,rfl⟩
 rw[← hPOST.out]
 obtain⟨sa,sc,rfl⟩:=own_sl D.row
 have hl6:=D.len
 have start:Hid (∃ q:Nat,Value.int .i64 0=.int .i64 (q:Int)∧q≤ds.length∧ds.length+1-q≤ds.length+1∧Fr w (w.alloc (.cells #[.slice sa ds.length sc,rv] 85)) (fun _=>False)∧envOf ds c=envOf (ds.drop q) c):=hide ⟨0,rfl,Nat.zero_le _,by omega,(Fr.refl w _).alloc _,rfl⟩
 replace D:=hide D
 go_enter Tryz.func76,Tryz.ntmps76
 go_wp2_with fail
 go_loopg [10] (ds.length+1) (fun m v W=>∃ q:Nat,v=.int .i64 (q:Int)∧q≤ds.length∧ds.length+1-q≤m∧Fr w W (fun _=>False)∧envOf ds c=envOf (ds.drop q) c)
 case atStart=>exact start.out
 case round=>
  clear start
  obtain⟨q,rfl,hq,hm,hf,he⟩:=hrel
  by_cases hlt:q<ds.length
  ·have hlt':(q:Int)<(ds.length:Int):=by omega
   have hd:ds[q]?=some ds[q]:=List.getElem?_eq_getElem hlt
   generalize ds[q]=d at hd
   obtain⟨g,cap,hgc⟩:=own_form D.out.row (by omega)
   cases hgc
   have D1:=D.out.fr hf (fun _ _ f=>f)
   obtain⟨T,x,c0,c1,c2,hb⟩:=D1.cells hd
   have hb':=hb.fr ((Fr.refl wr (fun _=>False)).alloc (.cells #[.int .i64 (d.place:Int),.int .u8 (d.letter:Int),.iface T x] 132)) (fun _ _ f=>f)
   rw[envOf_drop hd] at he
   replace D1:=hide D1
   replace hb:=hide hb
   replace hb':=hide hb'
   replace hf:=hide hf
   by_cases hc:d.letter=c
   ·rw[if_pos hc] at he
    replace he:=hide he
    subst hc
    go_wp2_with fail
    try go_ret
    rw[hPOST.out]
    refine⟨_,rfl,hf.out.alloc _,?_⟩
    rw[he.out]
    exact hb'.out
   ·rw[if_neg hc] at he
    replace he:=hide he
    have hc':((d.letter:Int)==(c:Int))=false:=by simp;omega
    go_wp2_with fail
    go_roundg (ds.length+1-(q+1))
    case measure=>omega
    case rel=>exact⟨q+1,rfl,hlt,Nat.le_refl _,hf.out.alloc _,he.out⟩
  ·have hlt':¬ ((q:Int)<(ds.length:Int)):=by omega
   rw[List.drop_eq_nil_of_le (by omega),envOf_nil] at he
   replace he:=hide he
   replace hf:=hide hf
   go_wp2_with fail
   try go_ret
   rw[hPOST.out]
   refine⟨.nilIface,rfl,hf.out,?_⟩
   rw[he.out]
open Go.RowKit
theorem asNothing_yes (v:Value) (w:World):(Instr.typeAssert (.iface 198 v) 83 198 true).run Tryz.prog w=.ok (.tuple #[v,.bool true]) w:=by kernel_rfl
theorem asNothing_zero (w:World):(do pure (Value.tuple #[← zeroValue 198,.bool false]):Sem Value).run Tryz.prog w=.ok (.tuple #[.agg #[.int .i64 0],.bool false]) w:=by kernel_rfl
theorem asNothing_no (u:TypeId) (h:u≠198) (v:Value) (w:World):(Instr.typeAssert (.iface u v) 83 198 true).run Tryz.prog w=.ok (.tuple #[.agg #[.int .i64 0],.bool false]) w:=by
 have e:(Instr.typeAssert (.iface u v) 83 198 true).run Tryz.prog w=(if u=198 then (pure (Value.tuple #[v,.bool true]):Sem Value) else (do pure (Value.tuple #[← zeroValue 198,.bool false]))).run Tryz.prog w:=by kernel_rfl
 rw[e,if_neg h]
 exact asNothing_zero w
theorem asTruth_yes (v:Value) (w:World):(Instr.typeAssert (.iface 199 v) 83 199 true).run Tryz.prog w=.ok (.tuple #[v,.bool true]) w:=by kernel_rfl
theorem asTruth_zero (w:World):(do pure (Value.tuple #[← zeroValue 199,.bool false]):Sem Value).run Tryz.prog w=.ok (.tuple #[.agg #[.int .i64 0],.bool false]) w:=by kernel_rfl
theorem asTruth_no (u:TypeId) (h:u≠199) (v:Value) (w:World):(Instr.typeAssert (.iface u v) 83 199 true).run Tryz.prog w=.ok (.tuple #[.agg #[.int .i64 0],.bool false]) w:=by
 have e:(Instr.typeAssert (.iface u v) 83 199 true).run Tryz.prog w=(if u=199 then (pure (Value.tuple #[v,.bool true]):Sem Value) else (do pure (Value.tuple #[← zeroValue 199,.bool false]))).run Tryz.prog w:=by kernel_rfl
 rw[e,if_neg h]
 exact asTruth_zero w
theorem asInt_yes (v:Value) (w:World):(Instr.typeAssert (.iface 200 v) 83 200 true).run Tryz.prog w=.ok (.tuple #[v,.bool true]) w:=by kernel_rfl
theorem asInt_zero (w:World):(do pure (Value.tuple #[← zeroValue 200,.bool false]):Sem Value).run Tryz.prog w=.ok (.tuple #[.agg #[.int .i64 0],.bool false]) w:=by kernel_rfl
theorem asInt_no (u:TypeId) (h:u≠200) (v:Value) (w:World):(Instr.typeAssert (.iface u v) 83 200 true).run Tryz.prog w=.ok (.tuple #[.agg #[.int .i64 0],.bool false]) w:=by
 have e:(Instr.typeAssert (.iface u v) 83 200 true).run Tryz.prog w=(if u=200 then (pure (Value.tuple #[v,.bool true]):Sem Value) else (do pure (Value.tuple #[← zeroValue 200,.bool false]))).run Tryz.prog w:=by kernel_rfl
 rw[e,if_neg h]
 exact asInt_zero w
theorem asLong_yes (v:Value) (w:World):(Instr.typeAssert (.iface 201 v) 83 201 true).run Tryz.prog w=.ok (.tuple #[v,.bool true]) w:=by kernel_rfl
theorem asLong_zero (w:World):(do pure (Value.tuple #[← zeroValue 201,.bool false]):Sem Value).run Tryz.prog w=.ok (.tuple #[.agg #[.int .i64 0],.bool false]) w:=by kernel_rfl
theorem asLong_no (u:TypeId) (h:u≠201) (v:Value) (w:World):(Instr.typeAssert (.iface u v) 83 201 true).run Tryz.prog w=.ok (.tuple #[.agg #[.int .i64 0],.bool false]) w:=by
 have e:(Instr.typeAssert (.iface u v) 83 201 true).run Tryz.prog w=(if u=201 then (pure (Value.tuple #[v,.bool true]):Sem Value) else (do pure (Value.tuple #[← zeroValue 201,.bool false]))).run Tryz.prog w:=by kernel_rfl
 rw[e,if_neg h]
 exact asLong_zero w
theorem asText_yes (v:Value) (w:World):(Instr.typeAssert (.iface 202 v) 83 202 true).run Tryz.prog w=.ok (.tuple #[v,.bool true]) w:=by kernel_rfl
theorem asText_zero (w:World):(do pure (Value.tuple #[← zeroValue 202,.bool false]):Sem Value).run Tryz.prog w=.ok (.tuple #[.agg #[.int .i64 0],.bool false]) w:=by kernel_rfl
theorem asText_no (u:TypeId) (h:u≠202) (v:Value) (w:World):(Instr.typeAssert (.iface u v) 83 202 true).run Tryz.prog w=.ok (.tuple #[.agg #[.int .i64 0],.bool false]) w:=by
 have e:(Instr.typeAssert (.iface u v) 83 202 true).run Tryz.prog w=(if u=202 then (pure (Value.tuple #[v,.bool true]):Sem Value) else (do pure (Value.tuple #[← zeroValue 202,.bool false]))).run Tryz.prog w:=by kernel_rfl
 rw[e,if_neg h]
 exact asText_zero w
theorem asList_yes (v:Value) (w:World):(Instr.typeAssert (.iface 205 v) 83 205 true).run Tryz.prog w=.ok (.tuple #[v,.bool true]) w:=by kernel_rfl
theorem asList_zero (w:World):(do pure (Value.tuple #[← zeroValue 205,.bool false]):Sem Value).run Tryz.prog w=.ok (.tuple #[.agg #[.int .i64 0,.nilIface],.bool false]) w:=by kernel_rfl
theorem asList_no (u:TypeId) (h:u≠205) (v:Value) (w:World):(Instr.typeAssert (.iface u v) 83 205 true).run Tryz.prog w=.ok (.tuple #[.agg #[.int .i64 0,.nilIface],.bool false]) w:=by
 have e:(Instr.typeAssert (.iface u v) 83 205 true).run Tryz.prog w=(if u=205 then (pure (Value.tuple #[v,.bool true]):Sem Value) else (do pure (Value.tuple #[← zeroValue 205,.bool false]))).run Tryz.prog w:=by kernel_rfl
 rw[e,if_neg h]
 exact asList_zero w
theorem asMap_yes (v:Value) (w:World):(Instr.typeAssert (.iface 206 v) 83 206 true).run Tryz.prog w=.ok (.tuple #[v,.bool true]) w:=by kernel_rfl
theorem asMap_zero (w:World):(do pure (Value.tuple #[← zeroValue 206,.bool false]):Sem Value).run Tryz.prog w=.ok (.tuple #[.agg #[.int .i64 0,.nilIface],.bool false]) w:=by kernel_rfl
theorem asMap_no (u:TypeId) (h:u≠206) (v:Value) (w:World):(Instr.typeAssert (.iface u v) 83 206 true).run Tryz.prog w=.ok (.tuple #[.agg #[.int .i64 0,.nilIface],.bool false]) w:=by
 have e:(Instr.typeAssert (.iface u v) 83 206 true).run Tryz.prog w=(if u=206 then (pure (Value.tuple #[v,.bool true]):Sem Value) else (do pure (Value.tuple #[← zeroValue 206,.bool false]))).run Tryz.prog w:=by kernel_rfl
 rw[e,if_neg h]
 exact asMap_zero w
theorem asUnion_yes (v:Value) (w:World):(Instr.typeAssert (.iface 220 v) 83 220 true).run Tryz.prog w=.ok (.tuple #[v,.bool true]) w:=by kernel_rfl
theorem asUnion_zero (w:World):(do pure (Value.tuple #[← zeroValue 220,.bool false]):Sem Value).run Tryz.prog w=.ok (.tuple #[.agg #[.int .i64 0,.slice none 0 0],.bool false]) w:=by kernel_rfl
theorem asUnion_no (u:TypeId) (h:u≠220) (v:Value) (w:World):(Instr.typeAssert (.iface u v) 83 220 true).run Tryz.prog w=.ok (.tuple #[.agg #[.int .i64 0,.slice none 0 0],.bool false]) w:=by
 have e:(Instr.typeAssert (.iface u v) 83 220 true).run Tryz.prog w=(if u=220 then (pure (Value.tuple #[v,.bool true]):Sem Value) else (do pure (Value.tuple #[← zeroValue 220,.bool false]))).run Tryz.prog w:=by kernel_rfl
 rw[e,if_neg h]
 exact asUnion_zero w
theorem asName_yes (v:Value) (w:World):(Instr.typeAssert (.iface 209 v) 83 209 true).run Tryz.prog w=.ok (.tuple #[v,.bool true]) w:=by kernel_rfl
theorem asName_zero (w:World):(do pure (Value.tuple #[← zeroValue 209,.bool false]):Sem Value).run Tryz.prog w=.ok (.tuple #[.agg #[.int .i64 0,.int .u8 0],.bool false]) w:=by kernel_rfl
theorem asName_no (u:TypeId) (h:u≠209) (v:Value) (w:World):(Instr.typeAssert (.iface u v) 83 209 true).run Tryz.prog w=.ok (.tuple #[.agg #[.int .i64 0,.int .u8 0],.bool false]) w:=by
 have e:(Instr.typeAssert (.iface u v) 83 209 true).run Tryz.prog w=(if u=209 then (pure (Value.tuple #[v,.bool true]):Sem Value) else (do pure (Value.tuple #[← zeroValue 209,.bool false]))).run Tryz.prog w:=by kernel_rfl
 rw[e,if_neg h]
 exact asName_zero w
theorem asRecord_yes (v:Value) (w:World):(Instr.typeAssert (.iface 211 v) 83 211 true).run Tryz.prog w=.ok (.tuple #[v,.bool true]) w:=by kernel_rfl
theorem asRecord_zero (w:World):(do pure (Value.tuple #[← zeroValue 211,.bool false]):Sem Value).run Tryz.prog w=.ok (.tuple #[.agg #[.int .i64 0,.slice none 0 0],.bool false]) w:=by kernel_rfl
theorem asRecord_no (u:TypeId) (h:u≠211) (v:Value) (w:World):(Instr.typeAssert (.iface u v) 83 211 true).run Tryz.prog w=.ok (.tuple #[.agg #[.int .i64 0,.slice none 0 0],.bool false]) w:=by
 have e:(Instr.typeAssert (.iface u v) 83 211 true).run Tryz.prog w=(if u=211 then (pure (Value.tuple #[v,.bool true]):Sem Value) else (do pure (Value.tuple #[← zeroValue 211,.bool false]))).run Tryz.prog w:=by kernel_rfl
 rw[e,if_neg h]
 exact asRecord_zero w
theorem asEnum_yes (v:Value) (w:World):(Instr.typeAssert (.iface 216 v) 83 216 true).run Tryz.prog w=.ok (.tuple #[v,.bool true]) w:=by kernel_rfl
theorem asEnum_zero (w:World):(do pure (Value.tuple #[← zeroValue 216,.bool false]):Sem Value).run Tryz.prog w=.ok (.tuple #[.agg #[.int .i64 0,.slice none 0 0,.pointer none],.bool false]) w:=by kernel_rfl
theorem asEnum_no (u:TypeId) (h:u≠216) (v:Value) (w:World):(Instr.typeAssert (.iface u v) 83 216 true).run Tryz.prog w=.ok (.tuple #[.agg #[.int .i64 0,.slice none 0 0,.pointer none],.bool false]) w:=by
 have e:(Instr.typeAssert (.iface u v) 83 216 true).run Tryz.prog w=(if u=216 then (pure (Value.tuple #[v,.bool true]):Sem Value) else (do pure (Value.tuple #[← zeroValue 216,.bool false]))).run Tryz.prog w:=by kernel_rfl
 rw[e,if_neg h]
 exact asEnum_zero w
theorem asBytes_yes (v:Value) (w:World):(Instr.typeAssert (.iface 233 v) 83 233 true).run Tryz.prog w=.ok (.tuple #[v,.bool true]) w:=by kernel_rfl
open Go.RowKit
def ChkPost (w:World) (cause:Value) (L:List Nat) (e:Ending) (w':World):Prop:=
 ∃ v,e=.returned v∧Fr w w' (fun _=>False)∧match L with | []=>v=.nilIface|x::_=>FaultAt w' w.heap.size v (x:Int) cause
def ErrV (g:Nat) (w:World) (et:TypeId) (ex:Value):Prop:=w.cell? ⟨g,0,none⟩=some (.iface et ex)
theorem ErrV.fr {g:Nat}{w w':World}{et:TypeId}{ex:Value}{S:Nat→Prop}(h:ErrV g w et ex) (hf:Fr w w' S) (hS:¬ S g):ErrV g w' et ex:=
 (World.cell?_of_block (a:=⟨g,0,none⟩) (hf.block _ (World.block_lt_of_cell? w ⟨g,0,none⟩ h) hS)).trans h
set_option maxHeartbeats 400000 in
theorem pplace_any (p:Int) (w:World) :
 Calls Tryz.prog 77 #[.int .i64 p] w fun e w'=>e=.returned (.int .i64 p)∧w'=w:=by
 go_enter Tryz.func77,Tryz.ntmps77
 go_wp2
 go_ret
 exact⟨rfl,rfl⟩
theorem baseT_ne (c:Nat):baseT c≠205∧baseT c≠206∧baseT c≠220∧baseT c≠209∧baseT c≠211∧baseT c≠216∧baseT c≠233:=by
 unfold baseT
 repeat' split
 all_goals decide
def UsesOK (t:PT):Prop:=∀ (w:World) (P:Nat→Prop) (s:ByteArray) (ds:List PD) (sv rv v:Value) (xs:List Value) (et:TypeId) (ex:Value),DRow w P s ds sv xs→TyV w P t v→ErrV 1 w et ex→
 Calls Tryz.prog 79 #[.agg #[sv,rv],v] w (ChkPost w (.iface et ex) (useF (envOf ds) (usesOf t)))
set_option maxHeartbeats 4000000 in
set_option maxRecDepth 100000 in
theorem uses_base (c p:Nat) (hc:isBase c=true):UsesOK (.leaf c p):=by
 intro w P s ds sv rv v xs et ex D hv hE
 obtain⟨POST,hPOST⟩:∃ Q,Hid (Q=ChkPost w (.iface et ex) (useF (envOf ds) (usesOf (.leaf c p)))):=⟨_,rfl⟩
 rw[← hPOST.out]
 have hL:=hide (show useF (envOf ds) (usesOf (.leaf c p))=[] by rw[usesOf,if_pos hc];rfl)
 have hv':v=.iface (baseT c) (.agg #[.int .i64 (p:Int)]):=by
  cases hv with
  | base _ _ h=>rfl
  | name _ _ h=>
   simp only[isBase,Bool.or_eq_true,beq_iff_eq] at hc
   simp only[isName,Bool.and_eq_true,decide_eq_true_eq] at h
   omega
 subst hv'
 clear hv D hE
 obtain⟨u,hu⟩:∃ u,u=baseT c:=⟨_,rfl⟩
 rw[← hu]
 have hn:=baseT_ne c
 rw[← hu] at hn
 have a1:=asList_no u hn.1
 have a2:=asMap_no u hn.2.1
 have a3:=asUnion_no u hn.2.2.1
 have a4:=asName_no u hn.2.2.2.1
 clear hu hn
 go_enter Tryz.func79,Tryz.ntmps79
 go_wp2_with fail
 try go_ret
 rw[hPOST.out]
 refine⟨.nilIface,rfl,(Fr.refl w _).alloc _,?_⟩
 rw[hL.out]
set_option maxHeartbeats 4000000 in
set_option maxRecDepth 100000 in
theorem uses_wrap (c p:Nat) (t:PT) (ih:UsesOK t):UsesOK (.wrap c p t):=by
 intro w P s ds sv rv v xs et ex D hv hE
 obtain⟨POST,hPOST⟩:∃ Q,Hid (Q=ChkPost w (.iface et ex) (useF (envOf ds) (usesOf (.wrap c p t)))):=⟨_,rfl⟩
 rw[← hPOST.out]
 obtain⟨v2,hv2,rfl⟩:∃ v2,TyV w P t v2∧v=.iface (wrapT c) (.agg #[.int .i64 (p:Int),v2]):=by
  cases hv with
  | wrap _ _ h=>exact⟨_,h,rfl⟩
 obtain⟨vT,vx,rfl⟩:=hv2.iface
 obtain⟨sa,sc,rfl⟩:=own_sl D.row
 have hcall:Hid (∀ T,Calls Tryz.prog 79 #[.agg #[.slice sa ds.length sc,rv],.iface vT vx] ((w.alloc (.cells #[.slice sa ds.length sc,rv] 85)).alloc (.cells #[.int .i64 (p:Int),.iface vT vx] T)) (ChkPost ((w.alloc (.cells #[.slice sa ds.length sc,rv] 85)).alloc (.cells #[.int .i64 (p:Int),.iface vT vx] T)) (.iface et ex) (useF (envOf ds) (usesOf t)))):=hide (fun T=>by
  have hf:Fr w ((w.alloc (.cells #[.slice sa ds.length sc,rv] 85)).alloc (.cells #[.int .i64 (p:Int),.iface vT vx] T)) (fun _=>False):=((Fr.refl w _).alloc _).alloc _
  exact ih _ P s ds _ _ _ _ _ _ (D.fr hf (fun _ _ f=>f)) (hv2.fr hf (fun _ _ f=>f)) (hE.fr hf id))
 clear D hv hE hv2 ih
 by_cases hc:c=91
 ·subst hc
  simp only[wrapT,if_true]
  have a1:=asList_yes
  go_enter Tryz.func79,Tryz.ntmps79
  go_wp2_with (go_at_call 79;refine(hcall.out _).mono ?_;rintro e w2 ⟨v2,rfl,hf2,hm⟩;replace hf2:=hide hf2;replace hm:=hide hm)
  try go_ret
  rw[hPOST.out]
  have hsz:=hf2.out.size
  refine⟨v2,rfl,(((Fr.refl w (fun _=>False)).alloc _).alloc _).trans hf2.out (fun _ _ f=>f),?_⟩
  rw[usesOf]
  have hm':=hm.out
  cases hL:useF (envOf ds) (usesOf t) with
  | nil=>rw[hL] at hm';exact hm'
  | cons x r=>rw[hL] at hm';exact hm'.less (by simp;omega)
 ·simp only[wrapT,if_neg hc]
  have a1:=asList_no 206 (by decide)
  have a2:=asMap_yes
  go_enter Tryz.func79,Tryz.ntmps79
  go_wp2_with (go_at_call 79;refine(hcall.out _).mono ?_;rintro e w2 ⟨v2,rfl,hf2,hm⟩;replace hf2:=hide hf2;replace hm:=hide hm)
  try go_ret
  rw[hPOST.out]
  have hsz:=hf2.out.size
  refine⟨v2,rfl,(((Fr.refl w (fun _=>False)).alloc _).alloc _).trans hf2.out (fun _ _ f=>f),?_⟩
  rw[usesOf]
  have hm':=hm.out
  cases hL:useF (envOf ds) (usesOf t) with
  | nil=>rw[hL] at hm';exact hm'
  | cons x r=>rw[hL] at hm';exact hm'.less (by simp;omega)
set_option maxHeartbeats 4000000 in
set_option maxRecDepth 100000 in
theorem uses_named (c p:Nat) (hc:isName c=true):UsesOK (.leaf c p):=by
 intro w P s ds sv rv v xs et ex D hv hE
 obtain⟨POST,hPOST⟩:∃ Q,Hid (Q=ChkPost w (.iface et ex) (useF (envOf ds) (usesOf (.leaf c p)))):=⟨_,rfl⟩
 rw[← hPOST.out]
 have hnb:¬ isBase c=true:=fun h=>by
  simp only[isBase,Bool.or_eq_true,beq_iff_eq] at h
  simp only[isName,Bool.and_eq_true,decide_eq_true_eq] at hc
  omega
 have hv':v=.iface 209 (.agg #[.int .i64 (p:Int),.int .u8 (c:Int)]):=by
  cases hv with
  | base _ _ h=>exact absurd h hnb
  | name _ _ h=>rfl
 subst hv'
 obtain⟨sa,sc,rfl⟩:=own_sl D.row
 have hL:=hide (show useF (envOf ds) (usesOf (.leaf c p))=if (envOf ds c).isNone=true then [p] else [] by
  rw[usesOf,if_neg hnb];unfold useF;rw[List.filter_cons];split <;> rfl)
 have hf0:Fr w ((w.alloc (.cells #[.slice sa ds.length sc,rv] 85)).alloc (.cells #[.int .i64 (p:Int),.int .u8 (c:Int)] 209)) (fun _=>False):=((Fr.refl w _).alloc _).alloc _
 have hC:=hide (meaning_any (rv:=rv) c (D.fr hf0 (fun _ _ f=>f)))
 have hE0:=hE.fr hf0 id
 have hN0:=Blk.new (w.alloc (.cells #[.slice sa ds.length sc,rv] 85)) #[.int .i64 (p:Int),.int .u8 (c:Int)] 209
 have hz:(w.alloc (.cells #[.slice sa ds.length sc,rv] 85)).heap.size=w.heap.size+1:=by simp
 rw[hz] at hN0
 replace hf0:=hide hf0
 replace hE0:=hide hE0
 replace hN0:=hide hN0
 clear hv D hE hnb hz
 have a1:=asList_no 209 (by decide)
 have a2:=asMap_no 209 (by decide)
 have a3:=asUnion_no 209 (by decide)
 have a4:=asName_yes
 cases he:envOf ds c with
 | some b=>
  rw[he] at hL
  replace he:=hide he
  go_enter Tryz.func79,Tryz.ntmps79
  go_wp2_with (go_at_call 76;refine hC.out.mono ?_;rintro e w2 ⟨v2,rfl,hf2,hm⟩;rw[he.out] at hm;obtain⟨bT,bx,rfl⟩:=hm.iface;replace hf2:=hide hf2;clear hm)
  try go_ret
  rw[hPOST.out]
  refine⟨.nilIface,rfl,hf0.out.trans hf2.out (fun _ _ f=>f),?_⟩
  rw[hL.out]
  rfl
 | none=>
  rw[he] at hL
  replace he:=hide he
  go_enter Tryz.func79,Tryz.ntmps79
  go_wp2_with (go_at_call 76;refine hC.out.mono ?_;rintro e w2 ⟨v2,rfl,hf2,hm⟩;rw[he.out] at hm;replace hm:v2=.nilIface:=hm;subst hm;have n0:=(hf2.blk hN0.out id).cell 0;have e0:=hE0.out.fr hf2 id;simp only[List.getElem?_cons_zero] at n0;replace hf2:=hide hf2;replace e0:_=_:=e0)
  refine wp_regionC 7 (fun W=>W.cell? ⟨w.heap.size+1,0,none⟩=some (.int .i64 (p:Int))∧W.cell? ⟨1,0,none⟩=some (.iface et ex)) (by kernel_rfl) ?_
  refine wpAnyC_take 0 ?v0 rfl (by kernel_rfl) (fun _ _ _ h=>h) (by kernel_rfl) ?y0 ?_
  case y0=>(rintro W ⟨h1,h2⟩;go_simp <;> rfl)
  refine wpAnyC_take 1 ?v1 rfl (by kernel_rfl) (fun _ _ _ h=>h) (by kernel_rfl) ?y1 ?_
  case y1=>(rintro W ⟨h1,h2⟩;go_simp <;> rfl)
  refine wpAnyC_take 3 ?v3 rfl (by kernel_rfl) (fun _ _ _ h=>h) (by kernel_rfl) ?y3 ?_
  case y3=>(rintro W ⟨h1,h2⟩;go_simp <;> rfl)
  refine wpAnyC_one 2 rfl (by kernel_rfl) (fun _=>⟨n0,e0⟩) (fun K hK=>?_)
  go_simp
  refine(pplace_any (p:Int) _).mono ?_
  rintro e w' ⟨rfl,rfl⟩
  refine hK _ _ ?_
  clear hK K
  refine wpAnyC_take 4 ?v4 rfl (by kernel_rfl) (fun _ _ _ h=>h) (by kernel_rfl) ?y4 ?_
  case y4=>(rintro W ⟨h1,h2⟩;go_simp <;> rfl)
  refine wpAnyC_one 5 rfl (by kernel_rfl) (fun _=>⟨n0,e0⟩) (fun K hK=>?_)
  go_simp
  refine hK _ _ ?_
  clear hK K
  have hAL:∀ {a:Addr} {x:Value},w2.cell? a=some x→(w2.drew.alloc (.cells #[.int .i64 (p:Int),.iface et ex] 141)).cell? a=some x:=@fun a x h=>(World.cell?_alloc_lt (w2.drew) _ a (by exact World.block_lt_of_cell? w2 a h)).trans h
  refine wpAnyC_one 6 rfl (by kernel_rfl) (fun _=>⟨hAL n0,hAL e0⟩) (fun K hK=>?_)
  go_simp
  refine hK _ _ ?_
  clear hK K
  refine wpAnyC_one 7 rfl (by kernel_rfl) (fun _=>⟨hAL n0,hAL e0⟩) (fun K hK=>?_)
  go_simp
  refine hK _ _ ?_
  clear hK K
  refine wpAnyC_done (by kernel_rfl) (fun hm=>absurd hm (by decide)) ?_ _
  go_wp2_with fail
  try go_ret
  rw[hPOST.out]
  have hsz:=(hf0.out.trans hf2.out (fun _ _ f=>f)).size
  refine⟨_,rfl,((hf0.out.trans hf2.out (fun _ _ f=>f)).alloc _).drew,?_⟩
  rw[hL.out]
  exact⟨w2.heap.size,hsz,rfl,(Blk.new w2 _ _).drew⟩
open Go.RowKit
theorem usesAll_drop {l:List PT}{q:Nat}{t:PT}(h:l[q]?=some t):usesAll (l.drop q)=usesOf t++usesAll (l.drop (q+1)):=by
 have hl:=(List.getElem?_eq_some_iff.1 h).1
 rw[List.drop_eq_getElem_cons hl,usesAll,(List.getElem?_eq_some_iff.1 h).2]
theorem branch_cell {w:World}{P:Nat→Prop}{l:List PT}{g m cap:Nat}{X:Nat→Value}(ho:w.ownsRow 0 83 1 (.slice (some ⟨g,0,none⟩) m cap) l.length ((List.range l.length).map X)) (h:∀ i t,l[i]?=some t→TyV w P t (X i)){q:Nat}{t:PT}(hq:l[q]?=some t) :
 ∃ T x,w.cell? ⟨g,q,none⟩=some (.iface T x)∧TyV w P t (.iface T x):=by
 have ht:=h q t hq
 obtain⟨T,x,e⟩:=ht.iface
 have hl:=(List.getElem?_eq_some_iff.1 hq).1
 have hm:=own_n ho
 subst hm
 refine⟨T,x,own_cell ho rfl ?_,e▸ht⟩
 rw[List.getElem?_map,List.getElem?_range hl,Option.map_some,e]
set_option maxHeartbeats 8000000 in
set_option maxRecDepth 100000 in
theorem uses_alts (p:Nat) (l:List PT) (hln:l.length≤300) (ih:∀ t∈l,UsesOK t):UsesOK (.alts p l):=by
 intro w P s ds sv rv v xs et ex D hv hE
 obtain⟨POST,hPOST⟩:∃ Q,Hid (Q=ChkPost w (.iface et ex) (useF (envOf ds) (usesOf (.alts p l)))):=⟨_,rfl⟩
 rw[← hPOST.out]
 obtain⟨X,v2,ho,hP,hX,rfl⟩:∃ X v2,w.ownsRow 0 83 1 v2 l.length ((List.range l.length).map X)∧(∀ g,v2.ownBlock=some g→P g)∧(∀ i t,l[i]?=some t→TyV w P t (X i))∧v=.iface 220 (.agg #[.int .i64 (p:Int),v2]):=by
  cases hv with
  | alts _ X ho hP h=>exact⟨X,_,ho,hP,h,rfl⟩
 clear hv
 obtain⟨sa,sc,rfl⟩:=own_sl D.row
 obtain⟨ba,bc,rfl⟩:=own_sl ho
 obtain⟨w0,hw0⟩:∃ W,W=(w.alloc (.cells #[.slice sa ds.length sc,rv] 85)).alloc (.cells #[.int .i64 (p:Int),.slice ba l.length bc] 220):=⟨_,rfl⟩
 have hf0:Fr w w0 (fun _=>False):=by rw[hw0];exact((Fr.refl w _).alloc _).alloc _
 have hS0:Blk w0 w.heap.size [.slice sa ds.length sc,rv] 85:=by rw[hw0];exact(Blk.new w #[.slice sa ds.length sc,rv] 85).alloc _
 have D0:=hide (D.fr hf0 (fun _ _ f=>f))
 have hE0:=hide (hE.fr hf0 id)
 have ho0:=hide (ownsRow_fr ho hf0 (fun _ _ f=>f))
 have hX0:=hide (fun i t e=>(hX i t e).fr hf0 (fun _ _ f=>f))
 replace hS0:=hide hS0
 replace hf0:=hide hf0
 clear D hE ho hX
 have start:Hid (∃ q:Nat,Value.int .i64 0=.int .i64 (q:Int)∧q≤l.length∧l.length+1-q≤l.length+1∧Fr w0 w0 (fun _=>False)∧useF (envOf ds) (usesOf (.alts p l))=useF (envOf ds) (usesAll (l.drop q))):=hide ⟨0,rfl,Nat.zero_le _,by omega,Fr.refl _ _,by rw[usesOf];rfl⟩
 have a1:=asList_no 220 (by decide)
 have a2:=asMap_no 220 (by decide)
 have a3:=asUnion_yes
 replace ih:=hide ih
 go_enter Tryz.func79,Tryz.ntmps79
 go_wp2_with fail
 rw[← hw0]
 clear a1 a2 a3
 go_loopg [33] (l.length+1) (fun m v W=>∃ q:Nat,v=.int .i64 (q:Int)∧q≤l.length∧l.length+1-q≤m∧Fr w0 W (fun _=>False)∧useF (envOf ds) (usesOf (.alts p l))=useF (envOf ds) (usesAll (l.drop q)))
 case atStart=>exact start.out
 case round=>
  clear start hw0
  obtain⟨q,rfl,hq,hm,hf,he⟩:=hrel
  have hS:=hf.blk hS0.out id
  have s0:=hS.cell 0
  have s1:=hS.cell 1
  simp only[List.getElem?_cons_zero,List.getElem?_cons_succ] at s0 s1
  by_cases hlt:q<l.length
  ·have hlt':(q:Int)<(l.length:Int):=by omega
   have hd:l[q]?=some l[q]:=List.getElem?_eq_getElem hlt
   have hmem:l[q]∈l:=List.getElem_mem hlt
   generalize l[q]=t at hd hmem
   obtain⟨g,cap,hgc⟩:=own_form ho0.out (by omega)
   cases hgc
   obtain⟨T,x,c0,hT⟩:=branch_cell (ownsRow_fr ho0.out hf (fun _ _ f=>f)) (fun i t e=>(hX0.out i t e).fr hf (fun _ _ f=>f)) hd
   have hC:=hide (ih.out t hmem wr P s ds (.slice sa ds.length sc) rv (.iface T x) xs et ex (D0.out.fr hf (fun _ _ f=>f)) hT (hE0.out.fr hf id))
   rw[usesAll_drop hd,useF_append] at he
   replace hf:=hide hf
   clear hT
   cases hu:useF (envOf ds) (usesOf t) with
   | nil=>
    rw[hu,List.nil_append] at he
    replace he:=hide he
    replace hu:=hide hu
    go_wp2_with (go_at_call 79;refine hC.out.mono ?_;rintro e w2 ⟨v2,rfl,hf2,hm2⟩;rw[hu.out] at hm2;replace hm2:v2=.nilIface:=hm2;subst hm2;replace hf2:=hide hf2)
    go_roundg (l.length+1-(q+1))
    case measure=>omega
    case rel=>exact⟨q+1,rfl,hlt,Nat.le_refl _,hf.out.trans hf2.out (fun _ _ f=>f),he.out⟩
   | cons y r=>
    rw[hu,List.cons_append] at he
    replace he:=hide he
    replace hu:=hide hu
    go_wp2_with (go_at_call 79;refine hC.out.mono ?_;rintro e w2 ⟨v2,rfl,hf2,hm2⟩;rw[hu.out] at hm2;obtain⟨g2,hg1,rfl,hg2⟩:=hm2;replace hf2:=hide hf2;replace hg2:=hide hg2)
    try go_ret
    rw[hPOST.out]
    have hsz:=(hf0.out.trans hf.out (fun _ _ f=>f)).size
    refine⟨_,rfl,(hf0.out.trans hf.out (fun _ _ f=>f)).trans hf2.out (fun _ _ f=>f),?_⟩
    rw[he.out]
    exact⟨g2,by omega,rfl,hg2.out⟩
  ·have hlt':¬ ((q:Int)<(l.length:Int)):=by omega
   rw[List.drop_eq_nil_of_le (by omega),usesAll] at he
   replace he:=hide he
   replace hf:=hide hf
   go_wp2_with fail
   try go_ret
   rw[hPOST.out]
   refine⟨.nilIface,rfl,hf0.out.trans hf.out (fun _ _ f=>f),?_⟩
   rw[he.out]
   rfl
def fewB:PT→Prop
 | .leaf c _=>isBase c=true∨isName c=true
 | .wrap _ _ t=>fewB t
 | .alts _ ts=>ts.length≤300∧∀ t∈ts,fewB t
theorem uses_ok:∀ (n:Nat) (t:PT),SizeOf.sizeOf t≤n→fewB t→UsesOK t:=by
 intro n
 induction n with
 | zero=>intro t h;cases t <;> simp at h
 | succ n ih=>
  intro t h hb
  cases t with
  | leaf c p=>
   unfold fewB at hb
   rcases hb with hb|hb
   ·exact uses_base c p hb
   ·exact uses_named c p hb
  | wrap c p t=>
   unfold fewB at hb
   exact uses_wrap c p t (ih t (by simp at h;omega) hb)
  | alts p ts=>
   unfold fewB at hb
   exact uses_alts p ts hb.1 (fun t ht=>ih t (by have:=List.sizeOf_lt_of_mem ht;simp at h;omega) (hb.2 t ht))
theorem p_few (s:ByteArray) (hs:s.size≤300) (f:Nat) :
 (∀ i t j,i≤s.size→pTyp s f i=.ok (t,j)→fewB t)∧(∀ i ts j,i≤s.size→pAlts s f i=.ok (ts,j)→i+ts.length≤j∧∀ t∈ts,fewB t):=by
 induction f with
 | zero=>exact⟨fun i t j _ h=>by simp[pTyp] at h,fun i t j _ h=>by simp[pAlts] at h⟩
 | succ f ih=>
  obtain⟨ihT,ihA⟩:=ih
  have hbT:=(p_bounds s f).1
  have hbA:=(p_bounds s f).2
  refine⟨fun i t j hi h=>?_,fun i t j hi h=>?_⟩
  ·rw[pTyp_succ] at h
   unfold stepT at h
   split at h
   ·rename_i hb
    simp only[Except.ok.injEq,Prod.mk.injEq] at h
    obtain⟨rfl,rfl⟩:=h
    unfold fewB;exact .inl hb
   ·split at h
    ·rename_i hb
     have hl:=bt_pos (s:=s) (i:=i) (by omega)
     cases hp:pTyp s f (i+1) with
     | error k=>rw[hp] at h;simp at h
     | ok r=>
      obtain⟨t',j'⟩:=r
      rw[hp] at h
      simp only at h
      split at h
      ·simp only[Except.ok.injEq,Prod.mk.injEq] at h
       obtain⟨rfl,rfl⟩:=h
       unfold fewB;exact ihT _ _ _ (by omega) hp
      ·simp at h
    ·split at h
     ·rename_i hb
      have hl:=bt_pos (s:=s) (i:=i) (by omega)
      cases hp:pAlts s f (i+1) with
      | error k=>rw[hp] at h;simp at h
      | ok r=>
       obtain⟨t',j'⟩:=r
       rw[hp] at h
       simp only at h
       split at h
       ·simp only[Except.ok.injEq,Prod.mk.injEq] at h
        obtain⟨rfl,rfl⟩:=h
        have h1:=ihA _ _ _ (by omega) hp
        have h2:=(hbA (i+1) (by omega)).1 _ _ hp
        unfold fewB;exact⟨by omega,h1.2⟩
       ·simp at h
     ·split at h
      ·rename_i hb
       simp only[Except.ok.injEq,Prod.mk.injEq] at h
       obtain⟨rfl,rfl⟩:=h
       unfold fewB;exact .inr hb
      ·simp at h
  ·rw[pAlts_succ] at h
   unfold stepA at h
   cases hp:pTyp s f i with
   | error k=>rw[hp] at h;simp at h
   | ok r=>
    obtain⟨t',j'⟩:=r
    rw[hp] at h
    have h1:=ihT _ _ _ hi hp
    have h2:=(hbT i hi).1 _ _ hp
    simp only at h
    split at h
    ·rename_i h44
     have hl:=bt_pos (s:=s) (i:=j') (by omega)
     cases hq:pAlts s f (j'+1) with
     | error k=>rw[hq] at h;simp at h
     | ok r=>
      obtain⟨ts,k⟩:=r
      rw[hq] at h
      simp only[Except.ok.injEq,Prod.mk.injEq] at h
      obtain⟨rfl,rfl⟩:=h
      obtain⟨g1,g2⟩:=ihA _ _ _ (by omega) hq
      refine⟨by simp;omega,fun u hu=>?_⟩
      rcases List.mem_cons.1 hu with rfl|hu
      ·exact h1
      ·exact g2 u hu
    ·simp only[Except.ok.injEq,Prod.mk.injEq] at h
     obtain⟨rfl,rfl⟩:=h
     exact⟨by simp;omega,fun u hu=>by rw[List.mem_singleton] at hu;subst hu;exact h1⟩
theorem pT_few {s:ByteArray}(hs:s.size≤300){i:Nat}{t:PT}{j:Nat}(hi:i≤s.size) (h:pT s i=.ok (t,j)):fewB t:=(p_few s hs _).1 i t j hi h
open Go.RowKit
def SeenAt (w:World) (b:Nat) (seen:List Nat):Prop:=
 ∃ cs,Blk w b cs 240∧cs.length=26∧∀ k,k<26→cs[k]?=some (.bool (decide (97+k∈seen)))
theorem SeenAt.fr {w w':World}{b:Nat}{seen:List Nat}{S:Nat→Prop}(h:SeenAt w b seen) (hf:Fr w w' S) (hS:¬ S b):SeenAt w' b seen:=by
 obtain⟨cs,h1,h2⟩:=h
 exact⟨cs,hf.blk h1 hS,h2⟩
theorem SeenAt.same {w:World}{b:Nat}{l m:List Nat}(h:SeenAt w b l) (e:∀ x,x∈l↔x∈m):SeenAt w b m:=by
 obtain⟨cs,h1,h2,h3⟩:=h
 refine⟨cs,h1,h2,fun k hk=>?_⟩
 rw[h3 k hk]
 simp only[e]
theorem SeenAt.add {w:World}{b k:Nat}{seen:List Nat}(h:SeenAt w b seen) (hk:k<26):SeenAt (w.setCell ⟨b,k,none⟩ (.bool true)) b (seen++[97+k]):=by
 obtain⟨cs,h1,h2,h3⟩:=h
 refine⟨cs.set k (.bool true),h1.set k _,by simpa using h2,fun q hq=>?_⟩
 by_cases e:q=k
 ·subst e
  rw[List.getElem?_set_self (by omega)]
  simp
 ·rw[List.getElem?_set_ne (Ne.symm e),h3 q hq]
  simp[e]
theorem small_k {x:Nat}(h:isSmall x=true):∃ k,x=97+k∧k<26:=by
 simp only[isSmall,Bool.and_eq_true,decide_eq_true_eq] at h
 exact⟨x-97,by omega,by omega⟩
set_option maxHeartbeats 4000000 in
set_option maxRecDepth 100000 in
theorem phas_any {w:World}{b:Nat}{seen:List Nat}{p:Int}{x:Nat}(h:SeenAt w b seen) (hx:isSmall x=true) :
 Calls Tryz.prog 140 #[.pointer (some ⟨b,0,none⟩),.agg #[.int .i64 p,.int .u8 (x:Int)]] w fun e w'=>e=.returned (.bool (decide (x∈seen)))∧Fr w w' (fun _=>False):=by
 obtain⟨POST,hPOST⟩:∃ Q,Hid (Q=fun (e:Ending) (w':World)=>e=.returned (.bool (decide (x∈seen)))∧Fr w w' (fun _=>False)):=⟨_,rfl⟩
 rw[← hPOST.out]
 obtain⟨k,hk,hk26⟩:=small_k hx
 have hwp:IntKind.u8.wrap ((x:Int)-97)=(k:Int):=by rw[IntKind.wrap_u8];omega
 have c0:(w.alloc (.cells #[.int .i64 p,.int .u8 (x:Int)] 146)).cell? ⟨b,k,none⟩=some (.bool (decide (x∈seen))):=by
  obtain⟨cs,h1,h2,h3⟩:=h
  rw[(h1.alloc _).cell k,h3 k hk26,hk]
 have hb:b<(w.alloc (.cells #[.int .i64 p,.int .u8 (x:Int)] 146)).heap.size:=World.block_lt_of_cell? _ ⟨b,k,none⟩ c0
 have hk':(k:Int)<26:=by omega
 clear h hx hk
 go_enter Tryz.func140,Tryz.ntmps140
 go_wp2_with fail
 go_quiet (fail)
 go_wp2_with fail
 try go_ret
 rw[hPOST.out]
 exact⟨rfl,((Fr.refl w _).alloc _).still (Still.drewN _ _)⟩
set_option maxHeartbeats 4000000 in
set_option maxRecDepth 100000 in
theorem padd_any {w:World}{b:Nat}{seen:List Nat}{p:Int}{x:Nat}(h:SeenAt w b seen) (hx:isSmall x=true) :
 Calls Tryz.prog 139 #[.pointer (some ⟨b,0,none⟩),.agg #[.int .i64 p,.int .u8 (x:Int)]] w fun e w'=>e=.returned (.bool (!decide (x∈seen)))∧Fr w w' (fun g=>g=b)∧SeenAt w' b (seen++[x]):=by
 obtain⟨POST,hPOST⟩:∃ Q,Hid (Q=fun (e:Ending) (w':World)=>e=.returned (.bool (!decide (x∈seen)))∧Fr w w' (fun g=>g=b)∧SeenAt w' b (seen++[x])):=⟨_,rfl⟩
 rw[← hPOST.out]
 obtain⟨k,hk,hk26⟩:=small_k hx
 have hwp:IntKind.u8.wrap ((x:Int)-97)=(k:Int):=by rw[IntKind.wrap_u8];omega
 have hk':(k:Int)<26:=by omega
 have h0:=h.fr ((Fr.refl w (fun _=>False)).alloc (.cells #[.int .i64 p,.int .u8 (x:Int)] 146)) id
 have hC:=hide (phas_any (p:=p) h0 hx)
 have hN:=Blk.new w #[.int .i64 p,.int .u8 (x:Int)] 146
 have hbw:b<w.heap.size:=by obtain⟨cs,h1,_⟩:=h;exact h1.lt
 replace h0:=hide h0
 replace hN:=hide hN
 replace hk:=hide hk
 clear h hx
 by_cases hm:x∈seen
 ·have hd:=hide (show decide (x∈seen)=true from decide_eq_true hm)
  replace hm:=hide hm
  go_enter Tryz.func139,Tryz.ntmps139
  go_wp2_with (go_at_call 140;refine hC.out.mono ?_;rintro e w1 ⟨rfl,hf1⟩;rw[hd.out];replace hf1:=hide hf1)
  try go_ret
  rw[hPOST.out]
  refine⟨by rw[hd.out];rfl,(((Fr.refl w _).alloc _).trans hf1.out (fun _ _ f=>f.elim)),(h0.out.fr hf1.out id).same (fun y=>?_)⟩
  rw[List.mem_append,List.mem_singleton]
  exact⟨fun q=>.inl q,fun q=>by rcases q with q|rfl;exact q;exact hm.out⟩
 ·have hd:=hide (show decide (x∈seen)=false from decide_eq_false hm)
  go_enter Tryz.func139,Tryz.ntmps139
  go_wp2_with (go_at_call 140;refine hC.out.mono ?_;rintro e w1 ⟨rfl,hf1⟩;rw[hd.out];have n1:=(hf1.blk hN.out id).cell 1;have S1:=h0.out.fr hf1 id;simp only[List.getElem?_cons_zero,List.getElem?_cons_succ] at n1;have hz1:=hf1.size;replace hf1:=hide hf1)
  have cb:w1.cell? ⟨b,k,none⟩=some (.bool (decide (97+k∈seen))):=by obtain⟨cs,g1,g2,g3⟩:=S1;rw[g1.cell k,g3 k hk26]
  have fb:w1.frozen? ⟨b,k,none⟩=false:=by obtain⟨cs,g1,g2,g3⟩:=S1;exact g1.thaw k
  have SA:=S1.add hk26
  replace S1:=hide S1
  replace SA:=hide SA
  refine wp_regionC 6 (fun W=>W.cell? ⟨w.heap.size,1,none⟩=some (.int .u8 (x:Int))) (by kernel_rfl) ?_
  refine wpAnyC_take 0 ?v0 rfl (by kernel_rfl) (fun _ _ _ h=>h) (by kernel_rfl) ?y0 ?_
  case y0=>(rintro W h1;go_simp <;> rfl)
  refine wpAnyC_take 1 ?v1 rfl (by kernel_rfl) (fun _ _ _ h=>h) (by kernel_rfl) ?y1 ?_
  case y1=>(rintro W h1;go_simp <;> rfl)
  refine wpAnyC_take 2 ?v2 rfl (by kernel_rfl) (fun _ _ _ h=>h) (by kernel_rfl) ?y2 ?_
  case y2=>(rintro W h1;go_simp <;> rfl)
  refine wpAnyC_take 3 ?v3 rfl (by kernel_rfl) (fun _ _ _ h=>h) (by kernel_rfl) ?y3 ?_
  case y3=>(rintro W h1;go_simp <;> rfl)
  refine wpAnyC_one 4 rfl (by kernel_rfl) (fun _=>n1) (fun K hK=>?_)
  go_simp
  refine hK _ _ ?_
  clear hK K
  refine wpAnyC_one 5 rfl (by kernel_rfl) (fun _=>n1) (fun K hK=>?_)
  go_simp
  refine hK _ _ ?_
  clear hK K
  refine wpAnyC_one 6 rfl (by kernel_rfl) (fun _=>n1) (fun K hK=>?_)
  go_simp
  refine hK _ _ ?_
  clear hK K
  refine wpAnyC_done (by kernel_rfl) (fun hm=>absurd hm (by decide)) ?_ _
  go_wp2_with fail
  try go_ret
  rw[hPOST.out]
  rw[hk.out] at hd⊢
  refine⟨by rw[hd.out];rfl,?_,?_⟩
  ·exact((((Fr.refl w _).alloc _).trans hf1.out (fun _ _ f=>f.elim)).drew).setCell _ _ (fun _=>rfl)
  ·exact SA.out
end Go.Proofs.YtiifagiebikmdaaGreatDoor
