import Derived.Test.YtiifagiebikmdaaGreatDoorBK21
import Derived.Test.YtiifagiebikmdaaGreatDoorBK01
import Derived.Laws.AppendOwnNone
namespace Go.Proofs.YtiifagiebikmdaaGreatDoor
open Go.RowKit
def wrapOK:PT→Prop
 | .wrap c _ _=>c=91∨c=123
 | _=>True
set_option maxHeartbeats 4000000 in
set_option maxRecDepth 100000 in
theorem pisUnion_any {w:World}{P:Nat→Prop}{t:PT}{v:Value}(h:TyV w P t v) (hw:wrapOK t) :
 Calls Tryz.prog 111 #[v] w fun e w'=>e=.returned (.bool (decide (t.kind=40)))∧Fr w w' (fun _=>False):=by
 cases h with
 | base c p hc=>
  have hk:decide ((PT.leaf c p).kind=40)=false:=by
   simp only[isBase,Bool.or_eq_true,beq_iff_eq] at hc
   exact decide_eq_false (by simp only[PT.kind];omega)
  rw[hk]
  obtain⟨u,hu⟩:∃ u,u=baseT c:=⟨_,rfl⟩
  rw[← hu]
  have hn:=baseT_ne c
  rw[← hu] at hn
  have a1:=asUnion_no u hn.2.2.1
  clear hu hn hk
  go_enter Tryz.func111,Tryz.ntmps111
  go_wp2_with fail
  try go_ret
  exact⟨rfl,(Fr.refl w _).alloc _⟩
 | name c p hc=>
  have hk:decide ((PT.leaf c p).kind=40)=false:=by
   simp only[isName,Bool.and_eq_true,decide_eq_true_eq] at hc
   exact decide_eq_false (by simp only[PT.kind];omega)
  rw[hk]
  have a1:=asUnion_no 209 (by decide)
  clear hk
  go_enter Tryz.func111,Tryz.ntmps111
  go_wp2_with fail
  try go_ret
  exact⟨rfl,(Fr.refl w _).alloc _⟩
 | wrap c p h=>
  rename_i t0 v0
  have hk:decide ((PT.wrap c p t0).kind=40)=false:=by
   refine decide_eq_false ?_
   show ¬ (c=40)
   rcases hw with h|h <;> omega
  rw[hk]
  obtain⟨u,hu,hn⟩:∃ u,u=wrapT c∧u≠220:=⟨wrapT c,rfl,by unfold wrapT;split <;> decide⟩
  rw[← hu]
  have a1:=asUnion_no u hn
  clear hu hn hk
  go_enter Tryz.func111,Tryz.ntmps111
  go_wp2_with fail
  try go_ret
  exact⟨rfl,(Fr.refl w _).alloc _⟩
 | alts p X ho hP h=>
  rename_i l sv
  have a1:=asUnion_yes
  have hk:decide ((PT.alts p l).kind=40)=true:=rfl
  rw[hk]
  obtain⟨sa,sc,rfl⟩:=own_sl ho
  clear ho hP h hk
  go_enter Tryz.func111,Tryz.ntmps111
  go_wp2_with fail
  try go_ret
  exact⟨rfl,(Fr.refl w _).alloc _⟩
set_option maxHeartbeats 4000000 in
set_option maxRecDepth 100000 in
theorem pkindOf_any {w:World}{P:Nat→Prop}{t:PT}{v:Value}(h:TyV w P t v) (hw:wrapOK t) (h40:t.kind≠40) :
 Calls Tryz.prog 113 #[v] w fun e w'=>e=.returned (.int .u8 (t.kind:Int))∧Fr w w' (fun _=>False):=by
 cases h with
 | base c p hc=>
  simp only[isBase,Bool.or_eq_true,beq_iff_eq] at hc
  simp only[PT.kind]
  clear hw h40
  rcases hc with(((rfl|rfl)|rfl)|rfl)|rfl
  ·rw[show baseT 110=198 from rfl]
   have a0:=asNothing_yes
   go_enter Tryz.func113,Tryz.ntmps113
   go_wp2_with fail
   try go_ret
   exact⟨rfl,(Fr.refl w _).alloc _⟩
  ·rw[show baseT 116=199 from rfl]
   have a0:=asNothing_no 199 (by decide)
   have a1:=asTruth_yes
   go_enter Tryz.func113,Tryz.ntmps113
   go_wp2_with fail
   try go_ret
   exact⟨rfl,(Fr.refl w _).alloc _⟩
  ·rw[show baseT 105=200 from rfl]
   have a0:=asNothing_no 200 (by decide)
   have a1:=asTruth_no 200 (by decide)
   have a2:=asInt_yes
   go_enter Tryz.func113,Tryz.ntmps113
   go_wp2_with fail
   try go_ret
   exact⟨rfl,(Fr.refl w _).alloc _⟩
  ·rw[show baseT 108=201 from rfl]
   have a0:=asNothing_no 201 (by decide)
   have a1:=asTruth_no 201 (by decide)
   have a2:=asInt_no 201 (by decide)
   have a3:=asLong_yes
   go_enter Tryz.func113,Tryz.ntmps113
   go_wp2_with fail
   try go_ret
   exact⟨rfl,(Fr.refl w _).alloc _⟩
  ·rw[show baseT 115=202 from rfl]
   have a0:=asNothing_no 202 (by decide)
   have a1:=asTruth_no 202 (by decide)
   have a2:=asInt_no 202 (by decide)
   have a3:=asLong_no 202 (by decide)
   have a4:=asText_yes
   go_enter Tryz.func113,Tryz.ntmps113
   go_wp2_with fail
   try go_ret
   exact⟨rfl,(Fr.refl w _).alloc _⟩
 | name c p hc=>
  simp only[PT.kind]
  clear hw h40 hc
  have a0:=asNothing_no 209 (by decide)
  have a1:=asTruth_no 209 (by decide)
  have a2:=asInt_no 209 (by decide)
  have a3:=asLong_no 209 (by decide)
  have a4:=asText_no 209 (by decide)
  have a5:=asList_no 209 (by decide)
  have a6:=asMap_no 209 (by decide)
  have a7:=asName_yes
  go_enter Tryz.func113,Tryz.ntmps113
  go_wp2_with fail
  try go_ret
  exact⟨rfl,(Fr.refl w _).alloc _⟩
 | wrap c p h=>
  obtain⟨vT,vx,rfl⟩:=h.iface
  simp only[PT.kind]
  clear h40 h
  rcases hw with rfl|rfl
  ·rw[show wrapT 91=205 from rfl]
   have a0:=asNothing_no 205 (by decide)
   have a1:=asTruth_no 205 (by decide)
   have a2:=asInt_no 205 (by decide)
   have a3:=asLong_no 205 (by decide)
   have a4:=asText_no 205 (by decide)
   have a5:=asList_yes
   go_enter Tryz.func113,Tryz.ntmps113
   go_wp2_with fail
   try go_ret
   exact⟨rfl,(Fr.refl w _).alloc _⟩
  ·rw[show wrapT 123=206 from rfl]
   have a0:=asNothing_no 206 (by decide)
   have a1:=asTruth_no 206 (by decide)
   have a2:=asInt_no 206 (by decide)
   have a3:=asLong_no 206 (by decide)
   have a4:=asText_no 206 (by decide)
   have a5:=asList_no 206 (by decide)
   have a6:=asMap_yes
   go_enter Tryz.func113,Tryz.ntmps113
   go_wp2_with fail
   try go_ret
   exact⟨rfl,(Fr.refl w _).alloc _⟩
 | alts p X ho hP h=>exact absurd rfl h40
set_option maxHeartbeats 4000000 in
set_option maxRecDepth 100000 in
theorem phasKind_any {w:World}{P:Nat→Prop}{l:List PT}{sv:Value}{X:Nat→Value}{n k:Nat}{ys:List Value}(ho:w.ownsRow 0 83 1 sv n ys) (hn:n≤l.length) (hoP:∀ g,sv.ownBlock=some g→P g) (hy:∀ i t,i<n→l[i]?=some t→ys[i]?=some (X i)∧TyV w P t (X i)) (hok:∀ t∈l,wrapOK t) (h40:∀ t∈l.take n,t.kind≠40) (hln:n≤300) :
 Calls Tryz.prog 112 #[sv,.int .u8 (k:Int)] w fun e w'=>e=.returned (.bool (decide (k∈(l.take n).map PT.kind)))∧Fr w w' (fun _=>False):=by
 obtain⟨POST,hPOST⟩:∃ Q,Hid (Q=fun (e:Ending) (w':World)=>e=.returned (.bool (decide (k∈(l.take n).map PT.kind)))∧Fr w w' (fun _=>False)):=⟨_,rfl⟩
 rw[← hPOST.out]
 obtain⟨sa,sc,rfl⟩:=own_sl ho
 have start:Hid (∃ q:Nat,Value.int .i64 0=.int .i64 (q:Int)∧q≤n∧n+1-q≤n+1∧Fr w w (fun _=>False)∧k∉(l.take q).map PT.kind):=hide ⟨0,rfl,Nat.zero_le _,by omega,Fr.refl _ _,by simp⟩
 replace ho:=hide ho
 replace hy:=hide hy
 go_enter Tryz.func112,Tryz.ntmps112
 go_wp2_with fail
 go_loopg [9] (n+1) (fun m v W=>∃ q:Nat,v=.int .i64 (q:Int)∧q≤n∧n+1-q≤m∧Fr w W (fun _=>False)∧k∉(l.take q).map PT.kind)
 case atStart=>exact start.out
 case round=>
  clear start
  obtain⟨q,rfl,hq,hm,hf,he⟩:=hrel
  by_cases hlt:q<n
  ·have hlt':(q:Int)<(n:Int):=by omega
   have hql:q<l.length:=by omega
   have hd:l[q]?=some l[q]:=List.getElem?_eq_getElem hql
   have hmem:l[q]∈l:=List.getElem_mem hql
   have hmt:l[q]∈l.take n:=by
    rw[List.mem_iff_getElem?]
    exact⟨q,by rw[List.getElem?_take,if_pos hlt];exact hd⟩
   generalize l[q]=t at hd hmem hmt
   obtain⟨g,cap,hgc⟩:=own_form ho.out (by omega)
   cases hgc
   obtain⟨y1,y2⟩:=hy.out q t hlt hd
   obtain⟨T,x,e⟩:=y2.iface
   rw[e] at y1 y2
   have c0:=own_cell (ownsRow_fr ho.out hf (fun _ _ f=>f)) rfl y1
   have hC:=hide (pkindOf_any (y2.fr hf (fun _ _ f=>f)) (hok t hmem) (h40 t hmt))
   have htk:(l.take (q+1)).map PT.kind=(l.take q).map PT.kind++[t.kind]:=by rw[List.take_add_one,hd];simp
   obtain⟨kk,hkk⟩:∃ kk,t.kind=kk:=⟨_,rfl⟩
   rw[hkk] at hC htk
   replace hf:=hide hf
   clear y1 y2 e hkk
   by_cases hk:kk=k
   ·subst hk
    have hin:Hid (kk∈(l.take n).map PT.kind):=hide (by
     have:(l.take (q+1)).map PT.kind <+: (l.take n).map PT.kind:=(List.take_prefix_take_left (by omega)).map PT.kind
     exact this.subset (by rw[htk];simp))
    clear htk he
    go_wp2_with (go_at_call 113;refine hC.out.mono ?_;rintro e w2 ⟨rfl,hf2⟩;replace hf2:=hide hf2)
    try go_ret
    rw[hPOST.out]
    exact⟨by rw[decide_eq_true hin.out];rfl,hf.out.trans hf2.out (fun _ _ f=>f)⟩
   ·have hk':((kk:Int)==(k:Int))=false:=by simp;omega
    have he':=hide (show k∉(l.take (q+1)).map PT.kind by rw[htk,List.mem_append,List.mem_singleton];rintro(h|h);exact he h;exact hk h.symm)
    clear htk he
    go_wp2_with (go_at_call 113;refine hC.out.mono ?_;rintro e w2 ⟨rfl,hf2⟩;replace hf2:=hide hf2)
    go_roundg (n+1-(q+1))
    case measure=>omega
    case rel=>exact⟨q+1,rfl,hlt,Nat.le_refl _,hf.out.trans hf2.out (fun _ _ f=>f),he'.out⟩
  ·have hlt':¬ ((q:Int)<(n:Int)):=by omega
   have hqn:q=n:=by omega
   rw[hqn] at he
   replace he:=hide he
   replace hf:=hide hf
   clear hqn
   go_wp2_with fail
   try go_ret
   rw[hPOST.out]
   exact⟨by rw[decide_eq_false he.out],hf.out⟩
open Go.RowKit
def BranOK (t:PT):Prop:=∀ (w:World) (P:Nat→Prop) (v:Value) (et:TypeId) (ex:Value),TyV w P t v→ErrV 2 w et ex→
 Calls Tryz.prog 81 #[v] w (ChkPost w (.iface et ex) (badT t))
set_option maxHeartbeats 4000000 in
set_option maxRecDepth 100000 in
theorem bran_leaf (c p:Nat):BranOK (.leaf c p):=by
 intro w P v et ex hv hE
 obtain⟨POST,hPOST⟩:∃ Q,Hid (Q=ChkPost w (.iface et ex) (badT (.leaf c p))):=⟨_,rfl⟩
 rw[← hPOST.out]
 obtain⟨u,x,rfl,h1,h2,h3⟩:∃ u x,v=.iface u x∧u≠205∧u≠206∧u≠220:=by
  cases hv with
  | base _ _ h=>exact⟨_,_,rfl,(baseT_ne c).1,(baseT_ne c).2.1,(baseT_ne c).2.2.1⟩
  | name _ _ h=>exact⟨_,_,rfl,by decide,by decide,by decide⟩
 have a1:=asList_no u h1
 have a2:=asMap_no u h2
 have a3:=asUnion_no u h3
 clear hv hE h1 h2 h3
 go_enter Tryz.func81,Tryz.ntmps81
 go_wp2_with fail
 try go_ret
 rw[hPOST.out]
 refine⟨.nilIface,rfl,Fr.refl w _,?_⟩
 rw[badT]
set_option maxHeartbeats 4000000 in
set_option maxRecDepth 100000 in
theorem bran_wrap (c p:Nat) (t:PT) (ih:BranOK t):BranOK (.wrap c p t):=by
 intro w P v et ex hv hE
 obtain⟨POST,hPOST⟩:∃ Q,Hid (Q=ChkPost w (.iface et ex) (badT (.wrap c p t))):=⟨_,rfl⟩
 rw[← hPOST.out]
 obtain⟨v2,hv2,rfl⟩:∃ v2,TyV w P t v2∧v=.iface (wrapT c) (.agg #[.int .i64 (p:Int),v2]):=by
  cases hv with
  | wrap _ _ h=>exact⟨_,h,rfl⟩
 obtain⟨vT,vx,rfl⟩:=hv2.iface
 have hcall:Hid (∀ T,Calls Tryz.prog 81 #[.iface vT vx] (w.alloc (.cells #[.int .i64 (p:Int),.iface vT vx] T)) (ChkPost (w.alloc (.cells #[.int .i64 (p:Int),.iface vT vx] T)) (.iface et ex) (badT t))):=hide (fun T=>by
  have hf:Fr w (w.alloc (.cells #[.int .i64 (p:Int),.iface vT vx] T)) (fun _=>False):=(Fr.refl w _).alloc _
  exact ih _ P _ _ _ (hv2.fr hf (fun _ _ f=>f)) (hE.fr hf id))
 clear hv hE hv2 ih
 by_cases hc:c=91
 ·subst hc
  simp only[wrapT,if_true]
  have a1:=asList_yes
  go_enter Tryz.func81,Tryz.ntmps81
  go_wp2_with (go_at_call 81;refine(hcall.out _).mono ?_;rintro e w2 ⟨v2,rfl,hf2,hm⟩;replace hf2:=hide hf2;replace hm:=hide hm)
  try go_ret
  rw[hPOST.out]
  refine⟨v2,rfl,((Fr.refl w (fun _=>False)).alloc _).trans hf2.out (fun _ _ f=>f),?_⟩
  rw[badT]
  have hm':=hm.out
  cases hL:badT t with
  | nil=>rw[hL] at hm';exact hm'
  | cons x r=>rw[hL] at hm';exact hm'.less (by simp)
 ·simp only[wrapT,if_neg hc]
  have a1:=asList_no 206 (by decide)
  have a2:=asMap_yes
  go_enter Tryz.func81,Tryz.ntmps81
  go_wp2_with (go_at_call 81;refine(hcall.out _).mono ?_;rintro e w2 ⟨v2,rfl,hf2,hm⟩;replace hf2:=hide hf2;replace hm:=hide hm)
  try go_ret
  rw[hPOST.out]
  refine⟨v2,rfl,((Fr.refl w (fun _=>False)).alloc _).trans hf2.out (fun _ _ f=>f),?_⟩
  rw[badT]
  have hm':=hm.out
  cases hL:badT t with
  | nil=>rw[hL] at hm';exact hm'
  | cons x r=>rw[hL] at hm';exact hm'.less (by simp)
theorem badTs_drop {l:List PT}{q:Nat}{t:PT}(h:l[q]?=some t) (seen:List Nat):badTs seen (l.drop q)=(if t.kind=40∨t.kind∈seen then [t.place] else [])++(badT t++badTs (seen++[t.kind]) (l.drop (q+1))):=by
 have hl:=(List.getElem?_eq_some_iff.1 h).1
 rw[List.drop_eq_getElem_cons hl,badTs,(List.getElem?_eq_some_iff.1 h).2]
theorem own_pre {w:World}{e:TypeId}{g m cap n:Nat}{xs:List Value}(h:w.ownsRow 0 e 1 (.slice (some ⟨g,0,none⟩) m cap) n xs){q:Nat}(hq:q≤n):w.ownsRow 0 e 1 (.slice (some ⟨g,0,none⟩) q cap) q (xs.take q):=by
 obtain⟨h1,h2⟩:=h
 refine⟨by rw[List.length_take,h1];omega,.inr ?_⟩
 rcases h2 with⟨e,_⟩|⟨g',cap',cur,e,k1,k2,k3,k4,k5,k6⟩
 ·cases e
 ·cases e
  refine⟨g,cap,cur,rfl,k1,k2,by omega,k4,k5,?_⟩
  rw[← k6,List.take_take]
  congr 1
  omega
def BLInv (w0:World) (l:List PT) (m:Nat) (v:Value) (W:World):Prop:=
 ∃ q:Nat,v=.int .i64 (q:Int)∧q≤l.length∧l.length+1-q≤m∧Fr w0 W (fun _=>False)∧badTs [] l=badTs ((l.take q).map PT.kind) (l.drop q)∧∀ t∈l.take q,t.kind≠40
theorem place_of {w:World}{P:Nat→Prop}{t:PT}{T:TypeId}{x:Value}(h:TyV w P t (.iface T x)):∀ W,(method 453 T x "Place").run Tryz.prog W=.ok (77,.int .i64 (t.place:Int)) W:=by
 cases h with
 | base c p hc=>
  simp only[isBase,Bool.or_eq_true,beq_iff_eq] at hc
  rcases hc with(((rfl|rfl)|rfl)|rfl)|rfl
  ·intro W;show(method 453 198 (.agg #[.int .i64 (p:Int)]) "Place").run Tryz.prog W=_;kernel_rfl
  ·intro W;show(method 453 199 (.agg #[.int .i64 (p:Int)]) "Place").run Tryz.prog W=_;kernel_rfl
  ·intro W;show(method 453 200 (.agg #[.int .i64 (p:Int)]) "Place").run Tryz.prog W=_;kernel_rfl
  ·intro W;show(method 453 201 (.agg #[.int .i64 (p:Int)]) "Place").run Tryz.prog W=_;kernel_rfl
  ·intro W;show(method 453 202 (.agg #[.int .i64 (p:Int)]) "Place").run Tryz.prog W=_;kernel_rfl
 | name c p hc=>intro W;kernel_rfl
 | wrap c p h=>
  intro W
  unfold wrapT
  split
  ·kernel_rfl
  ·kernel_rfl
 | alts p X ho hP h=>intro W;kernel_rfl
set_option maxHeartbeats 16000000 in
set_option maxRecDepth 100000 in
theorem bran_alts (p:Nat) (l:List PT) (hln:l.length≤300) (hok:∀ t∈l,wrapOK t) (ih:∀ t∈l,BranOK t):BranOK (.alts p l):=by
 intro w P v et ex hv hE
 obtain⟨POST,hPOST⟩:∃ Q,Hid (Q=ChkPost w (.iface et ex) (badT (.alts p l))):=⟨_,rfl⟩
 rw[← hPOST.out]
 obtain⟨X,v2,ho,hP,hX,rfl⟩:∃ X v2,w.ownsRow 0 83 1 v2 l.length ((List.range l.length).map X)∧(∀ g,v2.ownBlock=some g→P g)∧(∀ i t,l[i]?=some t→TyV w P t (X i))∧v=.iface 220 (.agg #[.int .i64 (p:Int),v2]):=by
  cases hv with
  | alts _ X ho hP h=>exact⟨X,_,ho,hP,h,rfl⟩
 clear hv
 obtain⟨ba,bc,rfl⟩:=own_sl ho
 obtain⟨w0,hw0⟩:∃ W,W=w.alloc (.cells #[.int .i64 (p:Int),.slice ba l.length bc] 220):=⟨_,rfl⟩
 have hf0:Fr w w0 (fun _=>False):=by rw[hw0];exact(Fr.refl w _).alloc _
 have hS0:Blk w0 w.heap.size [.int .i64 (p:Int),.slice ba l.length bc] 220:=by rw[hw0];exact Blk.new w #[.int .i64 (p:Int),.slice ba l.length bc] 220
 have hE0:=hide (hE.fr hf0 id)
 have ho0:=hide (ownsRow_fr ho hf0 (fun _ _ f=>f))
 have hX0:=hide (fun i t e=>(hX i t e).fr hf0 (fun _ _ f=>f))
 replace hS0:=hide hS0
 replace hf0:=hide hf0
 clear hE ho hX
 have start:Hid (BLInv w0 l (l.length+1) (.int .i64 0) w0):=hide ⟨0,rfl,Nat.zero_le _,by omega,Fr.refl _ _,rfl,fun t ht=>by simp at ht⟩
 have a1:=asList_no 220 (by decide)
 have a2:=asMap_no 220 (by decide)
 have a3:=asUnion_yes
 replace ih:=hide ih
 replace hok:=hide hok
 go_enter Tryz.func81,Tryz.ntmps81
 go_wp2_with fail
 rw[← hw0]
 clear a1 a2 a3
 go_loopg [6,28] (l.length+1) (fun m u v W=>BLInv w0 l m v W)
 case atStart=>exact start.out
 case round=>
  clear start hw0
  obtain⟨q,rfl,hq,hm,hf,he,h40⟩:=hrel
  have hS:=hf.blk hS0.out id
  by_cases hlt:q<l.length
  ·have hlt':(q:Int)<(l.length:Int):=by omega
   have hd:l[q]?=some l[q]:=List.getElem?_eq_getElem hlt
   have hmem:l[q]∈l:=List.getElem_mem hlt
   generalize l[q]=t at hd hmem
   obtain⟨g,cap,hgc⟩:=own_form ho0.out (by omega)
   cases hgc
   have how:=ownsRow_fr ho0.out hf (fun _ _ f=>f)
   have hXw:=fun i t e=>(hX0.out i t e).fr hf (fun _ _ f=>f)
   obtain⟨T,x,c0,hT⟩:=branch_cell how hXw hd
   have hqc:(q:Int)≤(bc:Int):=by
    obtain⟨_,h2⟩:=ho0.out
    rcases h2 with⟨e,_⟩|⟨g',cap',cur,e,k1,k2,k3,k4,k5,k6⟩
    ·cases e
    ·cases e;omega
   have hok1:=hok.out t hmem
   have hpre:=own_pre how (Nat.le_of_lt hlt)
   rw[badTs_drop hd] at he
   have htk:(l.take (q+1)).map PT.kind=(l.take q).map PT.kind++[t.kind]:=by rw[List.take_add_one,hd];simp
   have E1:=hE0.out.fr hf id
   have hFw:=hide (hf0.out.trans hf (fun _ _ f=>f))
   have c1:=hS.cell 1
   simp only[List.getElem?_cons_zero,List.getElem?_cons_succ] at c1
   have hcalls:=hide (And.intro hS (And.intro E1 (And.intro hpre (And.intro hXw (And.intro hT hf)))))
   clear how hpre hXw E1 hT hS hf
   go_wp2_with fail
   have hSw:Still wr wr.drew:=Still.drew wr
   obtain⟨hS,E1,hpre,hXw,hT,hf⟩:=hcalls.out
   have fD:Fr wr wr.drew (fun _=>False):=(Fr.refl wr _).still hSw
   refine wp_regionAll (fun W=>W.cell? ⟨w.heap.size,1,none⟩=some (.slice (some ⟨g,0,none⟩) l.length bc)) (by kernel_rfl) ?_
   refine wpAllC_take 0 ?v0 rfl (by kernel_rfl) (fun _ _ _ h=>h) (by kernel_rfl) ?y0 ?_
   case y0=>(intro W h1;go_simp <;> rfl)
   refine wpAllC_one 1 rfl (by kernel_rfl) c1 (fun K hK=>?_)
   go_simp
   refine(pisUnion_any (hT.fr fD (fun _ _ f=>f)) hok1).mono ?_
   rintro e w2 ⟨rfl,hf2⟩
   refine hK _ _ ?_
   clear hK K
   have fW2:Fr wr w2 (fun _=>False):=fD.trans hf2 (fun _ _ f=>f)
   have c2:=(fW2.blk hS id).cell 1
   simp only[List.getElem?_cons_zero,List.getElem?_cons_succ] at c2
   by_cases hk40:t.kind=40
   ·rw[decide_eq_true hk40]
    rw[if_pos (.inl hk40)] at he
    have hL:=hide (show badT (.alts p l)=t.place::(badT t++badTs ((l.take q).map PT.kind++[t.kind]) (l.drop (q+1))) by rw[badT,he];rfl)
    refine wpAllC_take 2 ?v2 rfl (by kernel_rfl) (fun _ _ _ h=>h) (by kernel_rfl) ?y2 ?_
    case y2=>(intro W h1;go_simp <;> rfl)
    refine wpAllC_skip 3 rfl (by kernel_rfl) (fun _ _ _ h=>h) (by kernel_rfl) ?_
    refine wpAllC_skip 4 rfl (by kernel_rfl) (fun _ _ _ h=>h) (by kernel_rfl) ?_
    refine wpAllC_skip 5 rfl (by kernel_rfl) (fun _ _ _ h=>h) (by kernel_rfl) ?_
    refine wpAllC_skip 6 rfl (by kernel_rfl) (fun _ _ _ h=>h) (by kernel_rfl) ?_
    refine wpAllC_skip 7 rfl (by kernel_rfl) (fun _ _ _ h=>h) (by kernel_rfl) ?_
    refine wpAllC_skip 8 rfl (by kernel_rfl) (fun _ _ _ h=>h) (by kernel_rfl) ?_
    refine wpAllC_skip 9 rfl (by kernel_rfl) (fun _ _ _ h=>h) (by kernel_rfl) ?_
    refine wpAllC_one 10 rfl (by kernel_rfl) c2 (fun K hK=>?_)
    go_simp
    refine hK _ _ ?_
    clear hK K
    refine wpAllC_done (by kernel_rfl) c2 ?_ _
    have e2:=E1.fr fW2 id
    have hT2:=hT.fr fW2 (fun _ _ f=>f)
    replace fW2:=hide fW2
    clear he htk
    replace e2:w2.cell? ⟨2,0,none⟩=some (.iface et ex):=e2
    have hpm:=place_of hT2
    go_wp2_with fail
    refine wp_regionC 6 (fun W=>W.cell? ⟨2,0,none⟩=some (.iface et ex)) (by kernel_rfl) ?_
    refine wpAnyC_take 0 ?u0a rfl (by kernel_rfl) (fun _ _ _ h=>h) (by kernel_rfl) ?z0a ?_
    case z0a=>(intro W h1;go_simp <;> rfl)
    refine wpAnyC_take 2 ?u2a rfl (by kernel_rfl) (fun _ _ _ h=>h) (by kernel_rfl) ?z2a ?_
    case z2a=>(intro W h1;go_simp <;> rfl)
    refine wpAnyC_one 1 rfl (by kernel_rfl) (fun _=>e2) (fun K hK=>?_)
    go_simp
    refine(pplace_any (t.place:Int) _).mono ?_
    rintro e w' ⟨rfl,rfl⟩
    refine hK _ _ ?_
    clear hK K
    refine wpAnyC_take 3 ?u3a rfl (by kernel_rfl) (fun _ _ _ h=>h) (by kernel_rfl) ?z3a ?_
    case z3a=>(intro W h1;go_simp <;> rfl)
    refine wpAnyC_one 4 rfl (by kernel_rfl) (fun _=>e2) (fun K hK=>?_)
    go_simp
    refine hK _ _ ?_
    clear hK K
    have e3:(w2.drew.alloc (.cells #[.int .i64 (t.place:Int),.iface et ex] 141)).cell? ⟨2,0,none⟩=some (.iface et ex):=(World.cell?_alloc_lt (w2.drew) _ ⟨2,0,none⟩ (by exact World.block_lt_of_cell? w2 ⟨2,0,none⟩ e2)).trans e2
    refine wpAnyC_one 5 rfl (by kernel_rfl) (fun _=>e3) (fun K hK=>?_)
    go_simp
    refine hK _ _ ?_
    clear hK K
    refine wpAnyC_one 6 rfl (by kernel_rfl) (fun _=>e3) (fun K hK=>?_)
    go_simp
    refine hK _ _ ?_
    clear hK K
    refine wpAnyC_done (by kernel_rfl) (fun hm=>absurd hm (by decide)) ?_ _
    go_wp2_with fail
    try go_ret
    rw[hPOST.out]
    have hF2:=hFw.out.trans fW2.out (fun _ _ f=>f)
    have hs2:=hF2.size
    refine⟨_,rfl,(hF2.alloc _).drew,?_⟩
    rw[hL.out]
    exact⟨w2.heap.size,hs2,rfl,(Blk.new w2 _ _).drew⟩
   ·rw[decide_eq_false hk40]
    have hCk:=pkindOf_any (hT.fr fW2 (fun _ _ f=>f)) hok1 hk40
    refine wpAllC_take 2 ?v2b rfl (by kernel_rfl) (fun _ _ _ h=>h) (by kernel_rfl) ?y2b ?_
    case y2b=>(intro W h1;go_simp <;> rfl)
    refine wpAllC_take 3 ?v3b rfl (by kernel_rfl) (fun _ _ _ h=>h) (by kernel_rfl) ?y3b ?_
    case y3b=>(intro W h1;go_simp <;> rfl)
    refine wpAllC_take 4 ?v4b rfl (by kernel_rfl) (fun _ _ _ h=>h) (by kernel_rfl) ?y4b ?_
    case y4b=>(intro W h1;go_simp <;> rfl)
    refine wpAllC_take 5 ?v5b rfl (by kernel_rfl) (fun _ _ _ h=>h) (by kernel_rfl) ?y5b ?_
    case y5b=>(intro W h1;go_simp <;> rfl)
    refine wpAllC_take 6 ?v6b rfl (by kernel_rfl) (fun _ _ _ h=>h) (by kernel_rfl) ?y6b ?_
    case y6b=>(intro W h1;go_simp <;> rfl)
    refine wpAllC_take 7 ?v7b rfl (by kernel_rfl) (fun _ _ _ h=>h) (by kernel_rfl) ?y7b ?_
    case y7b=>(intro W h1;go_simp <;> rfl)
    refine wpAllC_one 8 rfl (by kernel_rfl) c2 (fun K hK=>?_)
    go_simp
    refine hCk.mono ?_
    rintro e w3 ⟨rfl,hf3⟩
    refine hK _ _ ?_
    clear hK K
    have fW3:Fr wr w3 (fun _=>False):=fW2.trans hf3 (fun _ _ f=>f)
    have c3:=(fW3.blk hS id).cell 1
    simp only[List.getElem?_cons_zero,List.getElem?_cons_succ] at c3
    have hCh:=phasKind_any (l:=l) (X:=X) (k:=t.kind) (ownsRow_fr hpre fW3 (fun _ _ f=>f)) (Nat.le_of_lt hlt) hP (fun i u hi hu=>⟨by rw[List.getElem?_take,if_pos hi,List.getElem?_map,List.getElem?_range (by omega)];rfl,(hXw i u hu).fr fW3 (fun _ _ f=>f)⟩) hok.out h40 (by omega)
    refine wpAllC_one 9 rfl (by kernel_rfl) c3 (fun K hK=>?_)
    go_simp
    refine hCh.mono ?_
    rintro e w4 ⟨rfl,hf4⟩
    refine hK _ _ ?_
    clear hK K
    have fW4:Fr wr w4 (fun _=>False):=fW3.trans hf4 (fun _ _ f=>f)
    have c4:=(fW4.blk hS id).cell 1
    simp only[List.getElem?_cons_zero,List.getElem?_cons_succ] at c4
    by_cases hks:t.kind∈(l.take q).map PT.kind
    ·rw[decide_eq_true hks]
     rw[if_pos (.inr hks)] at he
     have hL:=hide (show badT (.alts p l)=t.place::(badT t++badTs ((l.take q).map PT.kind++[t.kind]) (l.drop (q+1))) by rw[badT,he];rfl)
     refine wpAllC_one 10 rfl (by kernel_rfl) c4 (fun K hK=>?_)
     go_simp
     refine hK _ _ ?_
     clear hK K
     refine wpAllC_done (by kernel_rfl) c4 ?_ _
     have e2:=E1.fr fW4 id
     have hT2:=hT.fr fW4 (fun _ _ f=>f)
     replace fW4:=hide fW4
     replace e2:w4.cell? ⟨2,0,none⟩=some (.iface et ex):=e2
     have hpm:=place_of hT2
     clear he htk hCh hCk
     go_wp2_with fail
     refine wp_regionC 6 (fun W=>W.cell? ⟨2,0,none⟩=some (.iface et ex)) (by kernel_rfl) ?_
     refine wpAnyC_take 0 ?u0b rfl (by kernel_rfl) (fun _ _ _ h=>h) (by kernel_rfl) ?z0b ?_
     case z0b=>(intro W h1;go_simp <;> rfl)
     refine wpAnyC_take 2 ?u2b rfl (by kernel_rfl) (fun _ _ _ h=>h) (by kernel_rfl) ?z2b ?_
     case z2b=>(intro W h1;go_simp <;> rfl)
     refine wpAnyC_one 1 rfl (by kernel_rfl) (fun _=>e2) (fun K hK=>?_)
     go_simp
     refine(pplace_any (t.place:Int) _).mono ?_
     rintro e w' ⟨rfl,rfl⟩
     refine hK _ _ ?_
     clear hK K
     refine wpAnyC_take 3 ?u3b rfl (by kernel_rfl) (fun _ _ _ h=>h) (by kernel_rfl) ?z3b ?_
     case z3b=>(intro W h1;go_simp <;> rfl)
     refine wpAnyC_one 4 rfl (by kernel_rfl) (fun _=>e2) (fun K hK=>?_)
     go_simp
     refine hK _ _ ?_
     clear hK K
     have e3:(w4.drew.alloc (.cells #[.int .i64 (t.place:Int),.iface et ex] 141)).cell? ⟨2,0,none⟩=some (.iface et ex):=(World.cell?_alloc_lt (w4.drew) _ ⟨2,0,none⟩ (by exact World.block_lt_of_cell? w4 ⟨2,0,none⟩ e2)).trans e2
     refine wpAnyC_one 5 rfl (by kernel_rfl) (fun _=>e3) (fun K hK=>?_)
     go_simp
     refine hK _ _ ?_
     clear hK K
     refine wpAnyC_one 6 rfl (by kernel_rfl) (fun _=>e3) (fun K hK=>?_)
     go_simp
     refine hK _ _ ?_
     clear hK K
     refine wpAnyC_done (by kernel_rfl) (fun hm=>absurd hm (by decide)) ?_ _
     go_wp2_with fail
     try go_ret
     rw[hPOST.out]
     have hF2:=hFw.out.trans fW4.out (fun _ _ f=>f)
     have hs2:=hF2.size
     refine⟨_,rfl,(hF2.alloc _).drew,?_⟩
     rw[hL.out]
     exact⟨w4.heap.size,hs2,rfl,(Blk.new w4 _ _).drew⟩
    ·rw[decide_eq_false hks]
     rw[if_neg (fun h=>h.elim hk40 hks),List.nil_append] at he
     refine wpAllC_one 10 rfl (by kernel_rfl) c4 (fun K hK=>?_)
     go_simp
     refine hK _ _ ?_
     clear hK K
     refine wpAllC_done (by kernel_rfl) c4 ?_ _
     have hC:=hide (ih.out t hmem w4 P (.iface T x) et ex (hT.fr fW4 (fun _ _ f=>f)) (E1.fr fW4 id))
     replace fW4:=hide fW4
     clear hCh hCk hXw hpre hS E1 hT hf
     cases hu:badT t with
     | nil=>
      rw[hu,List.nil_append] at he
      replace he:=hide he
      replace hu:=hide hu
      go_wp2_with (go_at_call 81;refine hC.out.mono ?_;rintro e w5 ⟨v5,rfl,hf5,hm5⟩;rw[hu.out] at hm5;replace hm5:v5=.nilIface:=hm5;subst hm5;replace hf5:=hide hf5)
      go_roundg (l.length+1-(q+1))
      case measure=>omega
      case rel=>
       obtain⟨_,_,_,_,_,hf⟩:=hcalls.out
       refine⟨q+1,rfl,hlt,Nat.le_refl _,(hf.trans fW4.out (fun _ _ f=>f)).trans hf5.out (fun _ _ f=>f),by rw[htk];exact he.out,fun u hu'=>?_⟩
       rw[List.take_add_one,hd] at hu'
       rcases List.mem_append.1 hu' with h|h
       ·exact h40 u h
       ·simp only[Option.toList_some,List.mem_singleton] at h
        rw[h];exact hk40
     | cons y r=>
      rw[hu,List.cons_append] at he
      have hL:=hide (show badT (.alts p l)=y::(r++badTs ((l.take q).map PT.kind++[t.kind]) (l.drop (q+1))) by rw[badT,he])
      replace hu:=hide hu
      clear he htk
      go_wp2_with (go_at_call 81;refine hC.out.mono ?_;rintro e w5 ⟨v5,rfl,hf5,hm5⟩;rw[hu.out] at hm5;obtain⟨g5,hg1,rfl,hg2⟩:=hm5;replace hf5:=hide hf5;replace hg2:=hide hg2)
      try go_ret
      rw[hPOST.out]
      have hF2:=hFw.out.trans fW4.out (fun _ _ f=>f)
      have hs2:=hF2.size
      refine⟨_,rfl,hF2.trans hf5.out (fun _ _ f=>f),?_⟩
      rw[hL.out]
      exact⟨g5,by omega,rfl,hg2.out⟩
  ·have hlt':¬ ((q:Int)<(l.length:Int)):=by omega
   rw[List.drop_eq_nil_of_le (by omega),badTs] at he
   have hL:=hide (show badT (.alts p l)=[] by rw[badT,he])
   replace hf:=hide hf
   clear he
   go_wp2_with fail
   try go_ret
   rw[hPOST.out]
   refine⟨.nilIface,rfl,hf0.out.trans hf.out (fun _ _ f=>f),?_⟩
   rw[hL.out]
theorem bran_ok:∀ (n:Nat) (t:PT),SizeOf.sizeOf t≤n→fewB t→shT t→BranOK t:=by
 intro n
 induction n with
 | zero=>intro t h;cases t <;> simp at h
 | succ n ih=>
  intro t h hb hs
  cases t with
  | leaf c p=>exact bran_leaf c p
  | wrap c p t=>
   unfold fewB at hb
   unfold shT at hs
   exact bran_wrap c p t (ih t (by simp at h;omega) hb hs.2)
  | alts p ts=>
   unfold fewB at hb
   unfold shT at hs
   have hall:∀ t∈ts,shT t:=by
    have:=hs.2
    clear hs hb h
    induction ts with
    | nil=>intro t ht;simp at ht
    | cons x r ihr=>
     unfold shTs at this
     intro t ht
     rcases List.mem_cons.1 ht with rfl|ht
     ·exact this.1
     ·exact ihr this.2 t ht
   refine bran_alts p ts hb.1 (fun t ht=>?_) (fun t ht=>ih t (by have:=List.sizeOf_lt_of_mem ht;simp at h;omega) (hb.2 t ht) (hall t ht))
   have:=hall t ht
   cases t with
   | wrap c p t=>unfold shT at this;exact this.1
   | leaf c p=>trivial
   | alts p l=>trivial
open Go.RowKit
theorem FldsV.append {w:World}{P:Nat→Prop}{s:ByteArray}{fs gs:List PF}{xs ys:List Value}(h:FldsV w P s fs xs) (k:FldsV w P s gs ys) (hl:xs.length=fs.length*4):FldsV w P s (fs++gs) (xs++ys):=fun i f e=>by
 by_cases hi:i<fs.length
 ·rw[List.getElem?_append_left hi] at e
  obtain⟨a,b,c,d,h1,h2,h3,h4,h5⟩:=h i f e
  exact⟨a,b,c,d,by rw[List.getElem?_append_left (by omega)];exact h1,by rw[List.getElem?_append_left (by omega)];exact h2,by rw[List.getElem?_append_left (by omega)];exact h3,by rw[List.getElem?_append_left (by omega)];exact h4,h5⟩
 ·rw[List.getElem?_append_right (by omega)] at e
  obtain⟨a,b,c,d,h1,h2,h3,h4,h5⟩:=k _ f e
  refine⟨a,b,c,d,?_,?_,?_,?_,h5⟩
  ·rw[List.getElem?_append_right (by omega),show 4*i-xs.length=4*(i-fs.length) by omega];exact h1
  ·rw[List.getElem?_append_right (by omega),show 4*i+1-xs.length=4*(i-fs.length)+1 by omega];exact h2
  ·rw[List.getElem?_append_right (by omega),show 4*i+2-xs.length=4*(i-fs.length)+2 by omega];exact h3
  ·rw[List.getElem?_append_right (by omega),show 4*i+3-xs.length=4*(i-fs.length)+3 by omega];exact h4
theorem FldsV.one {w:World}{P:Nat→Prop}{s:ByteArray}{fs:List PF}{xs:List Value}(h:FldsV w P s fs xs) (hl:xs.length=fs.length*4):∀ u∈xs,u.oneCell'=true:=by
 intro u hu
 obtain⟨j,hj⟩:=List.mem_iff_getElem?.1 hu
 have hlt:=(List.getElem?_eq_some_iff.1 hj).1
 have hq:j / 4<fs.length:=by omega
 obtain⟨a,b,c,d,h1,h2,h3,h4,rfl,rfl,hT,hD⟩:=h (j / 4) _ (List.getElem?_eq_getElem hq)
 have hr:j=4*(j / 4)∨j=4*(j / 4)+1∨j=4*(j / 4)+2∨j=4*(j / 4)+3:=by omega
 rcases hr with e|e|e|e
 ·rw[← e,hj] at h1
  simp only[Option.some.injEq] at h1
  rw[h1];rfl
 ·rw[← e,hj] at h2
  simp only[Option.some.injEq] at h2
  rw[h2];rfl
 ·rw[← e,hj] at h3
  simp only[Option.some.injEq] at h3
  obtain⟨T,x,q⟩:=hT.iface
  rw[h3,q];rfl
 ·rw[← e,hj] at h4
  simp only[Option.some.injEq] at h4
  have:∃ d',d=.pointer d':=by
   unfold DfV at hD
   split at hD
   ·exact⟨_,hD⟩
   ·obtain⟨g',x',_,e,_⟩:=hD;exact⟨_,e⟩
  obtain⟨d',q⟩:=this
  rw[h4,q];rfl
theorem fieldsOf_take {ds:List PD}{q:Nat}{d:PD}(h:ds[q]?=some d):fieldsOf (ds.take (q+1))=fieldsOf (ds.take q)++d.body.fs:=by
 unfold fieldsOf
 rw[List.take_add_one,h];simp
def FLInv (w0:World) (P:Nat→Prop) (s:ByteArray) (ds:List PD) (m:Nat) (fv v:Value) (W:World):Prop:=
 ∃ (q:Nat) (ys:List Value),v=.int .i64 (q:Int)∧q≤ds.length∧ds.length+1-q≤m∧Fr w0 W (fun _=>False)∧W.ownsRow w0.heap.size 149 4 fv (fieldsOf (ds.take q)).length ys∧FldsV W P s (fieldsOf (ds.take q)) ys
theorem fieldsOf_le {ds:List PD}(q:Nat):(fieldsOf (ds.take q)).length≤(fieldsOf ds).length:=by
 have h:fieldsOf ds=fieldsOf (ds.take q)++fieldsOf (ds.drop q):=by
  unfold fieldsOf
  rw[← List.flatMap_append,List.take_append_drop]
 rw[h,List.length_append];omega
set_option maxHeartbeats 8000000 in
set_option maxRecDepth 100000 in
theorem pFields_any {w:World}{P:Nat→Prop}{s:ByteArray}{ds:List PD}{sv rv:Value}{xs:List Value}(D:DRow w P s ds sv xs) (hlf:(fieldsOf ds).length≤300) (hPw:∀ g,P g→g<w.heap.size) :
 Calls Tryz.prog 80 #[.agg #[sv,rv]] w fun e w'=>∃ fv ys,e=.returned fv∧Fr w w' (fun _=>False)∧FlRow w' (fun g=>P g∨w.heap.size≤g) s (fieldsOf ds) fv ys:=by
 obtain⟨POST,hPOST⟩:∃ Q,Hid (Q=fun (e:Ending) (w':World)=>∃ fv ys,e=.returned fv∧Fr w w' (fun _=>False)∧FlRow w' (fun g=>P g∨w.heap.size≤g) s (fieldsOf ds) fv ys):=⟨_,rfl⟩
 rw[← hPOST.out]
 obtain⟨sa,sc,rfl⟩:=own_sl D.row
 have hl6:=D.len
 obtain⟨w0,hw0⟩:∃ W,W=w.alloc (.cells #[.slice sa ds.length sc,rv] 85):=⟨_,rfl⟩
 have hf0:Fr w w0 (fun _=>False):=by rw[hw0];exact(Fr.refl w _).alloc _
 have hz0:w0.heap.size=w.heap.size+1:=by rw[hw0];simp
 have D0:=hide (D.fr hf0 (fun _ _ f=>f))
 have start:Hid (FLInv w0 P s ds (ds.length+1) (.slice none 0 0) (.int .i64 0) w0):=hide ⟨0,[],rfl,Nat.zero_le _,by omega,Fr.refl _ _,World.ownsRow_nil _ _ _ _,fun i f e=>by simp[fieldsOf] at e⟩
 replace hf0:=hide hf0
 replace hPw:=hide hPw
 clear D
 go_enter Tryz.func80,Tryz.ntmps80
 go_wp2_with fail
 rw[← hw0]
 clear hw0
 go_loopg [3,11] (ds.length+1) (fun m u v W=>FLInv w0 P s ds m u v W)
 case atStart=>exact start.out
 case round=>
  clear start
  obtain⟨q,ys,rfl,hq,hm,hf,hrow,hV⟩:=hrel
  have hsz:=hf.size
  obtain⟨n,hn⟩:∃ n,(fieldsOf (ds.take q)).length=n:=⟨_,rfl⟩
  rw[hn] at hrow
  obtain⟨fa,fc,rfl⟩:=own_sl hrow
  by_cases hlt:q<ds.length
  ·have hlt':(q:Int)<(ds.length:Int):=by omega
   have hd:ds[q]?=some ds[q]:=List.getElem?_eq_getElem hlt
   generalize ds[q]=d at hd
   obtain⟨g,cap,hgc⟩:=own_form D0.out.row (by omega)
   cases hgc
   have Dw:=D0.out.fr hf (fun _ _ f=>f)
   obtain⟨T,x,c0,c1,c2,hb⟩:=Dw.cells hd
   have htk:=fieldsOf_take hd
   have hle:=fieldsOf_le (ds:=ds) (q+1)
   rw[htk,List.length_append] at hle
   rw[hn] at hle
   obtain⟨pl,hpl⟩:∃ p,d.place=p:=⟨_,rfl⟩
   obtain⟨lt,hlt0⟩:∃ p,d.letter=p:=⟨_,rfl⟩
   rw[hpl] at c0
   rw[hlt0] at c1
   have A1:=(Fr.refl wr (fun _=>False)).alloc (.cells #[.int .i64 (pl:Int),.int .u8 (lt:Int),.iface T x] 132)
   have hrow1:=ownsRow_fr hrow A1 (fun _ _ f=>f)
   have hV1:=hV.fr A1 (fun _ _ f=>f)
   have hb1:=hb.fr A1 (fun _ _ f=>f)
   have hf1:=hf.trans A1 (fun _ _ f=>f)
   clear hrow hV Dw A1 hpl hlt0
   generalize hbd:d.body=bd at hb hb1 htk hle
   clear hbd
   have nope:Hid (∀ W,bd.fs=[]→Fr (wr.alloc (.cells #[.int .i64 (pl:Int),.int .u8 (lt:Int),.iface T x] 132)) W (fun _=>False)→FLInv w0 P s ds (ds.length+1-(q+1)) (.slice fa n fc) (.int .i64 ((q:Int)+1)) W):=hide (fun W hb0 hW=>⟨q+1,ys,rfl,hlt,Nat.le_refl _,hf1.trans hW (fun _ _ f=>f),by rw[htk,hb0,List.append_nil,hn];exact ownsRow_fr hrow1 hW (fun _ _ f=>f),by rw[htk,hb0,List.append_nil];exact hV1.fr hW (fun _ _ f=>f)⟩)
   cases hb with
   | enum p ho hP hu=>
    have a1:=asRecord_no 216 (by decide)
    clear ho hP hu hb1 hrow1 hV1 hf1
    go_wp2_with fail
    go_roundg (ds.length+1-(q+1))
    case measure=>omega
    case rel=>exact nope.out _ rfl ((Fr.refl _ _).alloc _)
   | bytes p k=>
    have a1:=asRecord_no 233 (by decide)
    clear hb1 hrow1 hV1 hf1
    go_wp2_with fail
    go_roundg (ds.length+1-(q+1))
    case measure=>omega
    case rel=>exact nope.out _ rfl ((Fr.refl _ _).alloc _)
   | recd p ho hP h=>
    rename_i fs rv2 zs
    have a1:=asRecord_yes
    obtain⟨ra,rc,rfl⟩:=own_sl ho
    obtain⟨ti,hi1,hi2,hi3,hi4⟩:=info_parts i_PField
    have A2:=(Fr.refl (wr.alloc (.cells #[.int .i64 (pl:Int),.int .u8 (lt:Int),.iface 211 (.agg #[.int .i64 (p:Int),.slice ra fs.length rc])] 132)) (fun _=>False)).alloc (.cells #[.int .i64 (p:Int),.slice ra fs.length rc] 211)
    have hrow2:=hide (ownsRow_fr hrow1 A2 (fun _ _ f=>f))
    have hV2:=hide (hV1.fr A2 (fun _ _ f=>f))
    have hf2:=hide (hf1.trans A2 (fun _ _ f=>f))
    have hfs:fs.length≤300:=by have:(PB.recd fs).fs.length=fs.length:=rfl;omega
    have hoz:=ho.1
    have hone:=hide (h.one hoz)
    have hFs:=hide ((h.fr ((Fr.refl wr (fun _=>False)).alloc (.cells #[.int .i64 (pl:Int),.int .u8 (lt:Int),.iface 211 (.agg #[.int .i64 (p:Int),.slice ra fs.length rc])] 132)) (fun _ _ f=>f)).fr A2 (fun _ _ f=>f))
    clear hb1 hrow1 hV1 hf1 A2
    rcases ho.2 with⟨e,hn0⟩|⟨g2,cap2,cur,e,k1,k2,k3,k4,k5,k6⟩
    ·have hfe:fs=[]:=List.length_eq_zero_iff.1 (by omega)
     subst hfe
     simp only[List.length_nil,Value.slice.injEq,true_and] at e
     obtain⟨rfl,rfl⟩:=e
     clear ho h hP
     go_wp2_with (at_builtin;go_must (refine wpList_append_own_none rfl _ _ 143 rfl w0.heap.size 149 ti 4 u_PFields hi1 (.slice fa n fc) n ys rfl hrow2.out rfl ?_))
     go_roundg (ds.length+1-(q+1))
     case measure=>omega
     case rel=>exact nope.out _ rfl ((Fr.refl _ _).alloc _)
    ·have e':ra=some ⟨g2,0,none⟩:=by cases e;rfl
     subst e'
     have hns:=hide (fun (W:World) (hW:Fr wr W (fun _=>False)) j u (hju:zs[j]?=some u)=>(show W.cell? ((⟨g2,0,none⟩:Addr).add j)=some u from by
      have:=own_cell (ownsRow_fr ho hW (fun _ _ f=>f)) rfl hju
      unfold Addr.add
      split
      ·rename_i h0;rw[h0] at this;exact this
      ·simpa using this))
     have hPl:=hide (fun g (hg:P g)=>show ¬ (Value.slice fa n fc).ownBlock=some g from fun e0=>by have:=hrow2.out.lt g e0;have:=hPw.out g hg;omega)
     have hW2:=hide (show Fr wr ((wr.alloc (.cells #[.int .i64 (pl:Int),.int .u8 (lt:Int),.iface 211 (.agg #[.int .i64 (p:Int),.slice (some ⟨g2,0,none⟩) fs.length rc])] 132)).alloc (.cells #[.int .i64 (p:Int),.slice (some ⟨g2,0,none⟩) fs.length rc] 211)) (fun _=>False) from((Fr.refl wr _).alloc _).alloc _)
     clear ho h hP e k2 k6
     go_wp2_with (at_builtin;go_must (refine wpList_append_own_at _ rfl _ _ 143 rfl w0.heap.size 149 ti _ 4 40 u_PFields hi1 hi2 hi3 hi4 rfl (by decide) (.slice fa n fc) n ys rfl hrow2.out ⟨g2,0,none⟩ fs.length rc zs rfl hoz (hns.out _ hW2.out) hone.out ?b1 ?b2 ?b3 ?_)
                  case b1=>unfold maxLen;omega
                  case b2=>omega
                  case b3=>simp;omega
                  intro v5 w5 ho5 hg5 hn5 hl5
                  obtain⟨a5,c5,rfl⟩:=own_sl ho5
                  have hG:=hide hg5
                  have hO:=hide ho5
                  clear hg5 hl5 hn5 ho5)
     go_roundg (ds.length+1-(q+1))
     case measure=>omega
     case rel=>
      have hF5:Fr ((wr.alloc (.cells #[.int .i64 (pl:Int),.int .u8 (lt:Int),.iface 211 (.agg #[.int .i64 (p:Int),.slice (some ⟨g2,0,none⟩) fs.length rc])] 132)).alloc (.cells #[.int .i64 (p:Int),.slice (some ⟨g2,0,none⟩) fs.length rc] 211)) w5 (fun g=>(Value.slice fa n fc).ownBlock=some g):=Fr.grown (Fr.refl _ _) hG.out (fun k e _=>e)
      refine⟨q+1,ys++zs,rfl,hlt,Nat.le_refl _,hf2.out.trans hF5 (fun y hy e=>by have:=hrow2.out.lt y e;omega),?_,?_⟩
      ·rw[htk,List.length_append,hn];exact hO.out
      ·rw[htk]
       exact FldsV.append (hV2.out.fr hF5 hPl.out) (hFs.out.fr hF5 hPl.out) (by rw[hn];exact hrow2.out.1)
  ·have hlt':¬ ((q:Int)<(ds.length:Int)):=by omega
   rw[List.take_of_length_le (by omega)] at hn hV
   have hfin:=hide (show FlRow wr (fun g=>P g∨w.heap.size≤g) s (fieldsOf ds) (.slice fa n fc) ys from⟨by rw[hn];exact own_zero hrow,fun g e=>.inr (by have:=hrow.lt g e;omega),hV.mono (fun g _ hg=>.inl hg)⟩)
   replace hf:=hide hf
   clear hrow hV
   go_wp2_with fail
   try go_ret
   rw[hPOST.out]
   exact⟨_,ys,rfl,hf0.out.trans hf.out (fun _ _ f=>f),hfin.out⟩
open Go.RowKit
theorem bad_drop {fs:List PF}{q:Nat}{f:PF}(h:fs[q]?=some f):(fs.drop q).flatMap (fun f=>badT f.ty)=badT f.ty++(fs.drop (q+1)).flatMap (fun f=>badT f.ty):=by
 have hl:=(List.getElem?_eq_some_iff.1 h).1
 rw[List.drop_eq_getElem_cons hl,List.flatMap_cons,(List.getElem?_eq_some_iff.1 h).2]
set_option maxHeartbeats 8000000 in
set_option maxRecDepth 100000 in
theorem pcheckUnions_any {w:World}{P:Nat→Prop}{s:ByteArray}{ds:List PD}{t:PT}{sv rv:Value}{xs:List Value}{et:TypeId}{ex:Value}(D:DRow w P s ds sv xs) (hT:TyV w P t rv) (hE:ErrV 2 w et ex) (hlf:(fieldsOf ds).length≤300) (hok:∀ f∈fieldsOf ds,fewB f.ty∧shT f.ty) (hokt:fewB t∧shT t) (hPw:∀ g,P g→g<w.heap.size) :
 Calls Tryz.prog 52 #[.agg #[sv,rv]] w (ChkPost w (.iface et ex) (unionF ds t)):=by
 obtain⟨POST,hPOST⟩:∃ Q,Hid (Q=ChkPost w (.iface et ex) (unionF ds t)):=⟨_,rfl⟩
 rw[← hPOST.out]
 obtain⟨sa,sc,rfl⟩:=own_sl D.row
 obtain⟨rT,rx,rfl⟩:=hT.iface
 have hf0:Fr w (w.alloc (.cells #[.slice sa ds.length sc,.iface rT rx] 85)) (fun _=>False):=(Fr.refl w _).alloc _
 have hS0:=Blk.new w #[.slice sa ds.length sc,.iface rT rx] 85
 have hC0:=hide (pFields_any (rv:=.iface rT rx) (D.fr hf0 (fun _ _ f=>f)) hlf (fun g hg=>Nat.lt_of_lt_of_le (hPw g hg) hf0.size))
 have hT0:=hide (hT.fr hf0 (fun _ _ f=>f))
 have hE0:=hide (hE.fr hf0 id)
 replace hS0:=hide hS0
 replace hf0:=hide hf0
 clear D hE hT hPw
 go_enter Tryz.func52,Tryz.ntmps52
 go_wp2_with (go_at_call 80;refine hC0.out.mono ?_;rintro e w1 ⟨fv,ys,rfl,hf1,hF⟩;obtain⟨fa,fc,rfl⟩:=own_sl hF.row;replace hf1:=hide hf1;replace hF:=hide hF)
 have start:Hid (∃ q:Nat,Value.int .i64 0=.int .i64 (q:Int)∧q≤(fieldsOf ds).length∧(fieldsOf ds).length+1-q≤(fieldsOf ds).length+1∧Fr w1 w1 (fun _=>False)∧unionF ds t=((fieldsOf ds).drop q).flatMap (fun f=>badT f.ty)++badT t):=hide ⟨0,rfl,Nat.zero_le _,by omega,Fr.refl _ _,rfl⟩
 go_loopg [9] ((fieldsOf ds).length+1) (fun m v W=>∃ q:Nat,v=.int .i64 (q:Int)∧q≤(fieldsOf ds).length∧(fieldsOf ds).length+1-q≤m∧Fr w1 W (fun _=>False)∧unionF ds t=((fieldsOf ds).drop q).flatMap (fun f=>badT f.ty)++badT t)
 case atStart=>exact start.out
 case round=>
  clear start hC0
  obtain⟨q,rfl,hq,hm,hf,he⟩:=hrel
  by_cases hlt:q<(fieldsOf ds).length
  ·have hlt':(q:Int)<((fieldsOf ds).length:Int):=by omega
   have hd:(fieldsOf ds)[q]?=some (fieldsOf ds)[q]:=List.getElem?_eq_getElem hlt
   have hmem:(fieldsOf ds)[q]∈fieldsOf ds:=List.getElem_mem hlt
   generalize (fieldsOf ds)[q]=f at hd hmem
   obtain⟨g,cap,hgc⟩:=own_form hF.out.row (by omega)
   cases hgc
   obtain⟨T,x,d,c0,c1,c2,c3,hT,hDf⟩:=(hF.out.fr hf (fun _ _ f=>f)).cells hd
   rw[bad_drop hd] at he
   obtain⟨l,hl0⟩:∃ l,f.letter=l:=⟨_,rfl⟩
   obtain⟨pl,hpl⟩:∃ p,f.place=p:=⟨_,rfl⟩
   rw[hl0] at c1
   rw[hpl] at c0
   have A1:=(Fr.refl wr (fun _=>False)).alloc (.cells #[.int .i64 (pl:Int),.int .u8 (l:Int),.iface T x,.pointer d] 149)
   have hC:=hide (bran_ok _ f.ty (Nat.le_refl _) (hok f hmem).1 (hok f hmem).2 _ _ _ et ex (hT.fr A1 (fun _ _ f=>f)) (((hE0.out.fr hf1.out id).fr hf id).fr A1 id))
   have hf':=hide (hf.trans A1 (fun _ _ f=>f))
   clear A1 hT hDf hf hl0 hpl
   cases hu:badT f.ty with
   | nil=>
    rw[hu,List.nil_append] at he
    replace he:=hide he
    replace hu:=hide hu
    go_wp2_with (go_at_call 81;refine hC.out.mono ?_;rintro e w3 ⟨v3,rfl,hf3,hm3⟩;rw[hu.out] at hm3;replace hm3:v3=.nilIface:=hm3;subst hm3;replace hf3:=hide hf3)
    go_roundg ((fieldsOf ds).length+1-(q+1))
    case measure=>omega
    case rel=>exact⟨q+1,rfl,hlt,Nat.le_refl _,hf'.out.trans hf3.out (fun _ _ f=>f),he.out⟩
   | cons y r=>
    rw[hu,List.cons_append,List.cons_append] at he
    replace he:=hide he
    replace hu:=hide hu
    go_wp2_with (go_at_call 81;refine hC.out.mono ?_;rintro e w3 ⟨v3,rfl,hf3,hm3⟩;rw[hu.out] at hm3;obtain⟨g3,hg1,rfl,hg2⟩:=hm3;replace hf3:=hide hf3;replace hg2:=hide hg2)
    try go_ret
    rw[hPOST.out]
    have hF2:=(hf0.out.trans hf1.out (fun _ _ f=>f)).trans hf'.out (fun _ _ f=>f)
    have hs2:=hF2.size
    refine⟨_,rfl,hF2.trans hf3.out (fun _ _ f=>f),?_⟩
    rw[he.out]
    exact⟨g3,by omega,rfl,hg2.out⟩
  ·have hlt':¬ ((q:Int)<((fieldsOf ds).length:Int)):=by omega
   rw[List.drop_eq_nil_of_le (by omega),List.flatMap_nil,List.nil_append] at he
   have hS:=hf.blk (hf1.out.blk hS0.out id) id
   have s1:=hS.cell 1
   simp only[List.getElem?_cons_zero,List.getElem?_cons_succ] at s1
   have hC:=hide (bran_ok _ t (Nat.le_refl _) hokt.1 hokt.2 wr P (.iface rT rx) et ex ((hT0.out.fr hf1.out (fun _ _ f=>f)).fr hf (fun _ _ f=>f)) ((hE0.out.fr hf1.out id).fr hf id))
   replace he:=hide he
   replace hf:=hide hf
   clear hS
   go_wp2_with (go_at_call 81;refine hC.out.mono ?_;rintro e w3 ⟨v3,rfl,hf3,hm3⟩;replace hf3:=hide hf3;replace hm3:=hide hm3)
   try go_ret
   rw[hPOST.out]
   have hF2:=(hf0.out.trans hf1.out (fun _ _ f=>f)).trans hf.out (fun _ _ f=>f)
   have hs2:=hF2.size
   refine⟨v3,rfl,hF2.trans hf3.out (fun _ _ f=>f),?_⟩
   rw[he.out]
   have hm':=hm3.out
   cases hu:badT t with
   | nil=>rw[hu] at hm';exact hm'
   | cons y r=>rw[hu] at hm';exact hm'.less hs2
end Go.Proofs.YtiifagiebikmdaaGreatDoor
