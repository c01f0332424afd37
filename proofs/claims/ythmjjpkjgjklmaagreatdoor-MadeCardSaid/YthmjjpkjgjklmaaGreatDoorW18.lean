import Derived.Test.YthmjjpkjgjklmaaGreatDoorW16
import Derived.Test.YthmjjpkjgjklmaaGreatDoorW17
import Derived.Test.YthmjjpkjgjklmaaGreatDoorA00
set_option maxHeartbeats 16000000
set_option maxRecDepth 100000
set_option linter.unusedSimpArgs false
open Go.Proofs.Tryz
namespace Go.Proofs.YthmjjpkjgjklmaaGreatDoor
open Go.RowKit
variable {w w':World}{q g b m cap x:Nat}{P S:Nat->Prop}{s:BA}{xs:List Value}{ds:List PD}{sv rv ex:Value}{fs:List PF}{seen:List Nat}{p:Int}{l:List (Nat×Nat)}{d:PD}{et:TypeId}{t:PT}{f:PF}
theorem ztd (c:Nat) (ds:List PD):∀ b b',(look b c ds).map Prod.fst=(look b' c ds).map Prod.fst:=by
 induction ds with
 | nil=>intro b b';rfl
 | cons d r ih=>
  intro b b';simp only[look];split
  ·rfl
  ·exact ih _ _
theorem ztu (c:Nat):za_ [] c=none:=rfl
theorem zqs (d:PD) (r:List PD) (c:Nat):za_ (d::r) c=if d.letter=c then some d.body else za_ r c:=by
 unfold za_;simp only[look];split
 ·rfl
 ·exact ztd c r _ _
theorem zqr (h:ds[q]?=some d) (c:Nat):za_ (ds.drop q) c=if d.letter=c then some d.body else za_ (ds.drop (q+1)) c:=by
 have hl:=(ao_.1 h).1;rw[bh_ hl,zqs,(ao_.1 h).2]
structure DRow (w:World) (P:Nat->Prop) (s:BA) (ds:List PD) (sv:Value) (xs:List Value):Prop where
 row:w.ownsRow 0 204 3 sv ds.length xs
 off:∀ g,sv.ownBlock=some g->P g
 V:zd4 w P s ds xs
 len:ds.length<=6
theorem DRow.fr (h:DRow w P s ds sv xs) (hf:Fr w w' S) (hS:∀ g,P g->¬ S g):DRow w' P s ds sv xs:=
 ⟨zb_ h.row hf (λ g hg=>hS g (h.off g hg)),h.off,h.V.fr hf hS,h.len⟩
theorem DRow.cells (h:DRow w P s ds (.slice (some ⟨g,0,none⟩) m cap) xs)(hq:ds[q]?=some d) :
 ∃ T x,w.cell? ⟨g,q*3,none⟩=some (.int .i64 (d.place:Int))/\w.cell? ⟨g,q*3+1,none⟩=some (.int .u8 (d.letter:Int))/\w.cell? ⟨g,q*3+2,none⟩=some (.iface T x)/\xo_ w P s d.body (.iface T x):=by
 obtain⟨c,h1,h2,h3,h4⟩:=h.V q d hq;obtain⟨T,x,rfl⟩:=h4.iface;have hm:=zsk h.row;subst hm;rw[bo_] at h1 h2 h3;exact⟨T,x,zs_ h.row rfl h1,zs_ h.row rfl h2,zs_ h.row rfl h3,h4⟩
def ZV (ds:List PD) (xs:List Value) (b:PB) (v:Value):Prop:=∃ q d,ds[q]?=some d/\d.body=b/\xs[3*q+2]?=some v
theorem DRow.cellz (h:DRow w P s ds (.slice (some ⟨g,0,none⟩) m cap) xs)(hq:ds[q]?=some d) :
 ∃ T x,w.cell? ⟨g,q*3,none⟩=some (.int .i64 (d.place:Int))/\w.cell? ⟨g,q*3+1,none⟩=some (.int .u8 (d.letter:Int))/\w.cell? ⟨g,q*3+2,none⟩=some (.iface T x)/\xo_ w P s d.body (.iface T x)/\ZV ds xs d.body (.iface T x):=by
 obtain⟨c,h1,h2,h3,h4⟩:=h.V q d hq;obtain⟨T,x,rfl⟩:=h4.iface;have hz:ZV ds xs d.body (.iface T x):=⟨q,d,hq,rfl,h3⟩;have hm:=zsk h.row;subst hm;rw[bo_] at h1 h2 h3;exact⟨T,x,zs_ h.row rfl h1,zs_ h.row rfl h2,zs_ h.row rfl h3,h4,hz⟩
def zw0 (w:World) (P:Nat->Prop) (s:BA) (ds:List PD) (c:Nat) (e:Ending) (w':World):Prop:=
 ∃ v,e=.returned v/\Fr w w' (λ _=>False)/\match za_ ds c with|none=>v=.nilIface|some b=>xo_ w' P s b v
def z0p (w:World) (P:Nat->Prop) (s:BA) (ds:List PD) (xs:List Value) (c:Nat) (e:Ending) (w':World):Prop:=
 ∃ v,e=.returned v/\Fr w w' (λ _=>False)/\match za_ ds c with|none=>v=.nilIface|some b=>xo_ w' P s b v/\ZV ds xs b v
theorem zkq (c:Nat) (D:DRow w P s ds sv xs) :
 Calls prog 103 #[.agg #[sv,rv],.int .u8 (c:Int)] w (z0p w P s ds xs c):=by
 refine hq_ λ POST Q_=>?_;obtain⟨sa,sc,rfl⟩:=zf_ D.row;have hl6:=D.len;have start:H_ (∃ q:Nat,Value.int .i64 0=.int .i64 (q:Int)/\q<=ds.length/\ds.length+1-q<=ds.length+1/\Fr w (w.alloc (.cells #[.slice sa ds.length sc,rv] 90)) (λ _=>False)/\za_ ds c=za_ (ds.drop q) c):=q_ ⟨0,rfl,aj_ _,by omega,(Fr.refl w _).alloc _,rfl⟩;replace D:=q_ D
 go_in
 go_wp2_with fail
 go_loopg [10] (ds.length+1) (λ m v W=>∃ q:Nat,v=.int .i64 (q:Int)/\q<=ds.length/\ds.length+1-q<=m/\Fr w W (λ _=>False)/\za_ ds c=za_ (ds.drop q) c)
 case atStart=>exact start.o
 case round=>
  clear start;obtain⟨q,rfl,hq,hm,hf,he⟩:=hrel
  by_cases hlt:q<ds.length
  ·have hlt':(q:Int)<(ds.length:Int):=by omega
   have hd:ds[q]?=some ds[q]:=am_ hlt;generalize ds[q]=d at hd;obtain⟨g,cap,hgc⟩:=zk_ D.o.row (by omega);cases hgc;have D1:=D.o.fr hf u_;obtain⟨T,x,c0,c1,c2,hb,hz⟩:=D1.cellz hd;replace hz:=q_ hz;have hb':=q_ (hb.fr ((Fr.refl wr (λ _=>False)).alloc (.cells #[.int .i64 (d.place:Int),.int .u8 (d.letter:Int),.iface T x] 204)) u_);rw[zqr hd] at he;replace D1:=q_ D1;replace hb:=q_ hb;replace hf:=q_ hf
   by_cases hc:d.letter=c
   ·rw[if_pos hc] at he;replace he:=q_ he;subst hc
    go_wp2_with fail
    try go_ret
    rw[Q_.o];refine⟨_,rfl,hf.o.alloc _,?_⟩;rw[he.o];exact⟨hb'.o,hz.o⟩
   ·rw[if_neg hc] at he;replace he:=q_ he
    have hc':((d.letter:Int)==(c:Int))=false:=by simp;omega
    go_wp2_with fail
    go_roundg (ds.length+1-(q+1))
    case measure=>omega
    case rel=>exact⟨q+1,rfl,hlt,l_,hf.o.alloc _,he.o⟩
  ·have hlt':¬ ((q:Int)<(ds.length:Int)):=by omega
   rw[bu_ (by omega),ztu] at he;replace he:=q_ he;replace hf:=q_ hf
   go_wp2_with fail
   try go_ret
   rw[Q_.o];refine⟨.nilIface,rfl,hf.o,?_⟩;rw[he.o]
theorem ju_ (c:Nat) (D:DRow w P s ds sv xs) :
 Calls prog 103 #[.agg #[sv,rv],.int .u8 (c:Int)] w (zw0 w P s ds c):=by
 refine(zkq (rv:=rv) c D).mono ?_;rintro e w' ⟨v,h1,h2,h3⟩;refine⟨v,h1,h2,?_⟩
 cases he:za_ ds c with
 | none=>rw[he] at h3;exact h3
 | some b=>rw[he] at h3;exact h3.1
open Go.RowKit
theorem jm_ (v:Value) (w:World):(Instr.typeAssert (.iface 244 v) 88 244 true).run prog w=.ok (.tuple #[v,.bool true]) w:=by kernel_rfl
theorem zg7 (w:World):(do pure (Value.tuple #[<- zeroValue 244,.bool false]):Sem Value).run prog w=.ok (.tuple #[.agg #[.int .i64 0],.bool false]) w:=by kernel_rfl
theorem zh_ (u:TypeId) (h:u≠244) (v:Value) (w:World):(Instr.typeAssert (.iface u v) 88 244 true).run prog w=.ok (.tuple #[.agg #[.int .i64 0],.bool false]) w:=by
 have e:(Instr.typeAssert (.iface u v) 88 244 true).run prog w=(if u=244 then (pure (Value.tuple #[v,.bool true]):Sem Value) else (do pure (Value.tuple #[<- zeroValue 244,.bool false]))).run prog w:=by kernel_rfl
 rw[e,if_neg h];exact zg7 w
theorem zau (v:Value) (w:World):(Instr.typeAssert (.iface 245 v) 88 245 true).run prog w=.ok (.tuple #[v,.bool true]) w:=by kernel_rfl
theorem zlz (w:World):(do pure (Value.tuple #[<- zeroValue 245,.bool false]):Sem Value).run prog w=.ok (.tuple #[.agg #[.int .i64 0],.bool false]) w:=by kernel_rfl
theorem zo_ (u:TypeId) (h:u≠245) (v:Value) (w:World):(Instr.typeAssert (.iface u v) 88 245 true).run prog w=.ok (.tuple #[.agg #[.int .i64 0],.bool false]) w:=by
 have e:(Instr.typeAssert (.iface u v) 88 245 true).run prog w=(if u=245 then (pure (Value.tuple #[v,.bool true]):Sem Value) else (do pure (Value.tuple #[<- zeroValue 245,.bool false]))).run prog w:=by kernel_rfl
 rw[e,if_neg h];exact zlz w
theorem zdh (v:Value) (w:World):(Instr.typeAssert (.iface 247 v) 88 247 true).run prog w=.ok (.tuple #[v,.bool true]) w:=by kernel_rfl
theorem zq2 (w:World):(do pure (Value.tuple #[<- zeroValue 247,.bool false]):Sem Value).run prog w=.ok (.tuple #[.agg #[.int .i64 0],.bool false]) w:=by kernel_rfl
theorem zz_ (u:TypeId) (h:u≠247) (v:Value) (w:World):(Instr.typeAssert (.iface u v) 88 247 true).run prog w=.ok (.tuple #[.agg #[.int .i64 0],.bool false]) w:=by
 have e:(Instr.typeAssert (.iface u v) 88 247 true).run prog w=(if u=247 then (pure (Value.tuple #[v,.bool true]):Sem Value) else (do pure (Value.tuple #[<- zeroValue 247,.bool false]))).run prog w:=by kernel_rfl
 rw[e,if_neg h];exact zq2 w
theorem zby (v:Value) (w:World):(Instr.typeAssert (.iface 249 v) 88 249 true).run prog w=.ok (.tuple #[v,.bool true]) w:=by kernel_rfl
theorem znp (w:World):(do pure (Value.tuple #[<- zeroValue 249,.bool false]):Sem Value).run prog w=.ok (.tuple #[.agg #[.int .i64 0],.bool false]) w:=by kernel_rfl
theorem zw_ (u:TypeId) (h:u≠249) (v:Value) (w:World):(Instr.typeAssert (.iface u v) 88 249 true).run prog w=.ok (.tuple #[.agg #[.int .i64 0],.bool false]) w:=by
 have e:(Instr.typeAssert (.iface u v) 88 249 true).run prog w=(if u=249 then (pure (Value.tuple #[v,.bool true]):Sem Value) else (do pure (Value.tuple #[<- zeroValue 249,.bool false]))).run prog w:=by kernel_rfl
 rw[e,if_neg h];exact znp w
theorem zbx (v:Value) (w:World):(Instr.typeAssert (.iface 250 v) 88 250 true).run prog w=.ok (.tuple #[v,.bool true]) w:=by kernel_rfl
theorem znn (w:World):(do pure (Value.tuple #[<- zeroValue 250,.bool false]):Sem Value).run prog w=.ok (.tuple #[.agg #[.int .i64 0],.bool false]) w:=by kernel_rfl
theorem z3_ (u:TypeId) (h:u≠250) (v:Value) (w:World):(Instr.typeAssert (.iface u v) 88 250 true).run prog w=.ok (.tuple #[.agg #[.int .i64 0],.bool false]) w:=by
 have e:(Instr.typeAssert (.iface u v) 88 250 true).run prog w=(if u=250 then (pure (Value.tuple #[v,.bool true]):Sem Value) else (do pure (Value.tuple #[<- zeroValue 250,.bool false]))).run prog w:=by kernel_rfl
 rw[e,if_neg h];exact znn w
theorem v2_ (v:Value) (w:World):(Instr.typeAssert (.iface 252 v) 88 252 true).run prog w=.ok (.tuple #[v,.bool true]) w:=by kernel_rfl
theorem znq (w:World):(do pure (Value.tuple #[<- zeroValue 252,.bool false]):Sem Value).run prog w=.ok (.tuple #[.agg #[.int .i64 0,.nilIface],.bool false]) w:=by kernel_rfl
theorem zy_ (u:TypeId) (h:u≠252) (v:Value) (w:World):(Instr.typeAssert (.iface u v) 88 252 true).run prog w=.ok (.tuple #[.agg #[.int .i64 0,.nilIface],.bool false]) w:=by
 have e:(Instr.typeAssert (.iface u v) 88 252 true).run prog w=(if u=252 then (pure (Value.tuple #[v,.bool true]):Sem Value) else (do pure (Value.tuple #[<- zeroValue 252,.bool false]))).run prog w:=by kernel_rfl
 rw[e,if_neg h];exact znq w
theorem jx_ (v:Value) (w:World):(Instr.typeAssert (.iface 254 v) 88 254 true).run prog w=.ok (.tuple #[v,.bool true]) w:=by kernel_rfl
theorem zq1 (w:World):(do pure (Value.tuple #[<- zeroValue 254,.bool false]):Sem Value).run prog w=.ok (.tuple #[.agg #[.int .i64 0,.nilIface],.bool false]) w:=by kernel_rfl
theorem yw_ (u:TypeId) (h:u≠254) (v:Value) (w:World):(Instr.typeAssert (.iface u v) 88 254 true).run prog w=.ok (.tuple #[.agg #[.int .i64 0,.nilIface],.bool false]) w:=by
 have e:(Instr.typeAssert (.iface u v) 88 254 true).run prog w=(if u=254 then (pure (Value.tuple #[v,.bool true]):Sem Value) else (do pure (Value.tuple #[<- zeroValue 254,.bool false]))).run prog w:=by kernel_rfl
 rw[e,if_neg h];exact zq1 w
theorem x1_ (v:Value) (w:World):(Instr.typeAssert (.iface 258 v) 88 258 true).run prog w=.ok (.tuple #[v,.bool true]) w:=by kernel_rfl
theorem zly (w:World):(do pure (Value.tuple #[<- zeroValue 258,.bool false]):Sem Value).run prog w=.ok (.tuple #[.agg #[.int .i64 0,.slice none 0 0],.bool false]) w:=by kernel_rfl
theorem ym_ (u:TypeId) (h:u≠258) (v:Value) (w:World):(Instr.typeAssert (.iface u v) 88 258 true).run prog w=.ok (.tuple #[.agg #[.int .i64 0,.slice none 0 0],.bool false]) w:=by
 have e:(Instr.typeAssert (.iface u v) 88 258 true).run prog w=(if u=258 then (pure (Value.tuple #[v,.bool true]):Sem Value) else (do pure (Value.tuple #[<- zeroValue 258,.bool false]))).run prog w:=by kernel_rfl
 rw[e,if_neg h];exact zly w
theorem v1_ (v:Value) (w:World):(Instr.typeAssert (.iface 261 v) 88 261 true).run prog w=.ok (.tuple #[v,.bool true]) w:=by kernel_rfl
theorem zno (w:World):(do pure (Value.tuple #[<- zeroValue 261,.bool false]):Sem Value).run prog w=.ok (.tuple #[.agg #[.int .i64 0,.int .u8 0],.bool false]) w:=by kernel_rfl
theorem jb_ (u:TypeId) (h:u≠261) (v:Value) (w:World):(Instr.typeAssert (.iface u v) 88 261 true).run prog w=.ok (.tuple #[.agg #[.int .i64 0,.int .u8 0],.bool false]) w:=by
 have e:(Instr.typeAssert (.iface u v) 88 261 true).run prog w=(if u=261 then (pure (Value.tuple #[v,.bool true]):Sem Value) else (do pure (Value.tuple #[<- zeroValue 261,.bool false]))).run prog w:=by kernel_rfl
 rw[e,if_neg h];exact zno w
theorem vh_ (v:Value) (w:World):(Instr.typeAssert (.iface 263 v) 88 263 true).run prog w=.ok (.tuple #[v,.bool true]) w:=by kernel_rfl
theorem zi7 (w:World):(do pure (Value.tuple #[<- zeroValue 263,.bool false]):Sem Value).run prog w=.ok (.tuple #[.agg #[.int .i64 0,.slice none 0 0],.bool false]) w:=by kernel_rfl
theorem yo_ (u:TypeId) (h:u≠263) (v:Value) (w:World):(Instr.typeAssert (.iface u v) 88 263 true).run prog w=.ok (.tuple #[.agg #[.int .i64 0,.slice none 0 0],.bool false]) w:=by
 have e:(Instr.typeAssert (.iface u v) 88 263 true).run prog w=(if u=263 then (pure (Value.tuple #[v,.bool true]):Sem Value) else (do pure (Value.tuple #[<- zeroValue 263,.bool false]))).run prog w:=by kernel_rfl
 rw[e,if_neg h];exact zi7 w
theorem zbz (v:Value) (w:World):(Instr.typeAssert (.iface 268 v) 88 268 true).run prog w=.ok (.tuple #[v,.bool true]) w:=by kernel_rfl
theorem znr (w:World):(do pure (Value.tuple #[<- zeroValue 268,.bool false]):Sem Value).run prog w=.ok (.tuple #[.agg #[.int .i64 0,.slice none 0 0,.pointer none],.bool false]) w:=by kernel_rfl
theorem zah (u:TypeId) (h:u≠268) (v:Value) (w:World):(Instr.typeAssert (.iface u v) 88 268 true).run prog w=.ok (.tuple #[.agg #[.int .i64 0,.slice none 0 0,.pointer none],.bool false]) w:=by
 have e:(Instr.typeAssert (.iface u v) 88 268 true).run prog w=(if u=268 then (pure (Value.tuple #[v,.bool true]):Sem Value) else (do pure (Value.tuple #[<- zeroValue 268,.bool false]))).run prog w:=by kernel_rfl
 rw[e,if_neg h];exact znr w
theorem zcm (v:Value) (w:World):(Instr.typeAssert (.iface 271 v) 88 271 true).run prog w=.ok (.tuple #[v,.bool true]) w:=by kernel_rfl
theorem zl0 (w:World):(do pure (Value.tuple #[<- zeroValue 271,.bool false]):Sem Value).run prog w=.ok (.tuple #[.agg #[.int .i64 0,.int .i64 0],.bool false]) w:=by kernel_rfl
theorem zhx (u:TypeId) (h:u≠271) (v:Value) (w:World):(Instr.typeAssert (.iface u v) 88 271 true).run prog w=.ok (.tuple #[.agg #[.int .i64 0,.int .i64 0],.bool false]) w:=by
 have e:(Instr.typeAssert (.iface u v) 88 271 true).run prog w=(if u=271 then (pure (Value.tuple #[v,.bool true]):Sem Value) else (do pure (Value.tuple #[<- zeroValue 271,.bool false]))).run prog w:=by kernel_rfl
 rw[e,if_neg h];exact zl0 w
open Go.RowKit
def y8_ (w:World) (cause:Value) (L:List Nat) (e:Ending) (w':World):Prop:=
 ∃ v,e=.returned v/\Fr w w' (λ _=>False)/\match L with | []=>v=.nilIface|x::_=>z9_ w' w.heap.size v (x:Int) cause
def ErrV (g:Nat) (w:World) (et:TypeId) (ex:Value):Prop:=w.cell? ⟨g,0,none⟩=some (.iface et ex)
theorem ErrV.fr (h:ErrV g w et ex) (hf:Fr w w' S) (hS:¬ S g):ErrV g w' et ex:=
 (World.cell?_of_block (a:=⟨g,0,none⟩) (hf.block _ (World.block_lt_of_cell? w ⟨g,0,none⟩ h) hS)).trans h
theorem vg_ (p:Int) (w:World) :
 Calls prog 104 #[.int .i64 p] w λ e w'=>e=.returned (.int .i64 p)/\w'=w:=by
 go_in
 go_wp2
 go_ret
 exact⟨rfl,rfl⟩
theorem jl_ (c:Nat):j1_ c≠252/\j1_ c≠254/\j1_ c≠258/\j1_ c≠261/\j1_ c≠263/\j1_ c≠268/\j1_ c≠271:=by
 unfold j1_
 repeat' split
 all_goals decide
def zgt (t:PT):Prop:=∀ (w:World) (P:Nat->Prop) (s:BA) (ds:List PD) (sv rv v:Value) (xs:List Value) (et:TypeId) (ex:Value),DRow w P s ds sv xs->TyV w P t v->ErrV 1 w et ex->
 Calls prog 106 #[.agg #[sv,rv],v] w (y8_ w (.iface et ex) (useF (za_ ds) (ya_ t)))
theorem zrk (c p:Nat) (hc:zu_ c=true):zgt (.leaf c p):=by
 intro w P s ds sv rv v xs et ex D hv hE;refine hq_ λ POST Q_=>?_;have hL:=q_ (show useF (za_ ds) (ya_ (.leaf c p))=[] by rw[ya_,if_pos hc];rfl)
 have hv':v=.iface (j1_ c) (.agg #[.int .i64 (p:Int)]):=by
  cases hv with
  | base _ _ h=>rfl
  | name _ _ h=>
   simp only[zu_,au_,beq_iff_eq] at hc;simp only[z0_,a9_,decide_eq_true_eq] at h;omega
 subst hv';clear hv D hE;obtain⟨u,hu⟩:∃ u,u=j1_ c:=⟨_,rfl⟩;rw[<- hu];have hn:=jl_ c;rw[<- hu] at hn;have a1:=zy_ u hn.1;have a2:=yw_ u hn.2.1;have a3:=ym_ u hn.2.2.1;have a4:=jb_ u hn.2.2.2.1;clear hu hn
 go_in
 go_wp2_with fail
 try go_ret
 rw[Q_.o];refine⟨.nilIface,rfl,(Fr.refl w _).alloc _,?_⟩;rw[hL.o]
theorem zri (c p:Nat) (t:PT) (ih:zgt t):zgt (.wrap c p t):=by
 intro w P s ds sv rv v xs et ex D hv hE;refine hq_ λ POST Q_=>?_
 obtain⟨v2,hv2,rfl⟩:∃ v2,TyV w P t v2/\v=.iface (zb7 c) (.agg #[.int .i64 (p:Int),v2]):=by
  cases hv with
  | wrap _ _ h=>exact⟨_,h,rfl⟩
 obtain⟨vT,vx,rfl⟩:=hv2.iface;obtain⟨sa,sc,rfl⟩:=zf_ D.row
 have hcall:H_ (∀ T,Calls prog 106 #[.agg #[.slice sa ds.length sc,rv],.iface vT vx] ((w.alloc (.cells #[.slice sa ds.length sc,rv] 90)).alloc (.cells #[.int .i64 (p:Int),.iface vT vx] T)) (y8_ ((w.alloc (.cells #[.slice sa ds.length sc,rv] 90)).alloc (.cells #[.int .i64 (p:Int),.iface vT vx] T)) (.iface et ex) (useF (za_ ds) (ya_ t)))):=q_ (λ T=>by
  have hf:Fr w ((w.alloc (.cells #[.slice sa ds.length sc,rv] 90)).alloc (.cells #[.int .i64 (p:Int),.iface vT vx] T)) (λ _=>False):=((Fr.refl w _).alloc _).alloc _
  exact ih _ P s ds _ _ _ _ _ _ (D.fr hf u_) (hv2.fr hf u_) (hE.fr hf id))
 clear D hv hE hv2 ih
 by_cases hc:c=91
 ·subst hc;simp only[zb7,if_true];have a1:=v2_
  go_in
  go_wp2_with (go_at_call 106;refine(hcall.o _).mono ?_;rintro e w2 ⟨v2,rfl,hf2,hm⟩;replace hf2:=q_ hf2;replace hm:=q_ hm)
  try go_ret
  rw[Q_.o];have hsz:=hf2.o.size;refine⟨v2,rfl,(((Fr.refl w (λ _=>False)).alloc _).alloc _).trans hf2.o u_,?_⟩;rw[ya_];have hm':=hm.o
  cases hL:useF (za_ ds) (ya_ t) with
  | nil=>rw[hL] at hm';exact hm'
  | cons x r=>rw[hL] at hm';exact hm'.less (by simp;omega)
 ·simp only[zb7,if_neg hc];have a1:=zy_ 254 (by decide);have a2:=jx_
  go_in
  go_wp2_with (go_at_call 106;refine(hcall.o _).mono ?_;rintro e w2 ⟨v2,rfl,hf2,hm⟩;replace hf2:=q_ hf2;replace hm:=q_ hm)
  try go_ret
  rw[Q_.o];have hsz:=hf2.o.size;refine⟨v2,rfl,(((Fr.refl w (λ _=>False)).alloc _).alloc _).trans hf2.o u_,?_⟩;rw[ya_];have hm':=hm.o
  cases hL:useF (za_ ds) (ya_ t) with
  | nil=>rw[hL] at hm';exact hm'
  | cons x r=>rw[hL] at hm';exact hm'.less (by simp;omega)
theorem zpe (c p:Nat) (hc:z0_ c=true):zgt (.leaf c p):=by
 intro w P s ds sv rv v xs et ex D hv hE;refine hq_ λ POST Q_=>?_
 have hnb:¬ zu_ c=true:=λ h=>by
  simp only[zu_,au_,beq_iff_eq] at h;simp only[z0_,a9_,decide_eq_true_eq] at hc;omega
 have hv':v=.iface 261 (.agg #[.int .i64 (p:Int),.int .u8 (c:Int)]):=by
  cases hv with
  | base _ _ h=>exact absurd h hnb
  | name _ _ h=>rfl
 subst hv';obtain⟨sa,sc,rfl⟩:=zf_ D.row
 have hL:=q_ (show useF (za_ ds) (ya_ (.leaf c p))=if (za_ ds c).isNone=true then [p] else [] by
  rw[ya_,if_neg hnb];unfold useF;rw[List.filter_cons];split<;>rfl)
 have hf0:Fr w ((w.alloc (.cells #[.slice sa ds.length sc,rv] 90)).alloc (.cells #[.int .i64 (p:Int),.int .u8 (c:Int)] 261)) (λ _=>False):=((Fr.refl w _).alloc _).alloc _;have hC:=q_ (ju_ (rv:=rv) c (D.fr hf0 u_));have hE0:=hE.fr hf0 id;have hN0:=Blk.new (w.alloc (.cells #[.slice sa ds.length sc,rv] 90)) #[.int .i64 (p:Int),.int .u8 (c:Int)] 261
 have hz:(w.alloc (.cells #[.slice sa ds.length sc,rv] 90)).heap.size=w.heap.size+1:=by simp
 rw[hz] at hN0;replace hf0:=q_ hf0;replace hE0:=q_ hE0;replace hN0:=q_ hN0;clear hv D hE hnb hz;have a1:=zy_ 261 (by decide);have a2:=yw_ 261 (by decide);have a3:=ym_ 261 (by decide);have a4:=v1_
 cases he:za_ ds c with
 | some b=>
  rw[he] at hL;replace he:=q_ he
  go_in
  go_wp2_with (go_at_call 103;refine hC.o.mono ?_;rintro e w2 ⟨v2,rfl,hf2,hm⟩;rw[he.o] at hm;obtain⟨bT,bx,rfl⟩:=hm.iface;replace hf2:=q_ hf2;clear hm)
  try go_ret
  rw[Q_.o];refine⟨.nilIface,rfl,hf0.o.trans hf2.o u_,?_⟩;rw[hL.o]
  rfl
 | none=>
  rw[he] at hL;replace he:=q_ he
  go_in
  go_wp2_with (go_at_call 103;refine hC.o.mono ?_;rintro e w2 ⟨v2,rfl,hf2,hm⟩;rw[he.o] at hm;replace hm:v2=.nilIface:=hm;subst hm;have n0:=(hf2.blk hN0.o id).c0;have e0:=hE0.o.fr hf2 id;replace hf2:=q_ hf2;replace e0:_=_:=e0)
  refine yp_ 7 (λ W=>W.cell? ⟨w.heap.size+1,0,none⟩=some (.int .i64 (p:Int))/\W.cell? ⟨1,0,none⟩=some (.iface et ex)) (by kernel_rfl) ?_;refine ta_ 0 rfl (by kernel_rfl) (λ _ _ _ h=>h) (by rintro W ⟨h1,h2⟩;go_simp<;>rfl) ?_;refine ta_ 1 rfl (by kernel_rfl) (λ _ _ _ h=>h) (by rintro W ⟨h1,h2⟩;go_simp<;>rfl) ?_;refine ta_ 3 rfl (by kernel_rfl) (λ _ _ _ h=>h) (by rintro W ⟨h1,h2⟩;go_simp<;>rfl) ?_;refine zg_ 2 rfl (by kernel_rfl) (λ _=>⟨n0,e0⟩) (λ K hK=>?_);go_simp;refine(vg_ (p:Int) _).mono ?_;rintro e w' ⟨rfl,rfl⟩;refine hK _ _ ?_;clear hK K;refine ta_ 4 rfl (by kernel_rfl) (λ _ _ _ h=>h) (by rintro W ⟨h1,h2⟩;go_simp<;>rfl) ?_;refine zg_ 5 rfl (by kernel_rfl) (λ _=>⟨n0,e0⟩) (λ K hK=>?_);go_simp;refine hK _ _ ?_;clear hK K;have hAL:∀ {a:Addr} {x:Value},w2.cell? a=some x->(w2.drew.alloc (.cells #[.int .i64 (p:Int),.iface et ex] 212)).cell? a=some x:=@λ a x h=>(World.cell?_alloc_lt (w2.drew) _ a (by exact World.block_lt_of_cell? w2 a h)).trans h;refine zg_ 6 rfl (by kernel_rfl) (λ _=>⟨hAL n0,hAL e0⟩) (λ K hK=>?_);go_simp;refine hK _ _ ?_;clear hK K;refine zg_ 7 rfl (by kernel_rfl) (λ _=>⟨hAL n0,hAL e0⟩) (λ K hK=>?_);go_simp;refine hK _ _ ?_;clear hK K;refine yc_ (by kernel_rfl) (λ hm=>absurd hm (by decide)) ?_ _
  go_wp2_with fail
  try go_ret
  rw[Q_.o];have hsz:=(hf0.o.trans hf2.o u_).size;refine⟨_,rfl,((hf0.o.trans hf2.o u_).alloc _).drew,?_⟩;rw[hL.o];exact⟨w2.heap.size,hsz,rfl,(Blk.new w2 _ _).drew⟩
open Go.RowKit
theorem zjo {l:List PT}(h:l[q]?=some t):xf_ (l.drop q)=ya_ t++xf_ (l.drop (q+1)):=by
 have hl:=(ao_.1 h).1;rw[bh_ hl,xf_,(ao_.1 h).2]
theorem zgi {l:List PT}{X:Nat->Value}(ho:w.ownsRow 0 88 1 (.slice (some ⟨g,0,none⟩) m cap) l.length ((List.range l.length).map X)) (h:∀ i t,l[i]?=some t->TyV w P t (X i))(hq:l[q]?=some t) :
 ∃ T x,w.cell? ⟨g,q,none⟩=some (.iface T x)/\TyV w P t (.iface T x):=by
 have ht:=h q t hq;obtain⟨T,x,e⟩:=ht.iface;have hl:=(ao_.1 hq).1;have hm:=zsk ho;subst hm;refine⟨T,x,zs_ ho rfl ?_,e▸ht⟩;rw[a4_,List.getElem?_range hl,a2_,e]
theorem zrl (p:Nat) (l:List PT) (hln:l.length<=300) (ih:∀ t∈l,zgt t):zgt (.alts p l):=by
 intro w P s ds sv rv v xs et ex D hv hE;refine hq_ λ POST Q_=>?_
 obtain⟨X,v2,ho,hP,hX,rfl⟩:∃ X v2,w.ownsRow 0 88 1 v2 l.length ((List.range l.length).map X)/\(∀ g,v2.ownBlock=some g->P g)/\(∀ i t,l[i]?=some t->TyV w P t (X i))/\v=.iface 258 (.agg #[.int .i64 (p:Int),v2]):=by
  cases hv with
  | alts _ X ho hP h=>exact⟨X,_,ho,hP,h,rfl⟩
 clear hv;obtain⟨sa,sc,rfl⟩:=zf_ D.row;obtain⟨ba,bc,rfl⟩:=zf_ ho;obtain⟨w0,hw0⟩:∃ W,W=(w.alloc (.cells #[.slice sa ds.length sc,rv] 90)).alloc (.cells #[.int .i64 (p:Int),.slice ba l.length bc] 258):=⟨_,rfl⟩
 have hf0:Fr w w0 (λ _=>False):=by rw[hw0];exact((Fr.refl w _).alloc _).alloc _
 have hS0:Blk w0 w.heap.size [.slice sa ds.length sc,rv] 90:=by rw[hw0];exact(Blk.new w #[.slice sa ds.length sc,rv] 90).alloc _
 have D0:=q_ (D.fr hf0 u_);have hE0:=q_ (hE.fr hf0 id);have ho0:=q_ (zb_ ho hf0 u_);have hX0:=q_ (λ i t e=>(hX i t e).fr hf0 u_);replace hS0:=q_ hS0;replace hf0:=q_ hf0;clear D hE ho hX;have start:H_ (∃ q:Nat,Value.int .i64 0=.int .i64 (q:Int)/\q<=l.length/\l.length+1-q<=l.length+1/\Fr w0 w0 (λ _=>False)/\useF (za_ ds) (ya_ (.alts p l))=useF (za_ ds) (xf_ (l.drop q))):=q_ ⟨0,rfl,aj_ _,by omega,Fr.refl _ _,by rw[ya_];rfl⟩;have a1:=zy_ 258 (by decide);have a2:=yw_ 258 (by decide);have a3:=x1_;replace ih:=q_ ih
 go_in
 go_wp2_with fail
 rw[<- hw0];clear a1 a2 a3
 go_loopg [33] (l.length+1) (λ m v W=>∃ q:Nat,v=.int .i64 (q:Int)/\q<=l.length/\l.length+1-q<=m/\Fr w0 W (λ _=>False)/\useF (za_ ds) (ya_ (.alts p l))=useF (za_ ds) (xf_ (l.drop q)))
 case atStart=>exact start.o
 case round=>
  clear start hw0;obtain⟨q,rfl,hq,hm,hf,he⟩:=hrel;have hS:=hf.blk hS0.o id;have s0:=hS.c0;have s1:=hS.c1
  by_cases hlt:q<l.length
  ·have hlt':(q:Int)<(l.length:Int):=by omega
   have hd:l[q]?=some l[q]:=am_ hlt;have hmem:l[q]∈l:=bd_ hlt;generalize l[q]=t at hd hmem;obtain⟨g,cap,hgc⟩:=zk_ ho0.o (by omega);cases hgc;obtain⟨T,x,c0,hT⟩:=zgi (zb_ ho0.o hf u_) (λ i t e=>(hX0.o i t e).fr hf u_) hd;have hC:=q_ (ih.o t hmem wr P s ds (.slice sa ds.length sc) rv (.iface T x) xs et ex (D0.o.fr hf u_) hT (hE0.o.fr hf id));rw[zjo hd,zai] at he;replace hf:=q_ hf;clear hT
   cases hu:useF (za_ ds) (ya_ t) with
   | nil=>
    rw[hu,bp_] at he;replace he:=q_ he;replace hu:=q_ hu
    go_wp2_with (go_at_call 106;refine hC.o.mono ?_;rintro e w2 ⟨v2,rfl,hf2,hm2⟩;rw[hu.o] at hm2;replace hm2:v2=.nilIface:=hm2;subst hm2;replace hf2:=q_ hf2)
    go_roundg (l.length+1-(q+1))
    case measure=>omega
    case rel=>exact⟨q+1,rfl,hlt,l_,hf.o.trans hf2.o u_,he.o⟩
   | cons y r=>
    rw[hu,bn_] at he;replace he:=q_ he;replace hu:=q_ hu
    go_wp2_with (go_at_call 106;refine hC.o.mono ?_;rintro e w2 ⟨v2,rfl,hf2,hm2⟩;rw[hu.o] at hm2;obtain⟨g2,hg1,rfl,hg2⟩:=hm2;replace hf2:=q_ hf2;replace hg2:=q_ hg2)
    try go_ret
    rw[Q_.o];have hsz:=(hf0.o.trans hf.o u_).size;refine⟨_,rfl,(hf0.o.trans hf.o u_).trans hf2.o u_,?_⟩;rw[he.o];exact⟨g2,by omega,rfl,hg2.o⟩
  ·have hlt':¬ ((q:Int)<(l.length:Int)):=by omega
   rw[bu_ (by omega),xf_] at he;replace he:=q_ he;replace hf:=q_ hf
   go_wp2_with fail
   try go_ret
   rw[Q_.o];refine⟨.nilIface,rfl,hf0.o.trans hf.o u_,?_⟩;rw[he.o]
   rfl
def fewB:PT->Prop
 | .leaf c _=>zu_ c=true\/z0_ c=true
 | .wrap _ _ t=>fewB t
 | .alts _ ts=>ts.length<=300/\∀ t∈ts,fewB t
theorem zrj:∀ (n:Nat) (t:PT),SizeOf.sizeOf t<=n->fewB t->zgt t:=by
 intro n
 induction n with
 | zero=>intro t h;cases t<;>simp at h
 | succ n ih=>
  intro t h hb
  cases t with
  | leaf c p=>
   unfold fewB at hb
   rcases hb with hb|hb
   ·exact zrk c p hb
   ·exact zpe c p hb
  | wrap c p t=>
   unfold fewB at hb;exact zri c p t (ih t (by simp at h;omega) hb)
  | alts p ts=>
   unfold fewB at hb;exact zrl p ts hb.1 (λ t ht=>ih t (by have:=List.sizeOf_lt_of_mem ht;simp at h;omega) (hb.2 t ht))
theorem z01 (s:BA) (hs:s.size<=300) (f:Nat) :
 (∀ i t j,i<=s.size->pTyp s f i=.ok (t,j)->fewB t)/\(∀ i ts j,i<=s.size->vd_ s f i=.ok (ts,j)->i+ts.length<=j/\∀ t∈ts,fewB t):=by
 induction f with
 | zero=>exact⟨λ i t j _ h=>by simp[pTyp] at h,λ i t j _ h=>by simp[vd_] at h⟩
 | succ f ih=>
  obtain⟨ihT,ihA⟩:=ih;have hbT:=(ze5 s f).1;have hbA:=(ze5 s f).2;refine⟨λ i t j hi h=>?_,λ i t j hi h=>?_⟩
  ·rw[zac] at h;unfold zdk at h;split at h
   ·rename_i hb;simp only[af_,ab_] at h;obtain⟨rfl,rfl⟩:=h;unfold fewB;exact .inl hb
   ·split at h
    ·rename_i hb;have hl:=zl_ (s:=s) (i:=i) (by omega)
     cases hp:pTyp s f (i+1) with
     | error k=>rw[hp] at h;simp at h
     | ok r=>
      obtain⟨t',j'⟩:=r;rw[hp] at h;simp only at h;split at h
      ·simp only[af_,ab_] at h;obtain⟨rfl,rfl⟩:=h;unfold fewB;exact ihT _ _ _ (by omega) hp
      ·simp at h
    ·split at h
     ·rename_i hb;have hl:=zl_ (s:=s) (i:=i) (by omega)
      cases hp:vd_ s f (i+1) with
      | error k=>rw[hp] at h;simp at h
      | ok r=>
       obtain⟨t',j'⟩:=r;rw[hp] at h;simp only at h;split at h
       ·simp only[af_,ab_] at h;obtain⟨rfl,rfl⟩:=h;have h1:=ihA _ _ _ (by omega) hp;have h2:=(hbA (i+1) (by omega)).1 _ _ hp;unfold fewB;exact⟨by omega,h1.2⟩
       ·simp at h
     ·split at h
      ·rename_i hb;simp only[af_,ab_] at h;obtain⟨rfl,rfl⟩:=h;unfold fewB;exact .inr hb
      ·simp at h
  ·rw[jo_] at h;unfold zh7 at h
   cases hp:pTyp s f i with
   | error k=>rw[hp] at h;simp at h
   | ok r=>
    obtain⟨t',j'⟩:=r;rw[hp] at h;have h1:=ihT _ _ _ hi hp;have h2:=(hbT i hi).1 _ _ hp;simp only at h;split at h
    ·rename_i h44;have hl:=zl_ (s:=s) (i:=j') (by omega)
     cases hq:vd_ s f (j'+1) with
     | error k=>rw[hq] at h;simp at h
     | ok r=>
      obtain⟨ts,k⟩:=r;rw[hq] at h;simp only[af_,ab_] at h;obtain⟨rfl,rfl⟩:=h;obtain⟨g1,g2⟩:=ihA _ _ _ (by omega) hq;refine⟨by simp;omega,λ u hu=>?_⟩
      rcases an_.1 hu with rfl|hu
      ·exact h1
      ·exact g2 u hu
    ·simp only[af_,ab_] at h;obtain⟨rfl,rfl⟩:=h;exact⟨by simp;omega,λ u hu=>by rw[a6_] at hu;subst hu;exact h1⟩
theorem zxa (hs:s.size<=300){i:Nat}{j:Nat}(hi:i<=s.size) (h:pT s i=.ok (t,j)):fewB t:=(z01 s hs _).1 i t j hi h
open Go.RowKit
def vw_ (w:World) (b:Nat) (seen:List Nat):Prop:=
 ∃ cs,Blk w b cs 346/\cs.length=26/\∀ k,k<26->cs[k]?=some (.bool (decide (97+k∈seen)))
theorem vw_.fr (h:vw_ w b seen) (hf:Fr w w' S) (hS:¬ S b):vw_ w' b seen:=by
 obtain⟨cs,h1,h2⟩:=h;exact⟨cs,hf.blk h1 hS,h2⟩
theorem vw_.same {l m:List Nat}(h:vw_ w b l) (e:∀ x,x∈l↔x∈m):vw_ w b m:=by
 obtain⟨cs,h1,h2,h3⟩:=h;refine⟨cs,h1,h2,λ k hk=>?_⟩;rw[h3 k hk];simp only[e]
theorem vw_.add {k:Nat}(h:vw_ w b seen) (hk:k<26):vw_ (w.setCell ⟨b,k,none⟩ (.bool true)) b (seen++[97+k]):=by
 obtain⟨cs,h1,h2,h3⟩:=h;refine⟨cs.set k (.bool true),h1.set k _,by simpa using h2,λ q hq=>?_⟩
 by_cases e:q=k
 ·subst e;rw[List.getElem?_set_self (by omega)]
  simp
 ·rw[b7_ (Ne.symm e),h3 q hq]
  simp[e]
theorem zb9 (h:zn_ x=true):∃ k,x=97+k/\k<26:=by
 simp only[zn_,a9_,decide_eq_true_eq] at h;exact⟨x-97,by omega,by omega⟩
theorem zol (h:vw_ w b seen) (hx:zn_ x=true) :
 Calls prog 210 #[.pointer (some ⟨b,0,none⟩),.agg #[.int .i64 p,.int .u8 (x:Int)]] w λ e w'=>e=.returned (.bool (decide (x∈seen)))/\Fr w w' (λ _=>False):=by
 refine hq_ λ POST Q_=>?_;obtain⟨k,hk,hk26⟩:=zb9 hx
 have hwp:IntKind.u8.wrap ((x:Int)-97)=(k:Int):=by rw[IntKind.wrap_u8];omega
 have c0:(w.alloc (.cells #[.int .i64 p,.int .u8 (x:Int)] 217)).cell? ⟨b,k,none⟩=some (.bool (decide (x∈seen))):=by
  obtain⟨cs,h1,h2,h3⟩:=h;rw[(h1.alloc _).cell k,h3 k hk26,hk]
 have hb:b<(w.alloc (.cells #[.int .i64 p,.int .u8 (x:Int)] 217)).heap.size:=World.block_lt_of_cell? _ ⟨b,k,none⟩ c0
 have hk':(k:Int)<26:=by omega
 clear h hx hk
 go_in
 go_wp2_with fail
 go_quiet (fail)
 go_wp2_with fail
 try go_ret
 rw[Q_.o];exact⟨rfl,((Fr.refl w _).alloc _).still (ze_.drewN _ _)⟩
theorem zom (h:vw_ w b seen) (hx:zn_ x=true) :
 Calls prog 209 #[.pointer (some ⟨b,0,none⟩),.agg #[.int .i64 p,.int .u8 (x:Int)]] w λ e w'=>e=.returned (.bool (!decide (x∈seen)))/\Fr w w' (λ g=>g=b)/\vw_ w' b (seen++[x]):=by
 refine hq_ λ POST Q_=>?_;obtain⟨k,hk,hk26⟩:=zb9 hx
 have hwp:IntKind.u8.wrap ((x:Int)-97)=(k:Int):=by rw[IntKind.wrap_u8];omega
 have hk':(k:Int)<26:=by omega
 have h0:=h.fr ((Fr.refl w (λ _=>False)).alloc (.cells #[.int .i64 p,.int .u8 (x:Int)] 217)) id;have hC:=q_ (zol (p:=p) h0 hx);have hN:=Blk.new w #[.int .i64 p,.int .u8 (x:Int)] 217
 have hbw:b<w.heap.size:=by obtain⟨cs,h1,_⟩:=h;exact h1.lt
 replace h0:=q_ h0;replace hN:=q_ hN;replace hk:=q_ hk;clear h hx
 by_cases hm:x∈seen
 ·have hd:=q_ (show decide (x∈seen)=true from decide_eq_true hm);replace hm:=q_ hm
  go_in
  go_wp2_with (go_at_call 210;refine hC.o.mono ?_;rintro e w1 ⟨rfl,hf1⟩;rw[hd.o];replace hf1:=q_ hf1)
  try go_ret
  rw[Q_.o];refine⟨by rw[hd.o];rfl,(((Fr.refl w _).alloc _).trans hf1.o v_),(h0.o.fr hf1.o id).same (λ y=>?_)⟩;rw[bj_,a6_];exact⟨λ q=>.inl q,λ q=>by rcases q with q|rfl;exact q;exact hm.o⟩
 ·have hd:=q_ (show decide (x∈seen)=false from decide_eq_false hm)
  go_in
  go_wp2_with (go_at_call 210;refine hC.o.mono ?_;rintro e w1 ⟨rfl,hf1⟩;rw[hd.o];have n1:=(hf1.blk hN.o id).c1;have S1:=h0.o.fr hf1 id;have hz1:=hf1.size;replace hf1:=q_ hf1)
  have cb:w1.cell? ⟨b,k,none⟩=some (.bool (decide (97+k∈seen))):=by obtain⟨cs,g1,g2,g3⟩:=S1;rw[g1.cell k,g3 k hk26]
  have fb:w1.frozen? ⟨b,k,none⟩=false:=by obtain⟨cs,g1,g2,g3⟩:=S1;exact g1.thaw k
  have SA:=q_ (S1.add hk26);replace S1:=q_ S1;refine yp_ 6 (λ W=>W.cell? ⟨w.heap.size,1,none⟩=some (.int .u8 (x:Int))) (by kernel_rfl) ?_;refine ta_ 0 rfl (by kernel_rfl) (λ _ _ _ h=>h) (by intro W h1;go_simp<;>rfl) ?_;refine ta_ 1 rfl (by kernel_rfl) (λ _ _ _ h=>h) (by intro W h1;go_simp<;>rfl) ?_;refine ta_ 2 rfl (by kernel_rfl) (λ _ _ _ h=>h) (by intro W h1;go_simp<;>rfl) ?_;refine ta_ 3 rfl (by kernel_rfl) (λ _ _ _ h=>h) (by intro W h1;go_simp<;>rfl) ?_;refine zg_ 4 rfl (by kernel_rfl) (λ _=>n1) (λ K hK=>?_);go_simp;refine hK _ _ ?_;clear hK K;refine zg_ 5 rfl (by kernel_rfl) (λ _=>n1) (λ K hK=>?_);go_simp;refine hK _ _ ?_;clear hK K;refine zg_ 6 rfl (by kernel_rfl) (λ _=>n1) (λ K hK=>?_);go_simp;refine hK _ _ ?_;clear hK K;refine yc_ (by kernel_rfl) (λ hm=>absurd hm (by decide)) ?_ _
  go_wp2_with fail
  try go_ret
  rw[Q_.o];rw[hk.o] at hd⊢;refine⟨by rw[hd.o];rfl,?_,?_⟩
  ·exact((((Fr.refl w _).alloc _).trans hf1.o v_).drew).setCell _ _ (λ _=>rfl)
  ·exact SA.o
open Go.RowKit
def zkh:Array Value:=(List.replicate 26 (Value.bool false)).toArray
theorem zoe (w:World):vw_ (w.alloc (.cells zkh 346)) w.heap.size []:=by
 refine⟨List.replicate 26 (Value.bool false),Blk.new w zkh _,by simp,λ k hk=>?_⟩;rw[List.getElem?_replicate,if_pos hk]
 simp
theorem zkg:(#[.bool false,.bool false,.bool false,.bool false,.bool false,.bool false,.bool false,.bool false,.bool false,.bool false,.bool false,.bool false,.bool false,.bool false,.bool false,.bool false,.bool false,.bool false,.bool false,.bool false,.bool false,.bool false,.bool false,.bool false,.bool false,.bool false]:Array Value)=zkh:=rfl
structure vj_ (w:World) (P:Nat->Prop) (s:BA) (fs:List PF) (fv:Value) (ys:List Value):Prop where
 row:w.ownsRow 0 220 4 fv fs.length ys
 off:∀ g,fv.ownBlock=some g->P g
 V:vi_ w P s fs ys
theorem vj_.fr (h:vj_ w P s fs sv xs) (hf:Fr w w' S) (hS:∀ g,P g->¬ S g):vj_ w' P s fs sv xs:=
 ⟨zb_ h.row hf (λ g hg=>hS g (h.off g hg)),h.off,h.V.fr hf hS⟩
theorem vj_.cells (h:vj_ w P s fs (.slice (some ⟨g,0,none⟩) m cap) xs)(hq:fs[q]?=some f) :
 ∃ T x d,w.cell? ⟨g,q*4,none⟩=some (.int .i64 (f.place:Int))/\w.cell? ⟨g,q*4+1,none⟩=some (.int .u8 (f.letter:Int))/\w.cell? ⟨g,q*4+2,none⟩=some (.iface T x)/\w.cell? ⟨g,q*4+3,none⟩=some (.pointer d)/\TyV w P f.ty (.iface T x)/\DfV w P s f.dflt (.pointer d):=by
 obtain⟨a,b,c,d,h1,h2,h3,h4,rfl,rfl,hT,hD⟩:=h.V q f hq;obtain⟨T,x,rfl⟩:=hT.iface
 obtain⟨d',rfl⟩:∃ d',d=.pointer d':=by
  unfold DfV at hD;split at hD
  ·exact⟨_,hD⟩
  ·obtain⟨g',x',_,e,_⟩:=hD;exact⟨_,e⟩
 have hm:=zsk h.row;subst hm;rw[bo_] at h1 h2 h3 h4;exact⟨T,x,d',zs_ h.row rfl h1,zs_ h.row rfl h2,zs_ h.row rfl h3,zs_ h.row rfl h4,hT,hD⟩
theorem zts {env:Nat->Option PB}(h:fs[q]?=some f) (seen:List Nat):fldF env seen (fs.drop q)=(if f.letter∈seen then [f.place] else [])++(useF env (ya_ f.ty)++fldF env (seen++[f.letter]) (fs.drop (q+1))):=by
 have hl:=(ao_.1 h).1;rw[bh_ hl,fldF,(ao_.1 h).2]
theorem zjt (h:fs[q]?=some f):(fs.take (q+1)).map PF.letter=(fs.take q).map PF.letter++[f.letter]:=by
 rw[ba_,h];simp
def z0w (w0:World) (bS:Nat) (env:Nat->Option PB) (fs:List PF) (m:Nat) (v:Value) (W:World):Prop:=
 ∃ q:Nat,v=.int .i64 (q:Int)/\q<=fs.length/\fs.length+1-q<=m/\Fr w0 W (λ g=>g=bS)/\vw_ W bS ((fs.take q).map PF.letter)/\fldF env [] fs=fldF env ((fs.take q).map PF.letter) (fs.drop q)
theorem zeq {fv:Value}{ys:List Value}(D:DRow w P s ds sv xs) (F:vj_ w P s fs fv ys) (hE:ErrV 1 w et ex) (hl:fs.length<=300) (hsm:∀ f∈fs,zn_ f.letter=true) (hfew:∀ f∈fs,fewB f.ty) (hPw:∀ g,P g->g<w.heap.size) :
 Calls prog 159 #[.agg #[sv,rv],.agg #[.int .i64 p,fv]] w (y8_ w (.iface et ex) (fldF (za_ ds) [] fs)):=by
 refine hq_ λ POST Q_=>?_;obtain⟨sa,sc,rfl⟩:=zf_ D.row;obtain⟨fa,fc,rfl⟩:=zf_ F.row;have hgE:=World.block_lt_of_cell? w ⟨1,0,none⟩ hE;obtain⟨wA,hwA⟩:∃ W,W=(w.alloc (.cells #[.slice sa ds.length sc,rv] 90)).alloc (.cells #[.int .i64 p,.slice fa fs.length fc] 263):=⟨_,rfl⟩
 have hzA:wA.heap.size=w.heap.size+2:=by rw[hwA];simp
 have hfA:Fr w wA (λ _=>False):=by rw[hwA];exact((Fr.refl w _).alloc _).alloc _
 have hSA:Blk wA w.heap.size [.slice sa ds.length sc,rv] 90:=by rw[hwA];exact(Blk.new w #[.slice sa ds.length sc,rv] 90).alloc _
 obtain⟨w0,hw0⟩:∃ W,W=wA.alloc (.cells zkh 346):=⟨_,rfl⟩
 have hf0:Fr w w0 (λ _=>False):=by rw[hw0];exact hfA.alloc _
 have hS0:Blk w0 w.heap.size [.slice sa ds.length sc,rv] 90:=by rw[hw0];exact hSA.alloc _
 have hN0:vw_ w0 (w.heap.size+2) []:=by rw[hw0,<- hzA];exact zoe wA
 have hz0:w0.heap.size=w.heap.size+3:=by rw[hw0];simp[hzA]
 have D0:=q_ (D.fr hf0 u_);have F0:=q_ (F.fr hf0 u_);have hE0:=q_ (hE.fr hf0 id);have start:H_ (z0w w0 (w.heap.size+2) (za_ ds) fs (fs.length+1) (.int .i64 0) w0):=q_ ⟨0,rfl,aj_ _,by omega,Fr.refl _ _,hN0,rfl⟩;replace hS0:=q_ hS0;replace hf0:=q_ hf0
 have hgE':1≠w.heap.size+2:=by omega
 have hPw:=q_ hPw;clear D F hE hN0 hzA hfA hSA hgE
 go_in
 go_wp2_with fail
 rw[zkg,<- hwA,<- hw0];clear hwA hw0
 go_loopg [12] (fs.length+1) (λ m v W=>z0w w0 (w.heap.size+2) (za_ ds) fs m v W)
 case atStart=>exact start.o
 case round=>
  clear start;obtain⟨q,rfl,hq,hm,hf,hseen,he⟩:=hrel;have hsz:=hf.size;have hS:=hf.blk hS0.o (by omega)
  by_cases hlt:q<fs.length
  ·have hlt':(q:Int)<(fs.length:Int):=by omega
   have hd:fs[q]?=some fs[q]:=am_ hlt;have hmem:fs[q]∈fs:=bd_ hlt;generalize fs[q]=f at hd hmem;have hfsm:=hsm f hmem;obtain⟨g,cap,hgc⟩:=zk_ F0.o.row (by omega);cases hgc
   have hoff:∀ g,P g->¬ g=w.heap.size+2:=λ g hg=>by have:=hPw.o g hg;omega
   obtain⟨T,x,d,c0,c1,c2,c3,hT,hDf⟩:=(F0.o.fr hf hoff).cells hd;obtain⟨l,hl0⟩:∃ l,f.letter=l:=⟨_,rfl⟩;obtain⟨pl,hpl⟩:∃ p,f.place=p:=⟨_,rfl⟩;obtain⟨ty,hty⟩:∃ t,f.ty=t:=⟨_,rfl⟩;have hfw:=hfew f hmem;rw[zts hd] at he;have htk:=zjt hd;rw[hl0] at hfsm c1 he htk;rw[hpl] at c0 he;rw[hty] at hT he hfw;have A1:=(Fr.refl wr (λ _=>False)).alloc (.cells #[.int .i64 (pl:Int),.int .u8 (l:Int),.iface T x,.pointer d] 220);have N1:=Blk.new wr #[.int .i64 (pl:Int),.int .u8 (l:Int),.iface T x,.pointer d] 220
   have hz1:(wr.alloc (.cells #[.int .i64 (pl:Int),.int .u8 (l:Int),.iface T x,.pointer d] 220)).heap.size=wr.heap.size+1:=by simp
   have hCa:=q_ (zom (p:=(pl:Int)) (hseen.fr A1 id) hfsm);have hT1:=hT.fr A1 u_;have D1:=(D0.o.fr hf hoff).fr A1 u_;have E1:=(hE0.o.fr hf hgE').fr A1 id;have S1:=A1.blk hS id;have hFw:=q_ ((hf0.o.trans hf (λ y hy e=>by omega)).trans A1 u_);have hf1:=q_ (hf.trans A1 v_);replace hT1:=q_ hT1;replace D1:=q_ D1;replace E1:=q_ E1;replace S1:=q_ S1;replace N1:=q_ N1;replace hz1:=q_ hz1;replace hfw:=q_ hfw;clear hT hDf A1 hl0 hpl hty hS hf hseen hfsm hoff;obtain⟨seen,hseen⟩:∃ l,(fs.take q).map PF.letter=l:=⟨_,rfl⟩;rw[hseen] at he htk hCa;clear hseen
   by_cases hdup:l∈seen
   ·have hd1:=q_ (show(!decide (l∈seen))=false by rw[decide_eq_true hdup];rfl);rw[if_pos hdup] at he;replace he:=q_ he
    go_wp2_with (go_at_call 209;refine hCa.o.mono ?_;rintro e w2 ⟨rfl,hf2,hS2⟩;rw[hd1.o];have n0:=(hf2.blk N1.o (by omega)).c0;have e0:=E1.o.fr hf2 hgE';replace hf2:=q_ hf2;replace e0:_=_:=e0;clear hS2)
    refine yp_ 8 (λ W=>W.cell? ⟨wr.heap.size,0,none⟩=some (.int .i64 (pl:Int))/\W.cell? ⟨1,0,none⟩=some (.iface et ex)) (by kernel_rfl) ?_;refine ta_ 0 rfl (by kernel_rfl) (λ _ _ _ h=>h) (by rintro W ⟨h1,h2⟩;go_simp<;>rfl) ?_;refine ta_ 1 rfl (by kernel_rfl) (λ _ _ _ h=>h) (by rintro W ⟨h1,h2⟩;go_simp<;>rfl) ?_;refine ta_ 2 rfl (by kernel_rfl) (λ _ _ _ h=>h) (by rintro W ⟨h1,h2⟩;go_simp<;>rfl) ?_;refine ta_ 4 rfl (by kernel_rfl) (λ _ _ _ h=>h) (by rintro W ⟨h1,h2⟩;go_simp<;>rfl) ?_;refine zg_ 3 rfl (by kernel_rfl) (λ _=>⟨n0,e0⟩) (λ K hK=>?_);go_simp;refine(vg_ (pl:Int) _).mono ?_;rintro e w' ⟨rfl,rfl⟩;refine hK _ _ ?_;clear hK K;refine ta_ 5 rfl (by kernel_rfl) (λ _ _ _ h=>h) (by rintro W ⟨h1,h2⟩;go_simp<;>rfl) ?_;refine zg_ 6 rfl (by kernel_rfl) (λ _=>⟨n0,e0⟩) (λ K hK=>?_);go_simp;refine hK _ _ ?_;clear hK K;have hAL:∀ {a:Addr} {x:Value},w2.cell? a=some x->(w2.drew.alloc (.cells #[.int .i64 (pl:Int),.iface et ex] 212)).cell? a=some x:=@λ a x h=>(World.cell?_alloc_lt (w2.drew) _ a (by exact World.block_lt_of_cell? w2 a h)).trans h;refine zg_ 7 rfl (by kernel_rfl) (λ _=>⟨hAL n0,hAL e0⟩) (λ K hK=>?_);go_simp;refine hK _ _ ?_;clear hK K;refine zg_ 8 rfl (by kernel_rfl) (λ _=>⟨hAL n0,hAL e0⟩) (λ K hK=>?_);go_simp;refine hK _ _ ?_;clear hK K;refine yc_ (by kernel_rfl) (λ hm=>absurd hm (by decide)) ?_ _
    go_wp2_with fail
    try go_ret
    rw[Q_.o];have hF2:=hFw.o.trans hf2.o (λ y hy e=>by omega);have hs2:=hF2.size;refine⟨_,rfl,(hF2.alloc _).drew,?_⟩;rw[he.o];exact⟨w2.heap.size,hs2,rfl,(Blk.new w2 _ _).drew⟩
   ·have hd1:=q_ (show(!decide (l∈seen))=true by rw[decide_eq_false hdup];rfl);rw[if_neg hdup,bp_] at he
    have hoff1:∀ g,P g->¬ g=w.heap.size+2:=λ g hg=>by have:=hPw.o g hg;omega
    have hCu:H_ (∀ w2,Fr (wr.alloc (.cells #[.int .i64 (pl:Int),.int .u8 (l:Int),.iface T x,.pointer d] 220)) w2 (λ g=>g=w.heap.size+2)->Calls prog 106 #[.agg #[.slice sa ds.length sc,rv],.iface T x] w2 (y8_ w2 (.iface et ex) (useF (za_ ds) (ya_ ty)))):=q_ (λ w2 h2=>zrj _ ty l_ hfw.o w2 P s ds _ rv _ xs et ex (D1.o.fr h2 hoff1) (hT1.o.fr h2 hoff1) (E1.o.fr h2 hgE'));clear hoff1
    cases hu:useF (za_ ds) (ya_ ty) with
    | nil=>
     rw[hu,bp_] at he;replace he:=q_ he;replace hu:=q_ hu
     go_wp2_with (first
      |(go_at_call 209;refine hCa.o.mono ?_;rintro e w2 ⟨rfl,hf2,hS2⟩;rw[hd1.o];have NN:=hf2.blk N1.o (by omega);have SS:=hf2.blk S1.o (by omega);have n2:=NN.c2;have s0:=SS.c0;have s1:=SS.c1;replace hf2:=q_ hf2;replace hS2:=q_ hS2;clear NN SS)
      |(go_at_call 106;refine(hCu.o w2 hf2.o).mono ?_;rintro e w3 ⟨v3,rfl,hf3,hm3⟩;rw[hu.o] at hm3;replace hm3:v3=.nilIface:=hm3;subst hm3;replace hf3:=q_ hf3))
     go_roundg (fs.length+1-(q+1))
     case measure=>omega
     case rel=>exact⟨q+1,rfl,hlt,l_,(hf1.o.trans hf2.o u_).trans hf3.o v_,by rw[htk];exact hS2.o.fr hf3.o id,by rw[htk];exact he.o⟩
    | cons y r=>
     rw[hu,bn_] at he;replace he:=q_ he;replace hu:=q_ hu
     go_wp2_with (first
      |(go_at_call 209;refine hCa.o.mono ?_;rintro e w2 ⟨rfl,hf2,hS2⟩;rw[hd1.o];have NN:=hf2.blk N1.o (by omega);have SS:=hf2.blk S1.o (by omega);have n2:=NN.c2;have s0:=SS.c0;have s1:=SS.c1;replace hf2:=q_ hf2;replace hS2:=q_ hS2;clear NN SS)
      |(go_at_call 106;refine(hCu.o w2 hf2.o).mono ?_;rintro e w3 ⟨v3,rfl,hf3,hm3⟩;rw[hu.o] at hm3;obtain⟨g3,hg1,rfl,hg2⟩:=hm3;replace hf3:=q_ hf3;replace hg2:=q_ hg2))
     try go_ret
     rw[Q_.o];have hF2:=hFw.o.trans hf2.o (λ y hy e=>by omega);have hs2:=hF2.size;refine⟨_,rfl,hF2.trans hf3.o u_,?_⟩;rw[he.o];exact⟨g3,by omega,rfl,hg2.o⟩
  ·have hlt':¬ ((q:Int)<(fs.length:Int)):=by omega
   rw[bu_ (by omega),fldF] at he;replace he:=q_ he;replace hf:=q_ hf
   go_wp2_with fail
   try go_ret
   rw[Q_.o];refine⟨.nilIface,rfl,hf0.o.trans hf.o (λ y hy e=>by omega),?_⟩;rw[he.o]
open Go.RowKit
theorem xp_ :∀ {q:Nat}{c p:Nat},l[q]?=some (c,p)->(yg_ l)[q*2]?=some (.int .i64 (p:Int))/\(yg_ l)[q*2+1]?=some (.int .u8 (c:Int)):=by
 induction l with
 | nil=>intro q c p h;simp at h
 | cons x r ih=>
  intro q c p h
  have hc:yg_ (x::r)=.int .i64 (x.2:Int) :: .int .u8 (x.1:Int)::yg_ r:=by simp[yg_]
  rw[hc]
  cases q with
  | zero=>
   simp only[aa_,ad_] at h;subst h;exact⟨rfl,rfl⟩
  | succ q=>
   rw[ac_] at h;have:=ih h;rw[show(q+1)*2=q*2+1+1 by omega];exact this
theorem zty {c p:Nat}(h:l[q]?=some (c,p)) (seen:List Nat):dupS seen (l.drop q)=(if c∈seen then [p] else [])++dupS (seen++[c]) (l.drop (q+1)):=by
 have hl:=(ao_.1 h).1;rw[bh_ hl,dupS,(ao_.1 h).2]
theorem zoc {c p:Nat}(h:l[q]?=some (c,p)):(l.take (q+1)).map Prod.fst=(l.take q).map Prod.fst++[c]:=by
 rw[ba_,h];simp
def z0v (w0:World) (bS:Nat) (l:List (Nat×Nat)) (m:Nat) (v:Value) (W:World):Prop:=
 ∃ q:Nat,v=.int .i64 (q:Int)/\q<=l.length/\l.length+1-q<=m/\Fr w0 W (λ g=>g=bS)/\vw_ W bS ((l.take q).map Prod.fst)/\dupS [] l=dupS ((l.take q).map Prod.fst) (l.drop q)
theorem zdo {u:Value}{o:Option (Nat×Nat)}(ho:w.ownsRow 0 217 2 sv l.length (yg_ l)) (hoP:∀ g,sv.ownBlock=some g->P g) (hU:UnkV w P o u) (hE:ErrV 1 w et ex) (hl:l.length<=300) (hsm:∀ q∈l,zn_ q.1=true) (hsmo:∀ c p,o=some (c,p)->zn_ c=true) (hPw:∀ g,P g->g<w.heap.size) :
 Calls prog 160 #[.agg #[.int .i64 p,sv,u]] w (y8_ w (.iface et ex) (dupS [] l++unkF l o)):=by
 refine hq_ λ POST Q_=>?_;obtain⟨sa,sc,rfl⟩:=zf_ ho
 obtain⟨d,rfl⟩:∃ d,u=.pointer d:=by
  unfold UnkV at hU;split at hU
  ·exact⟨_,hU⟩
  ·obtain⟨g',_,e,_⟩:=hU;exact⟨_,e⟩
 have hgE:1<w.heap.size:=World.block_lt_of_cell? w ⟨1,0,none⟩ hE;obtain⟨wA,hwA⟩:∃ W,W=w.alloc (.cells #[.int .i64 p,.slice sa l.length sc,.pointer d] 268):=⟨_,rfl⟩
 have hzA:wA.heap.size=w.heap.size+1:=by rw[hwA];simp
 have hfA:Fr w wA (λ _=>False):=by rw[hwA];exact(Fr.refl w _).alloc _
 have hSA:Blk wA w.heap.size [.int .i64 p,.slice sa l.length sc,.pointer d] 268:=by rw[hwA];exact Blk.new w #[.int .i64 p,.slice sa l.length sc,.pointer d] 268
 obtain⟨w0,hw0⟩:∃ W,W=wA.alloc (.cells zkh 346):=⟨_,rfl⟩
 have hf0:Fr w w0 (λ _=>False):=by rw[hw0];exact hfA.alloc _
 have hS0:Blk w0 w.heap.size [.int .i64 p,.slice sa l.length sc,.pointer d] 268:=by rw[hw0];exact hSA.alloc _
 have hN0:vw_ w0 (w.heap.size+1) []:=by rw[hw0,<- hzA];exact zoe wA
 have hz0:w0.heap.size=w.heap.size+2:=by rw[hw0];simp[hzA]
 have ho0:=q_ (zb_ ho hf0 u_);have hU0:=q_ (hU.fr hf0 u_);have hE0:=q_ (hE.fr hf0 id);have start:H_ (z0v w0 (w.heap.size+1) l (l.length+1) (.int .i64 0) w0):=q_ ⟨0,rfl,aj_ _,by omega,Fr.refl _ _,hN0,rfl⟩;replace hS0:=q_ hS0;replace hf0:=q_ hf0
 have hgE':1≠w.heap.size+1:=by omega
 replace hPw:=q_ hPw;replace hoP:=q_ hoP;clear ho hU hE hN0 hzA hfA hSA hgE
 go_in
 go_wp2_with fail
 rw[zkg,<- hwA,<- hw0];clear hwA hw0
 go_loopg [9] (l.length+1) (λ m v W=>z0v w0 (w.heap.size+1) l m v W)
 case atStart=>exact start.o
 case round=>
  clear start;obtain⟨q,rfl,hq,hm,hf,hseen,he⟩:=hrel;have hsz:=hf.size;have hS:=hf.blk hS0.o (by omega)
  by_cases hlt:q<l.length
  ·have hlt':(q:Int)<(l.length:Int):=by omega
   have hd:l[q]?=some l[q]:=am_ hlt;have hmem:l[q]∈l:=bd_ hlt;generalize l[q]=f at hd hmem;obtain⟨c,pl⟩:=f;have hfsm:zn_ c=true:=hsm _ hmem;obtain⟨g,cap,hgc⟩:=zk_ ho0.o (by omega);cases hgc
   have hne:¬ g=w.heap.size+1:=by have:=hPw.o g (hoP.o g rfl);omega
   have hrow:=zb_ ho0.o hf (λ g' e=>by simp only[Value.ownBlock,ad_] at e;subst e;exact hne);have c0:=zs_ hrow rfl (xp_ hd).1;have c1:=zs_ hrow rfl (xp_ hd).2;rw[zty hd] at he;have htk:=zoc hd;have A1:=(Fr.refl wr (λ _=>False)).alloc (.cells #[.int .i64 (pl:Int),.int .u8 (c:Int)] 217);have N1:=Blk.new wr #[.int .i64 (pl:Int),.int .u8 (c:Int)] 217;have hCa:=q_ (zom (p:=(pl:Int)) (hseen.fr A1 id) hfsm);have E1:=(hE0.o.fr hf hgE').fr A1 id;have hFw:=q_ ((hf0.o.trans hf (λ y hy e=>by omega)).trans A1 u_);have hf1:=q_ (hf.trans A1 v_);replace E1:=q_ E1;replace N1:=q_ N1;clear A1 hS hf hseen hfsm hrow;obtain⟨seen,hseen⟩:∃ l',(l.take q).map Prod.fst=l':=⟨_,rfl⟩;rw[hseen] at he htk hCa;clear hseen
   by_cases hdup:c∈seen
   ·have hd1:=q_ (show(!decide (c∈seen))=false by rw[decide_eq_true hdup];rfl);rw[if_pos hdup] at he;replace he:=q_ he
    go_wp2_with (go_at_call 209;refine hCa.o.mono ?_;rintro e w2 ⟨rfl,hf2,hS2⟩;rw[hd1.o];have n0:=(hf2.blk N1.o (by omega)).c0;have e0:=E1.o.fr hf2 hgE';replace hf2:=q_ hf2;replace e0:_=_:=e0;clear hS2)
    refine yp_ 7 (λ W=>W.cell? ⟨wr.heap.size,0,none⟩=some (.int .i64 (pl:Int))/\W.cell? ⟨1,0,none⟩=some (.iface et ex)) (by kernel_rfl) ?_;refine ta_ 0 rfl (by kernel_rfl) (λ _ _ _ h=>h) (by rintro W ⟨h1,h2⟩;go_simp<;>rfl) ?_;refine ta_ 1 rfl (by kernel_rfl) (λ _ _ _ h=>h) (by rintro W ⟨h1,h2⟩;go_simp<;>rfl) ?_;refine ta_ 3 rfl (by kernel_rfl) (λ _ _ _ h=>h) (by rintro W ⟨h1,h2⟩;go_simp<;>rfl) ?_;refine zg_ 2 rfl (by kernel_rfl) (λ _=>⟨n0,e0⟩) (λ K hK=>?_);go_simp;refine(vg_ (pl:Int) _).mono ?_;rintro e w' ⟨rfl,rfl⟩;refine hK _ _ ?_;clear hK K;refine ta_ 4 rfl (by kernel_rfl) (λ _ _ _ h=>h) (by rintro W ⟨h1,h2⟩;go_simp<;>rfl) ?_;refine zg_ 5 rfl (by kernel_rfl) (λ _=>⟨n0,e0⟩) (λ K hK=>?_);go_simp;refine hK _ _ ?_;clear hK K;have hAL:∀ {a:Addr} {x:Value},w2.cell? a=some x->(w2.drew.alloc (.cells #[.int .i64 (pl:Int),.iface et ex] 212)).cell? a=some x:=@λ a x h=>(World.cell?_alloc_lt (w2.drew) _ a (by exact World.block_lt_of_cell? w2 a h)).trans h;refine zg_ 6 rfl (by kernel_rfl) (λ _=>⟨hAL n0,hAL e0⟩) (λ K hK=>?_);go_simp;refine hK _ _ ?_;clear hK K;refine zg_ 7 rfl (by kernel_rfl) (λ _=>⟨hAL n0,hAL e0⟩) (λ K hK=>?_);go_simp;refine hK _ _ ?_;clear hK K;refine yc_ (by kernel_rfl) (λ hm=>absurd hm (by decide)) ?_ _
    go_wp2_with fail
    try go_ret
    rw[Q_.o];have hF2:=hFw.o.trans hf2.o (λ y hy e=>by omega);have hs2:=hF2.size;refine⟨_,rfl,(hF2.alloc _).drew,?_⟩;rw[he.o];exact⟨w2.heap.size,hs2,rfl,(Blk.new w2 _ _).drew⟩
   ·have hd1:=q_ (show(!decide (c∈seen))=true by rw[decide_eq_false hdup];rfl);rw[if_neg hdup,bp_] at he;replace he:=q_ he
    go_wp2_with (go_at_call 209;refine hCa.o.mono ?_;rintro e w2 ⟨rfl,hf2,hS2⟩;rw[hd1.o];replace hf2:=q_ hf2;replace hS2:=q_ hS2)
    go_roundg (l.length+1-(q+1))
    case measure=>omega
    case rel=>exact⟨q+1,rfl,hlt,l_,hf1.o.trans hf2.o u_,by rw[htk];exact hS2.o,by rw[htk];exact he.o⟩
  ·have hlt':¬ ((q:Int)<(l.length:Int)):=by omega
   have hql:q=l.length:=by omega
   rw[bu_ (by omega),dupS] at he;rw[hql,List.take_length] at hseen;have c2:=hS.c2;have hUw:=hU0.o.fr hf (λ g hg e=>by have:=hPw.o g hg;omega);have e1:=hE0.o.fr hf hgE';have hFw:=q_ (hf0.o.trans hf (λ y hy e=>by omega));replace hseen:=q_ hseen;replace hS:=q_ hS;replace e1:=q_ e1;clear hf hql
   cases o with
   | none=>
    have hn:d=none:=by
     have:Value.pointer d=.pointer none:=hUw;cases this;rfl
    subst hn;have hL:=q_ (show dupS [] l++unkF l none=[] by rw[he];rfl);clear hUw he
    go_wp2_with fail
    try go_ret
    rw[Q_.o];refine⟨.nilIface,rfl,hFw.o,?_⟩;rw[hL.o]
   | some r=>
    obtain⟨c,pl⟩:=r;obtain⟨g,hg,hdg,hB⟩:∃ g,P g/\Value.pointer d=.pointer (some ⟨g,0,none⟩)/\Blk wr g [.int .i64 (pl:Int),.int .u8 (c:Int)] 217:=hUw;cases hdg;have b0:=hB.c0;have b1:=hB.c1;have hCh:=q_ (zol (p:=(pl:Int)) hseen.o (hsmo c pl rfl));replace hB:=q_ hB
    by_cases hin:c∈l.map Prod.fst
    ·have hd1:=q_ (show decide (c∈l.map Prod.fst)=true from decide_eq_true hin);have hL:=q_ (show dupS [] l++unkF l (some (c,pl))=[] by rw[he];simp only[unkF];rw[if_pos hin];rfl);clear he
     go_wp2_with (go_at_call 210;refine hCh.o.mono ?_;rintro e w2 ⟨rfl,hf2⟩;rw[hd1.o];replace hf2:=q_ hf2)
     try go_ret
     rw[Q_.o];refine⟨.nilIface,rfl,hFw.o.trans hf2.o u_,?_⟩;rw[hL.o]
    ·have hd1:=q_ (show decide (c∈l.map Prod.fst)=false from decide_eq_false hin);have hL:=q_ (show dupS [] l++unkF l (some (c,pl))=[pl] by rw[he];simp only[unkF];rw[if_neg hin];rfl);clear he
     go_wp2_with (go_at_call 210;refine hCh.o.mono ?_;rintro e w2 ⟨rfl,hf2⟩;rw[hd1.o];have n0:=(hf2.blk hB.o id).c0;have n2:=(hf2.blk hS.o id).c2;have e0:=e1.o.fr hf2 id;replace hf2:=q_ hf2;replace e0:_=_:=e0)
     refine yp_ 10 (λ W=>W.cell? ⟨w.heap.size,2,none⟩=some (.pointer (some ⟨g,0,none⟩))/\W.cell? ⟨g,0,none⟩=some (.int .i64 (pl:Int))/\W.cell? ⟨1,0,none⟩=some (.iface et ex)) (by kernel_rfl) ?_;refine ta_ 0 rfl (by kernel_rfl) (λ _ _ _ h=>h) (by rintro W ⟨h1,h2,h3⟩;go_simp<;>rfl) ?_;refine ta_ 1 rfl (by kernel_rfl) (λ _ _ _ h=>h) (by rintro W ⟨h1,h2,h3⟩;go_simp<;>rfl) ?_;refine ta_ 2 rfl (by kernel_rfl) (λ _ _ _ h=>h) (by rintro W ⟨h1,h2,h3⟩;go_simp<;>rfl) ?_;refine ta_ 3 rfl (by kernel_rfl) (λ _ _ _ h=>h) (by rintro W ⟨h1,h2,h3⟩;go_simp<;>rfl) ?_;refine ta_ 4 rfl (by kernel_rfl) (λ _ _ _ h=>h) (by rintro W ⟨h1,h2,h3⟩;go_simp<;>rfl) ?_;refine ta_ 6 rfl (by kernel_rfl) (λ _ _ _ h=>h) (by rintro W ⟨h1,h2,h3⟩;go_simp<;>rfl) ?_;refine zg_ 5 rfl (by kernel_rfl) (λ _=>⟨n2,n0,e0⟩) (λ K hK=>?_);go_simp;refine(vg_ (pl:Int) _).mono ?_;rintro e w' ⟨rfl,rfl⟩;refine hK _ _ ?_;clear hK K;refine ta_ 7 rfl (by kernel_rfl) (λ _ _ _ h=>h) (by rintro W ⟨h1,h2,h3⟩;go_simp<;>rfl) ?_;refine zg_ 8 rfl (by kernel_rfl) (λ _=>⟨n2,n0,e0⟩) (λ K hK=>?_);go_simp;refine hK _ _ ?_;clear hK K;have hAL:∀ {a:Addr} {x:Value},w2.cell? a=some x->(w2.drew.alloc (.cells #[.int .i64 (pl:Int),.iface et ex] 212)).cell? a=some x:=@λ a x h=>(World.cell?_alloc_lt (w2.drew) _ a (by exact World.block_lt_of_cell? w2 a h)).trans h;refine zg_ 9 rfl (by kernel_rfl) (λ _=>⟨hAL n2,hAL n0,hAL e0⟩) (λ K hK=>?_);go_simp;refine hK _ _ ?_;clear hK K;refine zg_ 10 rfl (by kernel_rfl) (λ _=>⟨hAL n2,hAL n0,hAL e0⟩) (λ K hK=>?_);go_simp;refine hK _ _ ?_;clear hK K;refine yc_ (by kernel_rfl) (λ hm=>absurd hm (by decide)) ?_ _
     go_wp2_with fail
     try go_ret
     rw[Q_.o];have hF2:=hFw.o.trans hf2.o (λ y hy e=>e);have hs2:=hF2.size;refine⟨_,rfl,(hF2.alloc _).drew,?_⟩;rw[hL.o];exact⟨w2.heap.size,hs2,rfl,(Blk.new w2 _ _).drew⟩
end Go.Proofs.YthmjjpkjgjklmaaGreatDoor
