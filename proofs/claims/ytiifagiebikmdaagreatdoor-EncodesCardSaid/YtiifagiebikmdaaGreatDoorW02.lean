import Derived.Test.YtiifagiebikmdaaGreatDoorW00
import Derived.WalkKit
import Derived.WalkSpells
import Derived.WalkLawsBesides
import Derived.Deep.QuietTactic
import Derived.BigQuiet
import Derived.Maps.AppendAt
import Derived.Deep.RegionLaw
import Derived.Test.YtiifagiebikmdaaGreatDoorW01
namespace Go.Proofs.YtiifagiebikmdaaGreatDoor
open Go.RowKit
def Blk (w:World) (b:Nat) (cs:List Value) (t:TypeId):Prop:=w.heap[b]?=some (.cells cs.toArray t (0,0))
theorem Blk.cell {w:World}{b t:Nat}{cs:List Value}(h:Blk w b cs t) (o:Nat):w.cell? ⟨b,o,none⟩=cs[o]?:=by
 unfold Blk at h
 simp[World.cell?,h]
theorem Blk.thaw {w:World}{b t:Nat}{cs:List Value}(h:Blk w b cs t) (o:Nat):w.frozen? ⟨b,o,none⟩=false:=by
 unfold Blk at h
 simp[World.frozen?,h]
theorem Blk.lt {w:World}{b t:Nat}{cs:List Value}(h:Blk w b cs t):b<w.heap.size:=by
 unfold Blk at h
 exact(Array.getElem?_eq_some_iff.1 h).1
theorem Blk.set {w:World}{b t:Nat}{cs:List Value}(h:Blk w b cs t) (o:Nat) (v:Value):Blk (w.setCell ⟨b,o,none⟩ v) b (cs.set o v) t:=by
 unfold Blk at *
 simp[World.setCell,Array.getElem?_modify,h]
theorem Blk.other {w:World}{b t:Nat}{cs:List Value}(h:Blk w b cs t){a:Addr}(v:Value) (hb:b≠a.block):Blk (w.setCell a v) b cs t:=by
 unfold Blk at *
 rw[Below.heap_setCell _ _ _ _ hb];exact h
theorem Blk.alloc {w:World}{b t:Nat}{cs:List Value}(h:Blk w b cs t) (o:Obj):Blk (w.alloc o) b cs t:=by
 have hl:=h.lt
 unfold Blk at *
 rw[Below.heap_alloc _ _ _ hl];exact h
theorem Blk.drew {w:World}{b t:Nat}{cs:List Value}(h:Blk w b cs t):Blk w.drew b cs t:=h
theorem Blk.new (w:World) (cs:Array Value) (t:TypeId):Blk (w.alloc (.cells cs t)) w.heap.size cs.toList t:=by
 show(w.heap.push _)[w.heap.size]?=_
 simp
structure Fr (w w':World) (S:Nat→Prop):Prop where
 os:w'.os=w.os
 tape:w'.tape=w.tape
 output:w'.output=w.output
 size:w.heap.size≤w'.heap.size
 block:∀ k,k<w.heap.size→¬ S k→w'.heap[k]?=w.heap[k]?
theorem Fr.refl (w:World) (S:Nat→Prop):Fr w w S:=⟨rfl,rfl,rfl,Nat.le_refl _,fun _ _ _=>rfl⟩
theorem Fr.trans {a b c:World}{S T:Nat→Prop}(h:Fr a b S) (k:Fr b c T) (hT:∀ x,x<a.heap.size→T x→S x):Fr a c S:=
 ⟨k.os.trans h.os,k.tape.trans h.tape,k.output.trans h.output,Nat.le_trans h.size k.size,fun i hi hS=>(k.block i (Nat.lt_of_lt_of_le hi h.size) (fun t=>hS (hT i hi t))).trans (h.block i hi hS)⟩
theorem Fr.mono {a b:World}{S T:Nat→Prop}(h:Fr a b S) (hT:∀ x,x<a.heap.size→S x→T x):Fr a b T:=
 ⟨h.os,h.tape,h.output,h.size,fun i hi hn=>h.block i hi (fun s=>hn (hT i hi s))⟩
theorem Fr.drew {a b:World}{S:Nat→Prop}(h:Fr a b S):Fr a b.drew S:=⟨h.os,h.tape,h.output,h.size,h.block⟩
theorem Fr.alloc {a b:World}{S:Nat→Prop}(h:Fr a b S) (o:Obj):Fr a (b.alloc o) S:=
 h.trans ⟨rfl,rfl,rfl,by simp,fun k hk _=>Below.heap_alloc _ _ _ hk⟩ (T:=fun _=>False) (fun _ _ f=>f.elim)
theorem Fr.setCell {a b:World}{S:Nat→Prop}(h:Fr a b S) (p:Addr) (v:Value) (hp:p.block<a.heap.size→S p.block):Fr a (b.setCell p v) S:=
 h.trans (T:=fun x=>x=p.block) ⟨rfl,rfl,rfl,by simp[World.setCell],fun k _ hS=>Below.heap_setCell _ _ _ _ hS⟩ (fun _ hx e=>e▸hp (e▸hx))
theorem Fr.grown {a b c:World}{S:Nat→Prop}{row:Option Nat}(h:Fr a b S) (hg:b.grownBy c row) (hr:∀ k,row=some k→k<a.heap.size→S k):Fr a c S:=
 h.trans (T:=fun x=>row=some x) ⟨hg.os,hg.tape,hg.output,hg.size,fun k hk hS=>hg.block k hk (fun e=>hS e.symm)⟩ (fun x hx e=>hr x e hx)
theorem Fr.blk {w w':World}{S:Nat→Prop}(h:Fr w w' S){b t:Nat}{cs:List Value}(hb:Blk w b cs t) (hS:¬ S b):Blk w' b cs t:=by
 have:=h.block b hb.lt hS
 unfold Blk at *
 rw[this];exact hb
def pk (s:ByteArray) (i:Nat) (bad:Bool):Int:=
 if bad=true then 0 else if h:i<s.size then ((s[i]'h).toNat:Int) else 0
structure RV where
 i:Nat
 bad:Bool
 u:Value
 wr:Int
 mx:Int
def RV.cells (s:ByteArray) (bz:Nat) (σ:RV):List Value:=
 [.string s,.int .i64 σ.i,.bool σ.bad,.pointer (some ⟨bz,0,none⟩),σ.u,.int .i64 σ.wr,.int .i64 σ.mx]
def RAt (w:World) (br:Nat) (s:ByteArray) (bz:Nat) (σ:RV):Prop:=Blk w br (σ.cells s bz) 66
section
variable {w:World} {br:Nat} {s:ByteArray} {bz:Nat} {σ:RV}
theorem RAt.c0 (h:RAt w br s bz σ):w.cell? ⟨br,0,none⟩=some (.string s):=by rw[Blk.cell h];rfl
theorem RAt.c1 (h:RAt w br s bz σ):w.cell? ⟨br,1,none⟩=some (.int .i64 σ.i):=by rw[Blk.cell h];rfl
theorem RAt.c2 (h:RAt w br s bz σ):w.cell? ⟨br,2,none⟩=some (.bool σ.bad):=by rw[Blk.cell h];rfl
theorem RAt.c3 (h:RAt w br s bz σ):w.cell? ⟨br,3,none⟩=some (.pointer (some ⟨bz,0,none⟩)):=by rw[Blk.cell h];rfl
theorem RAt.c4 (h:RAt w br s bz σ):w.cell? ⟨br,4,none⟩=some σ.u:=by rw[Blk.cell h];rfl
theorem RAt.c5 (h:RAt w br s bz σ):w.cell? ⟨br,5,none⟩=some (.int .i64 σ.wr):=by rw[Blk.cell h];rfl
theorem RAt.c6 (h:RAt w br s bz σ):w.cell? ⟨br,6,none⟩=some (.int .i64 σ.mx):=by rw[Blk.cell h];rfl
theorem RAt.setI (h:RAt w br s bz σ) (n:Nat):RAt (w.setCell ⟨br,1,none⟩ (.int .i64 n)) br s bz { σ with i:=n }:=Blk.set h 1 _
theorem RAt.setBad (h:RAt w br s bz σ) (x:Bool):RAt (w.setCell ⟨br,2,none⟩ (.bool x)) br s bz { σ with bad:=x }:=Blk.set h 2 _
theorem RAt.setU (h:RAt w br s bz σ) (x:Value):RAt (w.setCell ⟨br,4,none⟩ x) br s bz { σ with u:=x }:=Blk.set h 4 _
theorem RAt.setWr (h:RAt w br s bz σ) (x:Int):RAt (w.setCell ⟨br,5,none⟩ (.int .i64 x)) br s bz { σ with wr:=x }:=Blk.set h 5 _
theorem RAt.setMx (h:RAt w br s bz σ) (x:Int):RAt (w.setCell ⟨br,6,none⟩ (.int .i64 x)) br s bz { σ with mx:=x }:=Blk.set h 6 _
end
theorem RAt.thaw {w:World}{br:Nat}{s:ByteArray}{bz:Nat}{σ:RV}(h:RAt w br s bz σ) (o:Nat):w.frozen? ⟨br,o,none⟩=false:=Blk.thaw h o
theorem Fr.one (w:World) (p:Addr) (v:Value):Fr w (w.setCell p v) (· = p.block):=(Fr.refl w _).setCell p v (fun _=>rfl)
set_option maxHeartbeats 400000 in
theorem within_any (c lo hi:Int) (w:World) :
 Calls Tryz.prog 38 #[.int .u8 c,.int .u8 lo,.int .u8 hi] w fun e w'=>e=.returned (.bool (decide (lo≤c)&&decide (c≤hi)))∧w'=w:=by
 go_enter Tryz.func38,Tryz.ntmps38
 go_wp2
 ·go_ret;rename_i h;exact⟨by simp[h],rfl⟩
 ·go_ret;rename_i h;exact⟨by simp[show ¬ lo≤c by omega],rfl⟩
def Still (w w':World):Prop:=∃ n,w'=w.drewN n
theorem Still.refl (w:World):Still w w:=⟨0,rfl⟩
theorem Still.drewN (w:World) (n:Nat):Still w (w.drewN n):=⟨n,rfl⟩
theorem Still.drew (w:World):Still w w.drew:=⟨1,rfl⟩
theorem Still.trans {a b c:World}(h:Still a b) (k:Still b c):Still a c:=by
 obtain⟨n,rfl⟩:=h
 obtain⟨m,rfl⟩:=k
 exact⟨n+m,by simp[World.drewN,Nat.add_assoc]⟩
set_option maxHeartbeats 400000 in
theorem peek_any {w:World}{br:Nat}{s:ByteArray}{bz:Nat}{σ:RV}(h:RAt w br s bz σ) (_hs:s.size≤300) (hi:σ.i≤300) :
 Calls Tryz.prog 39 #[.pointer (some ⟨br,0,none⟩)] w fun e w'=>e=.returned (.int .u8 (pk s σ.i σ.bad))∧Still w w':=by
 have c0:=h.c0
 have c1:=h.c1
 have c2:=h.c2
 clear h
 rcases σ with⟨i,bad,u,wr,mx⟩
 simp only at c1 c2 hi⊢
 cases bad with
 | true=>
  go_enter Tryz.func39,Tryz.ntmps39
  go_wp2
  go_quiet (fail)
  go_wp2
  go_ret
  exact⟨by simp[pk],_,rfl⟩
 | false=>
  by_cases hl:i<s.size
  ·have hl':(i:Int)<(s.size:Int):=by omega
   go_enter Tryz.func39,Tryz.ntmps39
   go_wp2
   go_quiet (fail)
   go_wp2
   go_quiet (fail)
   go_wp2
   go_ret
   exact⟨by simp[pk,hl],(Still.drewN _ _).trans (Still.drewN _ _)⟩
  ·go_enter Tryz.func39,Tryz.ntmps39
   go_wp2
   go_quiet (fail)
   go_wp2
   go_ret
   refine⟨by simp[pk];omega,?_⟩
   exact⟨_,rfl⟩
def RV.eat (s:ByteArray) (c:Int) (σ:RV):RV:=if pk s σ.i σ.bad=c then { σ with i:=σ.i+1 } else { σ with bad:=true }
theorem RAt.still {w w':World}{br:Nat}{s:ByteArray}{bz:Nat}{σ:RV}(h:RAt w br s bz σ) (hw:Still w w'):RAt w' br s bz σ:=by
 obtain⟨n,rfl⟩:=hw;exact h
theorem Fr.still {a w w':World}{S:Nat→Prop}(h:Fr a w S) (hw:Still w w'):Fr a w' S:=by
 obtain⟨n,rfl⟩:=hw;exact⟨h.os,h.tape,h.output,h.size,h.block⟩
set_option maxHeartbeats 400000 in
theorem eat_any {w:World}{br:Nat}{s:ByteArray}{bz:Nat}{σ:RV}{c:Int}(h:RAt w br s bz σ) (hs:s.size≤300) (hi:σ.i≤300) :
 Calls Tryz.prog 40 #[.pointer (some ⟨br,0,none⟩),.int .u8 c] w fun e w'=>e=.returned (.tuple #[])∧RAt w' br s bz (σ.eat s c)∧Fr w w' (· = br):=by
 go_enter Tryz.func40,Tryz.ntmps40
 go_wp2_with (go_at_call 39;refine(peek_any h hs hi).mono ?_;rintro e w' ⟨rfl,hw⟩;have h':=h.still hw;have c1:=h'.c1;have c2:=h'.c2;have f1:=h'.thaw 1;have f2:=h'.thaw 2)
 ·go_end0
  rename_i hc
  exact⟨rfl,by rw[RV.eat,if_pos (by simpa using hc)];exact h'.setI (σ.i+1),((Fr.refl w _).still hw).setCell _ _ (fun _=>rfl)⟩
 ·go_end0
  rename_i hc
  exact⟨rfl,by rw[RV.eat,if_neg (by simpa using hc)];exact h'.setBad true,((Fr.refl w _).still hw).setCell _ _ (fun _=>rfl)⟩
def RV.wrong (at_:Int) (σ:RV):RV:=if σ.wr<0∨at_<σ.wr then { σ with wr:=at_ } else σ
set_option maxHeartbeats 400000 in
theorem wrong_any {w:World}{br:Nat}{s:ByteArray}{bz:Nat}{σ:RV}{at_:Int}(h:RAt w br s bz σ) :
 Calls Tryz.prog 24 #[.pointer (some ⟨br,0,none⟩),.int .i64 at_] w fun e w'=>e=.returned (.tuple #[])∧RAt w' br s bz (σ.wrong at_)∧Fr w w' (· = br):=by
 have c5:=h.c5
 have f5:=h.thaw 5
 by_cases h1:σ.wr<0
 ·go_enter Tryz.func24,Tryz.ntmps24
  go_wp2
  go_end0
  exact⟨rfl,by rw[RV.wrong,if_pos (.inl h1)];exact RAt.setWr h at_,(Fr.refl w _).setCell _ _ (fun _=>rfl)⟩
 ·by_cases h2:at_<σ.wr
  ·go_enter Tryz.func24,Tryz.ntmps24
   go_wp2
   go_end0
   exact⟨rfl,by rw[RV.wrong,if_pos (.inr h2)];exact RAt.setWr h at_,(Fr.refl w _).setCell _ _ (fun _=>rfl)⟩
  ·go_enter Tryz.func24,Tryz.ntmps24
   go_wp2
   go_end0
   exact⟨rfl,by rw[RV.wrong,if_neg (fun x=>x.elim (fun y=>by omega) (fun y=>by omega))];exact h,Fr.refl w _⟩
theorem pk_bt (s:ByteArray) (i:Nat):pk s i false=(bt s i:Int):=by
 unfold pk bt;simp;split <;> rfl
def plc (s:ByteArray) (c:Nat):Int:=match s.data.toList.findIdx? (fun b=>b.toNat==c) with|some k=>k|none=>-1
open Go.RowKit
theorem plc_some {s:ByteArray}{c k:Nat}(hk:k<s.size) (hc:bt s k=c) (hn:∀ j,j<k→bt s j≠c):plc s c=k:=by
 have:s.data.toList.findIdx? (fun b=>b.toNat==c)=some k:=by
  rw[List.findIdx?_eq_some_iff_getElem]
  refine⟨by simpa using hk,?_,fun j hj=>?_⟩
  ·have:=bt_eq s k hk
   simp only[beq_iff_eq]
   rw[← hc,this];rfl
  ·have hj':j<s.size:=by omega
   have:=bt_eq s j hj'
   have h2:=hn j hj
   simp only[Bool.not_eq_true,beq_eq_false_iff_ne]
   intro e
   apply h2
   rw[this,← e];rfl
 simp[plc,this]
theorem plc_none {s:ByteArray}{c:Nat}(hn:∀ j,j<s.size→bt s j≠c):plc s c = -1:=by
 have:s.data.toList.findIdx? (fun b=>b.toNat==c)=none:=by
  rw[List.findIdx?_eq_none_iff]
  intro x hx
  obtain⟨k,hk,rfl⟩:=List.getElem_of_mem hx
  have hk':k<s.size:=by simpa using hk
  have:=hn k hk'
  rw[bt_eq s k hk'] at this
  simp only[beq_eq_false_iff_ne]
  intro e;apply this;rw[← e];rfl
 simp[plc,this]
theorem plc_ge (s:ByteArray) (c:Nat) : -1≤plc s c:=by unfold plc;split <;> omega
set_option maxHeartbeats 400000 in
theorem place_any (s:ByteArray) (c:Nat) (w:World) (hs:s.size≤100000) :
 Calls Tryz.prog 90 #[.string s,.int .u8 c] w fun e w'=>e=.returned (.int .i64 (plc s c))∧w'=w:=by
 go_enter Tryz.func90,Tryz.ntmps90
 go_wp2
 go_loop [5] (fun i=>∃ k:Nat,k≤s.size∧i=.int .i64 k∧Hid (∀ j,j<k→bt s j≠c)) (fun i=>s.size-(intOf i).toNat)
 case atStart=>exact⟨0,Nat.zero_le _,rfl,fun j hj=>absurd hj (Nat.not_lt_zero _)⟩
 case round=>
  obtain⟨k,hk,rfl,hn⟩:=hrel
  go_wp2
  ·have hlt:k<s.size:=by assumption
   have hc:(((s[k]'hlt).toNat:Int)==(c:Int))=true:=by assumption
   go_ret
   have hc':bt s k=c:=by rw[bt_eq s k (by omega)];have:=eq_of_beq hc;omega
   have hp:=plc_some (by omega) hc' hn.out
   exact⟨by rw[hp];rfl,rfl⟩
  ·have hlt:k<s.size:=by assumption
   have hc:(((s[k]'hlt).toNat:Int)==(c:Int))=false:=by assumption
   go_round
   case rel=>
    refine⟨k+1,by omega,by go_num,fun j hj=>?_⟩
    by_cases e:j=k
    ·subst e;rw[bt_eq s j (by omega)];intro x;rw[← x] at hc;simp at hc
    ·exact hn.out j (by omega)
   case measure=>simp[intOf];omega
  ·go_ret
   have hp:=plc_none (s:=s) (c:=c) (fun j hj=>hn.out j (by omega))
   exact⟨by rw[hp];rfl,rfl⟩
set_option maxHeartbeats 400000 in
theorem has_any (s:ByteArray) (c:Nat) (w:World) (hs:s.size≤100000) :
 Calls Tryz.prog 99 #[.string s,.int .u8 c] w fun e w'=>e=.returned (.bool (decide (0≤plc s c)))∧w'=w:=by
 go_enter Tryz.func99,Tryz.ntmps99
 go_wp2_with (go_at_call 90;refine(place_any s c _ hs).mono ?_;rintro e w' ⟨rfl,rfl⟩)
 go_ret
 exact⟨rfl,rfl⟩
def RV.small (s:ByteArray) (σ:RV):RV:=if 97≤pk s σ.i σ.bad∧pk s σ.i σ.bad≤122 then { σ with i:=σ.i+1 } else { σ with bad:=true }
def RV.smallR (s:ByteArray) (σ:RV):Int:=if 97≤pk s σ.i σ.bad∧pk s σ.i σ.bad≤122 then pk s σ.i σ.bad else 0
set_option maxHeartbeats 400000 in
theorem small_any {w:World}{br:Nat}{s:ByteArray}{bz:Nat}{σ:RV}(h:RAt w br s bz σ) (hs:s.size≤300) (hi:σ.i≤300) :
 Calls Tryz.prog 98 #[.pointer (some ⟨br,0,none⟩)] w fun e w'=>e=.returned (.int .u8 (σ.smallR s))∧RAt w' br s bz (σ.small s)∧Fr w w' (· = br):=by
 go_enter Tryz.func98,Tryz.ntmps98
 go_wp2_with (first
  |(go_at_call 39;refine(peek_any h hs hi).mono ?_;rintro e w' ⟨rfl,hw⟩;have h':=h.still hw;have c1:=h'.c1;have c2:=h'.c2;have f1:=h'.thaw 1;have f2:=h'.thaw 2)
  |(go_at_call 38;refine(within_any _ _ _ _).mono ?_;rintro e w' ⟨rfl,rfl⟩))
 ·rename_i hc
  have hc':¬ (97≤pk s σ.i σ.bad∧pk s σ.i σ.bad≤122):=by simp at hc;omega
  go_ret
  exact⟨by rw[RV.smallR,if_neg hc'];rfl,by rw[RV.small,if_neg hc'];exact h'.setBad true,((Fr.refl w _).still hw).setCell _ _ (fun _=>rfl)⟩
 ·rename_i hc
  have hc':97≤pk s σ.i σ.bad∧pk s σ.i σ.bad≤122:=by simp at hc;omega
  go_ret
  exact⟨by rw[RV.smallR,if_pos hc'];rfl,by rw[RV.small,if_pos hc'];exact h'.setI (σ.i+1),((Fr.refl w _).still hw).setCell _ _ (fun _=>rfl)⟩
open Go.RowKit
theorem step_append_own_at {P:Program}{ops:Array Oper}{o:Oper}{a:Act}{w:World}{K:Act→World→Prop}{Q:Exit→Act→World→Prop}{E:Prop}
 (hg:o.guard=none) (s x:Operand) (t:TypeId) (hop:o.op=Op.call { callee:=Callee.builtin Builtin.append,args:=#[s,x],argTypes:=#[t,t] })
 (base:Nat) (e:TypeId) (i:TypeInfo) (z:Value) (size bytes:Nat) (h1:P.underlying t=some (.slice e)) (h2:P.info? e=some i) (h3:i.zero=some z) (h4:i.size=size) (h5:i.bytes=bytes) (h6:z.cells.size=size) (h7:0<size)
 (v:Value) (n:Nat) (xs:List Value) (hs:a.eval s=v) (hown:w.ownsRow base e size v n xs)
 (ad:Addr) (m c:Nat) (news:List Value) (hx:a.eval x=.slice (some ad) m c) (hn:news.length=m*size) (hc:∀ j u,news[j]?=some u→w.cell? (ad.add j)=some u) (h1c:∀ u∈news,u.oneCell'=true)
 (b1:n+m≤maxLen) (b2:(n+m)*bytes≤140737488355328) (hbase:base≤w.heap.size)
 (hK:∀ v' w',w'.ownsRow base e size v' (n+m) (xs++news)→w.grownBy w' v.ownBlock→(v'.ownBlock=v.ownBlock∨v'.ownBlock=some w.heap.size)→K (a.put o.dst v') w') :
 if Region.wanted o (yielded ops a.tmps)=true then Oper.wp P o a w K Q else E:=by
 have hw:Region.wanted o (yielded ops a.tmps)=true:=by simp[Region.wanted,hg]
 rw[if_pos hw]
 obtain⟨v',w',hrun,r1,r2,_,r4⟩:=run_append_own_at (P:=P) w base t o.type e i z size bytes h1 h2 h3 h4 h5 h6 h7 v n xs hown ad m c news hn hc h1c b1 b2 hbase
 unfold Oper.wp
 simp[execOp,hop,resolve,invoke,builtin,hs,hx,hrun,Result.andThen]
 exact hK v' w' r1 r2 r4
theorem ownsRow_fr {w w':World}{base:Nat}{e:TypeId}{size:Nat}{v:Value}{n:Nat}{xs:List Value}{S:Nat→Prop}(h:w.ownsRow base e size v n xs) (hf:Fr w w' S) (hS:∀ g,v.ownBlock=some g→¬ S g):w'.ownsRow base e size v n xs:=by
 refine⟨h.1,?_⟩
 rcases h.2 with h0|⟨g,cap,cur,rfl,hb,hg,rest⟩
 ·exact .inl h0
 ·refine .inr ⟨g,cap,cur,rfl,hb,?_,rest⟩
  rw[hf.block g (by exact(Array.getElem?_eq_some_iff.1 hg).1) (hS g rfl)]
  exact hg
theorem u_Type:Tryz.prog.underlying 41=some (.slice 77):=by kernel_rfl
theorem i_Type:(Tryz.prog.info? 77).map (fun i=>(i.zero,i.size,i.bytes))=some (some (.agg #[.int .u8 0,.slice none 0 0]),2,32):=by kernel_rfl
theorem news_new (w:World) (cs:Array Value) (t:TypeId) (g:Nat) (hg:g=w.heap.size):∀ j u,cs.toList[j]?=some u→(w.alloc (.cells cs t)).cell? ((⟨g,0,none⟩:Addr).add j)=some u:=by
 intro j u h
 subst hg
 have:=(Blk.new w cs t).cell j
 unfold Addr.add
 split
 ·rename_i hj;subst hj;rw[this];exact h
 ·simp only[Nat.zero_add];rw[this];exact h
theorem own_form {w:World}{base size n:Nat}{e:TypeId}{v:Value}{xs:List Value}(h:w.ownsRow base e size v n xs) (hn:0<n):∃ g cap,v=.slice (some ⟨g,0,none⟩) n cap:=by
 rcases h.2 with⟨_,h0⟩|⟨g,cap,_,hv,_⟩
 ·omega
 ·exact⟨g,cap,hv⟩
theorem own_ne {w:World}{base size n k:Nat}{e:TypeId}{v:Value}{xs:List Value}(h:w.ownsRow base e size v n xs) (hk:k<base):v.ownBlock≠some k:=fun e=>by
 have:=h.lt k e
 omega
theorem Blk.cellAlloc {w:World}{b t:Nat}{cs:List Value}(h:Blk w b cs t) (o:Nat) (x:Obj):(w.alloc x).cell? ⟨b,o,none⟩=cs[o]?:=(h.alloc x).cell o
def LayPost (w:World) (br:Nat) (s:ByteArray) (bz:Nat) (σ:RV) (zs:List Value) (tv k sv:Value) (B n:Nat) (xs:List Value) (w':World):Prop:=
 ∃ tv',RAt w' br s bz σ∧Blk w' bz (tv'::zs) 47∧w'.ownsRow B 77 2 tv' (n+1) (xs++[k,sv])∧Fr w w' (fun x=>x=bz∨tv.ownBlock=some x)∧(tv'.ownBlock=tv.ownBlock∨∃ g,tv'.ownBlock=some g∧w.heap.size≤g)
set_option maxHeartbeats 1000000 in
theorem lay_any {w:World}{br:Nat}{s:ByteArray}{bz:Nat}{σ:RV}{zs:List Value}{tv k sv:Value}{B n:Nat}{xs:List Value}(h:RAt w br s bz σ) (hz:Blk w bz (tv::zs) 47)
 (hown:w.ownsRow B 77 2 tv n xs) (hk:k.oneCell'=true) (hsv:sv.oneCell'=true) (hn:n≤1000) (hB:B≤w.heap.size) (hrB:br<B) (hzB:bz<B) (hrz:br≠bz) :
 Calls Tryz.prog 70 #[.pointer (some ⟨br,0,none⟩),.agg #[k,sv]] w fun e w'=>e=.returned (.int .i64 n)∧LayPost w br s bz σ zs tv k sv B n xs w':=by
 obtain⟨ti,hi1,hi2,hi3,hi4⟩:=info_parts i_Type
 have hX:∀ W,Fr w W (fun _=>False)→W.ownsRow B 77 2 tv n xs:=fun W hf=>ownsRow_fr hown hf (fun _ _=>id)
 have hnr:=own_ne hown hrB
 have hnz:=own_ne hown hzB
 go_enter Tryz.func70,Tryz.ntmps70
 go_wp2_with fail
 have h1:RAt (w.alloc (.cells #[k,sv] 77)) br s bz σ:=Blk.alloc h _
 have z1:=Blk.alloc hz (.cells #[k,sv] 77)
 have n1:=Blk.new w #[k,sv] 77
 have F1:Fr w (w.alloc (.cells #[k,sv] 77)) (fun _=>False):=(Fr.refl w _).alloc _
 generalize w.alloc (.cells #[k,sv] 77)=W1 at *
 have c3:=h1.c3
 have c3a:=fun x=>Blk.cellAlloc h1 3 x
 have z0:=z1.cell 0
 have z0a:=fun x=>z1.cellAlloc 0 x
 have b0:=n1.cell 0
 have b1:=n1.cell 1
 simp only[List.getElem?_cons_zero,List.getElem?_cons_succ,RV.cells] at c3a z0 z0a b0 b1
 refine wp_regionC 16 (fun W=>W.cell? ⟨br,3,none⟩=some (.pointer (some ⟨bz,0,none⟩))∧W.cell? ⟨bz,0,none⟩=some tv∧W.cell? ⟨w.heap.size,0,none⟩=some k∧W.cell? ⟨w.heap.size,1,none⟩=some sv) (by kernel_rfl) ?_
 refine wpAnyC_take 0 ?v0 rfl (by kernel_rfl) (fun _ _ _ h=>h) (by rfl) ?y0 ?_
 case y0=>(intro W hW;obtain⟨q1,q2,q3,q4⟩:=hW;go_simp;rfl)
 refine wpAnyC_take 1 ?v1 rfl (by kernel_rfl) (fun _ _ _ h=>h) (by rfl) ?y1 ?_
 case y1=>(intro W hW;obtain⟨q1,q2,q3,q4⟩:=hW;go_simp;rfl)
 refine wpAnyC_take 2 ?v2 rfl (by kernel_rfl) (fun _ _ _ h=>h) (by rfl) ?y2 ?_
 case y2=>(intro W hW;obtain⟨q1,q2,q3,q4⟩:=hW;go_simp;rfl)
 refine wpAnyC_take 3 ?v3 rfl (by kernel_rfl) (fun _ _ _ h=>h) (by rfl) ?y3 ?_
 case y3=>(intro W hW;obtain⟨q1,q2,q3,q4⟩:=hW;go_simp;rfl)
 refine wpAnyC_take 4 ?v4 rfl (by kernel_rfl) (fun _ _ _ h=>h) (by rfl) ?y4 ?_
 case y4=>(intro W hW;obtain⟨q1,q2,q3,q4⟩:=hW;go_simp;rfl)
 refine wpAnyC_take 5 ?v5 rfl (by kernel_rfl) (fun _ _ _ h=>h) (by rfl) ?y5 ?_
 case y5=>(intro W hW;obtain⟨q1,q2,q3,q4⟩:=hW;go_simp;rfl)
 refine wpAnyC_take 6 ?v6 rfl (by kernel_rfl) (fun _ _ _ h=>h) (by rfl) ?y6 ?_
 case y6=>(intro W hW;obtain⟨q1,q2,q3,q4⟩:=hW;go_simp;rfl)
 refine wpAnyC_take 7 ?v7 rfl (by kernel_rfl) (fun _ _ _ h=>h) (by rfl) ?y7 ?_
 case y7=>(intro W hW;obtain⟨q1,q2,q3,q4⟩:=hW;go_simp;rfl)
 refine wpAnyC_take 8 ?v8 rfl (by kernel_rfl) (fun _ _ _ h=>h) (by rfl) ?y8 ?_
 case y8=>(intro W hW;obtain⟨q1,q2,q3,q4⟩:=hW;go_simp;rfl)
 refine wpAnyC_take 9 ?v9 rfl (by kernel_rfl) (fun _ _ _ h=>h) (by rfl) ?y9 ?_
 case y9=>(intro W hW;obtain⟨q1,q2,q3,q4⟩:=hW;go_simp;rfl)
 refine wpAnyC_take 10 ?v10 rfl (by kernel_rfl) (fun _ _ _ h=>h) (by rfl) ?y10 ?_
 case y10=>(intro W hW;obtain⟨q1,q2,q3,q4⟩:=hW;go_simp;rfl)
 refine wpAnyC_take 11 ?v11 rfl (by kernel_rfl) (fun _ _ _ h=>h) (by rfl) ?y11 ?_
 case y11=>(intro W hW;obtain⟨q1,q2,q3,q4⟩:=hW;go_simp;rfl)
 refine wpAnyC_one 12 rfl (by kernel_rfl) (fun _=>⟨c3,z0,b0,b1⟩) (fun K hK=>?_)
 go_simp
 refine hK _ _ ?_
 clear hK K
 have c3a:=c3a (.cells #[k,sv] 77)
 have z0a:=z0a (.cells #[k,sv] 77)
 have b0a:=(n1.alloc (.cells #[k,sv] 77)).cell 0
 have b1a:=(n1.alloc (.cells #[k,sv] 77)).cell 1
 refine wpAnyC_one 13 rfl (by kernel_rfl) (fun _=>⟨c3a,z0a,b0a,b1a⟩) (fun K hK=>?_)
 refine step_append_own_at rfl (.tmp 15) (.tmp 17) 41 rfl B 77 ti _ 2 32 u_Type hi1 hi2 hi3 hi4 rfl (by decide) tv n xs (by simp[Act.eval]) (hX _ ((F1.alloc _).drew)) _ 1 1 [k,sv] (by simp[Act.eval];rfl) (by simp) (news_new _ _ _ _ (by simp)) (by simp[hk,hsv]) (by simp[maxLen];omega) (by omega) (by have:=F1.size;simp;omega) ?_
 intro v' w' ho hgr hat
 refine hK _ _ ?_
 clear hK K
 have hF:Fr w w' (fun x=>tv.ownBlock=some x):=Fr.grown (((F1.mono (fun _ _ f=>f.elim)).alloc _).drew) hgr (fun k e _=>e)
 have h3:RAt w' br s bz σ:=hF.blk h hnr
 have z3:=hF.blk hz hnz
 have c3':=h3.c3
 have z0':=z3.cell 0
 have f0':=z3.thaw 0
 simp only[List.getElem?_cons_zero] at z0'
 have n3:=Fr.blk (Fr.grown (((Fr.refl W1 (fun x=>tv.ownBlock=some x)).alloc _).drew) hgr (fun k e _=>e)) n1 (fun e=>by have:=hown.lt _ e;omega)
 have hat':v'.ownBlock=tv.ownBlock∨∃ g,v'.ownBlock=some g∧w.heap.size≤g:=hat.imp id (fun e=>⟨_,e,by have:=F1.size;simp;omega⟩)
 have b0':=n3.cell 0
 have b1':=n3.cell 1
 obtain⟨g,cap,rfl⟩:=own_form ho (by omega)
 clear hgr hat
 refine wpAnyC_one 14 rfl (by kernel_rfl) (fun _=>⟨c3',z0',b0',b1'⟩) (fun K hK=>?_)
 go_simp
 refine hK _ _ ?_
 clear hK K
 refine wpAnyC_one 15 rfl (by kernel_rfl) (fun _=>⟨c3',z0',b0',b1'⟩) (fun K hK=>?_)
 go_simp
 refine hK _ _ ?_
 clear hK K
 refine wpAnyC_one 16 rfl (by kernel_rfl) (fun _=>⟨c3',z0',b0',b1'⟩) (fun K hK=>?_)
 go_simp
 refine hK _ _ ?_
 clear hK K
 refine wpAnyC_done (by kernel_rfl) (fun hm=>absurd hm (by decide)) ?_ _
 go_wp2
 go_ret
 refine⟨rfl,?_⟩
 exact⟨_,Blk.other h3 _ hrz,Blk.set z3 0 _,ownsRow_fr ho (Fr.one _ _ _) (fun g hg e=>own_ne ho hzB (by rw[hg];exact congrArg some e)),Fr.setCell (hF.mono (fun _ _ e=>.inr e)) _ _ (fun _=>.inl rfl),hat'⟩
open Go.RowKit
def SubsAt (w:World) (B:Nat) (tv u sv:Value) (l:List Nat):Prop:=
 w.ownsRow B 3 1 sv l.length (l.map fun (n:Nat)=>Value.int .i64 (n:Int))∧∀ g,sv.ownBlock=some g→tv.ownBlock≠some g∧u.ownBlock≠some g
def TysAt (w:World) (X:Nat→Prop) (B:Nat) (tv u:Value) (ts:List TR):Prop:=
 ∃ xs,w.ownsRow B 77 2 tv ts.length xs∧∀ k t,ts[k]?=some t→∃ sv,xs[2*k]?=some (.int .u8 (t.kind:Int))∧xs[2*k+1]?=some sv∧SubsAt w B tv u sv t.subs∧∀ g,X g→sv.ownBlock≠some g
def useCells (us:List (Nat×Nat)):List Value:=us.flatMap fun p=>[.int .u8 (p.1:Int),.int .i64 (p.2:Int)]
structure Rep (w:World) (X:Nat→Prop) (br bz B:Nat) (s:ByteArray) (i:Nat) (bad:Bool) (wr mx:Int) (ts:List TR) (us:List (Nat×Nat)) (zs:List Value) (tv u:Value):Prop where
 here:RAt w br s bz ⟨i,bad,u,wr,mx⟩
 z:Blk w bz (tv::zs) 47
 tys:TysAt w X B tv u ts
 uses:w.ownsRow B 68 2 u us.length (useCells us)
 apart:∀ g,tv.ownBlock=some g→u.ownBlock≠some g
 rB:br<B
 zB:bz<B
 hB:B≤w.heap.size
 rz:br≠bz
 il:i≤s.size
 sl:s.size≤300
 tl:ts.length≤i
 ul:us.length≤i
 av:∀ g,X g→g<w.heap.size∧g≠br∧g≠bz∧tv.ownBlock≠some g∧u.ownBlock≠some g
structure Step (w w':World) (br bz:Nat) (tv u tv' u':Value):Prop where
 fr:Fr w w' (fun x=>x=br∨x=bz∨tv.ownBlock=some x∨u.ownBlock=some x)
 tvb:tv'.ownBlock=tv.ownBlock∨∃ g,tv'.ownBlock=some g∧w.heap.size≤g
 ub:u'.ownBlock=u.ownBlock∨∃ g,u'.ownBlock=some g∧w.heap.size≤g
theorem Step.refl (w:World) (br bz:Nat) (tv u:Value):Step w w br bz tv u tv u:=⟨Fr.refl _ _,.inl rfl,.inl rfl⟩
theorem Step.trans {a b c:World}{br bz:Nat}{tv u tv' u' tv'' u'':Value}(h:Step a b br bz tv u tv' u') (k:Step b c br bz tv' u' tv'' u''):Step a c br bz tv u tv'' u'':=by
 refine⟨h.fr.trans k.fr (fun x hx hT=>?_),?_,?_⟩
 ·rcases hT with e|e|e|e
  ·exact .inl e
  ·exact .inr (.inl e)
  ·rcases h.tvb with q|⟨g,q,hg⟩
   ·exact .inr (.inr (.inl (q▸e)))
   ·rw[q] at e;cases e;omega
  ·rcases h.ub with q|⟨g,q,hg⟩
   ·exact .inr (.inr (.inr (q▸e)))
   ·rw[q] at e;cases e;omega
 ·rcases k.tvb with q|⟨g,q,hg⟩
  ·rw[q];exact h.tvb
  ·exact .inr ⟨g,q,Nat.le_trans h.fr.size hg⟩
 ·rcases k.ub with q|⟨g,q,hg⟩
  ·rw[q];exact h.ub
  ·exact .inr ⟨g,q,Nat.le_trans h.fr.size hg⟩
theorem Step.subs {w w':World}{br bz B:Nat}{tv u tv' u' sv:Value}{l:List Nat}(h:Step w w' br bz tv u tv' u') (hs:SubsAt w B tv u sv l) (hr:br<B) (hz:bz<B):SubsAt w' B tv' u' sv l:=by
 refine⟨ownsRow_fr hs.1 h.fr (fun g hg hS=>?_),fun g hg=>?_⟩
 ·have:=hs.1.lt g hg
  rcases hS with e|e|e|e
  ·omega
  ·omega
  ·exact(hs.2 g hg).1 e
  ·exact(hs.2 g hg).2 e
 ·have:=hs.1.lt g hg
  refine⟨fun e=>?_,fun e=>?_⟩
  ·rcases h.tvb with q|⟨x,q,hx⟩
   ·exact(hs.2 g hg).1 (q▸e)
   ·rw[q] at e;cases e;omega
  ·rcases h.ub with q|⟨x,q,hx⟩
   ·exact(hs.2 g hg).2 (q▸e)
   ·rw[q] at e;cases e;omega
theorem subs_nil (w:World) (B:Nat) (tv u:Value):SubsAt w B tv u (.slice none 0 0) []:=⟨World.ownsRow_nil _ _ _ _,fun g hg=>by simp[Value.ownBlock] at hg⟩
section
variable {w w':World} {X:Nat→Prop} {br bz B:Nat} {s:ByteArray} {i j:Nat} {bad bad':Bool} {wr mx wr' mx':Int} {ts:List TR} {us:List (Nat×Nat)} {zs:List Value} {tv u:Value}
theorem Rep.move (R:Rep w X br bz B s i bad wr mx ts us zs tv u) (hf:Fr w w' (· = br)) (ha:RAt w' br s bz ⟨j,bad',u,wr',mx'⟩) (h1:i≤j) (h2:j≤s.size) :
 Rep w' X br bz B s j bad' wr' mx' ts us zs tv u∧Step w w' br bz tv u tv u:=by
 have hS:Step w w' br bz tv u tv u:=⟨hf.mono (fun _ _ e=>.inl e),.inl rfl,.inl rfl⟩
 refine⟨⟨ha,hf.blk R.z (Ne.symm R.rz),?_,ownsRow_fr R.uses hf (fun g hg e=>own_ne R.uses R.rB (e▸hg)),R.apart,R.rB,R.zB,Nat.le_trans R.hB hf.size,R.rz,h2,R.sl,Nat.le_trans R.tl h1,Nat.le_trans R.ul h1,fun g hg=>⟨Nat.lt_of_lt_of_le (R.av g hg).1 hf.size,(R.av g hg).2⟩⟩,hS⟩
 obtain⟨xs,hx,hk⟩:=R.tys
 refine⟨xs,ownsRow_fr hx hf (fun g hg e=>own_ne hx R.rB (e▸hg)),fun k t ht=>?_⟩
 obtain⟨sv,a,b,c,d⟩:=hk k t ht
 exact⟨sv,a,b,hS.subs c R.rB R.zB,d⟩
theorem Rep.still (R:Rep w X br bz B s i bad wr mx ts us zs tv u) (hw:Still w w'):Rep w' X br bz B s i bad wr mx ts us zs tv u:=by
 obtain⟨n,rfl⟩:=hw
 exact⟨R.here,R.z,R.tys,R.uses,R.apart,R.rB,R.zB,R.hB,R.rz,R.il,R.sl,R.tl,R.ul,R.av⟩
theorem Step.still {a:World}{tv' u':Value}(h:Step a w br bz tv u tv' u') (hw:Still w w'):Step a w' br bz tv u tv' u':=⟨h.fr.still hw,h.tvb,h.ub⟩
theorem Step.ofStill (hw:Still w w'):Step w w' br bz tv u tv u:=(Step.refl w br bz tv u).still hw
theorem Rep.inc (R:Rep w X br bz B s i bad wr mx ts us zs tv u) (h:i<s.size) :
 Rep (w.setCell ⟨br,1,none⟩ (.int .i64 ((i:Int)+1))) X br bz B s (i+1) bad wr mx ts us zs tv u∧Step w (w.setCell ⟨br,1,none⟩ (.int .i64 ((i:Int)+1))) br bz tv u tv u:=
 R.move (Fr.one _ _ _) (RAt.setI R.here (i+1)) (by omega) (by omega)
theorem Rep.spoil (R:Rep w X br bz B s i bad wr mx ts us zs tv u) :
 Rep (w.setCell ⟨br,2,none⟩ (.bool true)) X br bz B s i true wr mx ts us zs tv u∧Step w (w.setCell ⟨br,2,none⟩ (.bool true)) br bz tv u tv u:=
 R.move (Fr.one _ _ _) (RAt.setBad R.here true) (Nat.le_refl _) R.il
theorem Rep.setMx (R:Rep w X br bz B s i bad wr mx ts us zs tv u) (m:Int) :
 Rep (w.setCell ⟨br,6,none⟩ (.int .i64 m)) X br bz B s i bad wr m ts us zs tv u∧Step w (w.setCell ⟨br,6,none⟩ (.int .i64 m)) br bz tv u tv u:=
 R.move (Fr.one _ _ _) (RAt.setMx R.here m) (Nat.le_refl _) R.il
theorem Rep.fewer (R:Rep w X br bz B s i bad wr mx ts us zs tv u){Y:Nat→Prop}(hY:∀ g,Y g→X g):Rep w Y br bz B s i bad wr mx ts us zs tv u:=by
 refine⟨R.here,R.z,?_,R.uses,R.apart,R.rB,R.zB,R.hB,R.rz,R.il,R.sl,R.tl,R.ul,fun g hg=>R.av g (hY g hg)⟩
 obtain⟨xs,hx,hk⟩:=R.tys
 refine⟨xs,hx,fun k t ht=>?_⟩
 obtain⟨sv,a,b,c,d⟩:=hk k t ht
 exact⟨sv,a,b,c,fun g hg=>d g (hY g hg)⟩
theorem Rep.out (R:Rep w X br bz B s i bad wr mx ts us zs tv u) (hf:Fr w w' X):Rep w' (fun g=>X g∨(w.heap.size≤g∧g<w'.heap.size)) br bz B s i bad wr mx ts us zs tv u:=by
 obtain⟨xs,hx,hk⟩:=R.tys
 have hb:=R.here.lt
 have hbz:=R.z.lt
 refine⟨hf.blk R.here (fun h=>(R.av _ h).2.1 rfl),hf.blk R.z (fun h=>(R.av _ h).2.2.1 rfl),⟨xs,ownsRow_fr hx hf (fun g hg h=>(R.av g h).2.2.2.1 hg),fun k t ht=>?_⟩,ownsRow_fr R.uses hf (fun g hg h=>(R.av g h).2.2.2.2 hg),R.apart,R.rB,R.zB,Nat.le_trans R.hB hf.size,R.rz,R.il,R.sl,R.tl,R.ul,fun g hg=>?_⟩
 ·obtain⟨sv,a,b,c,d⟩:=hk k t ht
  refine⟨sv,a,b,⟨ownsRow_fr c.1 hf (fun g hg h=>d g h hg),c.2⟩,fun g hg=>?_⟩
  rcases hg with hg|hg
  ·exact d g hg
  ·intro e
   have:=c.1.lt g e
   omega
 ·rcases hg with hg|hg
  ·exact⟨Nat.lt_of_lt_of_le (R.av g hg).1 hf.size,(R.av g hg).2⟩
  ·refine⟨hg.2,by omega,by omega,fun e=>?_,fun e=>?_⟩
   ·have:=hx.lt g e;omega
   ·have:=R.uses.lt g e;omega
theorem Step.out {a:World}{tv' u':Value}(h:Step a w br bz tv u tv' u') (hf:Fr w w' X) (hX:∀ g,X g→a.heap.size≤g):Step a w' br bz tv u tv' u':=
 ⟨h.fr.trans hf (fun x hx hT=>absurd (hX x hT) (by omega)),h.tvb,h.ub⟩
theorem Rep.alloc (R:Rep w X br bz B s i bad wr mx ts us zs tv u) (o:Obj):Rep (w.alloc o) X br bz B s i bad wr mx ts us zs tv u∧Step w (w.alloc o) br bz tv u tv u:=
 ⟨(R.out ((Fr.refl w _).alloc o)).fewer (fun _ h=>.inl h),⟨(Fr.refl w _).alloc o,.inl rfl,.inl rfl⟩⟩
end
def LayRep (w:World) (X:Nat→Prop) (br bz B:Nat) (s:ByteArray) (i:Nat) (bad:Bool) (wr mx:Int) (ts:List TR) (us:List (Nat×Nat)) (zs:List Value) (tv u:Value) (c:Nat) (l:List Nat) (w':World):Prop:=
 ∃ tv',Rep w' X br bz B s i bad wr mx (ts++[⟨c,l⟩]) us zs tv' u∧Step w w' br bz tv u tv' u
theorem slice_one {w:World}{base size n:Nat}{e:TypeId}{v:Value}{xs:List Value}(h:w.ownsRow base e size v n xs):v.oneCell'=true:=by
 rcases h.2 with⟨rfl,_⟩|⟨g,cap,_,rfl,_⟩ <;> rfl
theorem lay_rep {w:World}{X:Nat→Prop}{br bz B:Nat}{s:ByteArray}{i:Nat}{bad:Bool}{wr mx:Int}{ts:List TR}{us:List (Nat×Nat)}{zs:List Value}{tv u sv:Value}{c:Nat}{l:List Nat}
 (R:Rep w X br bz B s i bad wr mx ts us zs tv u) (hs:SubsAt w B tv u sv l) (hsX:∀ g,X g→sv.ownBlock≠some g) (hl:ts.length<i) :
 Calls Tryz.prog 70 #[.pointer (some ⟨br,0,none⟩),.agg #[.int .u8 (c:Int),sv]] w fun e w'=>e=.returned (.int .i64 (ts.length:Int))∧LayRep w X br bz B s i bad wr mx ts us zs tv u c l w':=by
 obtain⟨xs,hx,hk⟩:=R.tys
 have hti:=R.il
 have hsl:=R.sl
 refine(lay_any R.here R.z hx rfl (slice_one hs.1) (by omega) R.hB R.rB R.zB R.rz).mono ?_
 rintro e w' ⟨rfl,tv',h1,h2,h3,h4,h5⟩
 refine⟨rfl,tv',?_⟩
 have hS:Step w w' br bz tv u tv' u:=⟨h4.mono (fun _ _ e=>e.elim (fun e=>.inr (.inl e)) (fun e=>.inr (.inr (.inl e)))),h5,.inl rfl⟩
 have hxl:=hx.1
 refine⟨⟨h1,h2,⟨xs++[.int .u8 (c:Int),sv],by simpa using h3,fun k t ht=>?_⟩,?_,?_,R.rB,R.zB,Nat.le_trans R.hB h4.size,R.rz,R.il,R.sl,by rw[List.length_append];exact hl,R.ul,fun g hg=>?_⟩,hS⟩
 ·by_cases hkl:k<ts.length
  ·rw[List.getElem?_append_left hkl] at ht
   obtain⟨sv',a,b,d,d'⟩:=hk k t ht
   exact⟨sv',by rw[List.getElem?_append_left (by omega)];exact a,by rw[List.getElem?_append_left (by omega)];exact b,hS.subs d R.rB R.zB,d'⟩
  ·rw[List.getElem?_append_right (by omega)] at ht
   have hk0:k-ts.length=0:=by
    rcases Nat.eq_zero_or_pos (k-ts.length) with h|h
    ·exact h
    ·rw[List.getElem?_eq_none (by simp;omega)] at ht;cases ht
   rw[hk0] at ht
   simp only[List.getElem?_cons_zero,Option.some.injEq] at ht
   subst ht
   have hkk:k=ts.length:=by omega
   refine⟨sv,?_,?_,hS.subs hs R.rB R.zB,hsX⟩
   ·rw[List.getElem?_append_right (by omega),show 2*k-xs.length=0 by omega];rfl
   ·rw[List.getElem?_append_right (by omega),show 2*k+1-xs.length=1 by omega];rfl
 ·refine ownsRow_fr R.uses h4 (fun g hg e=>?_)
  rcases e with e|e
  ·exact own_ne R.uses R.zB (e▸hg)
  ·exact R.apart g e hg
 ·intro g hg hu
  rcases h5 with q|⟨x,q,hxx⟩
  ·exact R.apart g (q▸hg) hu
  ·rw[q] at hg;cases hg
   have:=R.uses.lt _ hu
   omega
 ·obtain⟨a1,a2,a3,a4,a5⟩:=R.av g hg
  refine⟨Nat.lt_of_lt_of_le a1 h4.size,a2,a3,fun e=>?_,a5⟩
  rcases h5 with q|⟨x,q,hxx⟩
  ·exact a4 (q▸e)
  ·rw[q] at e;cases e;omega
theorem peek_rep {w:World}{X:Nat→Prop}{br bz B:Nat}{s:ByteArray}{i:Nat}{wr mx:Int}{ts:List TR}{us:List (Nat×Nat)}{zs:List Value}{tv u:Value}{c:Nat}(R:Rep w X br bz B s i false wr mx ts us zs tv u) (hc:bt s i=c) :
 Calls Tryz.prog 39 #[.pointer (some ⟨br,0,none⟩)] w fun e w'=>e=.returned (.int .u8 (c:Int))∧Still w w':=by
 have h1:=R.il
 have h2:=R.sl
 refine(peek_any R.here R.sl (by simp only;omega)).mono ?_
 rintro e w' ⟨rfl,hw⟩
 exact⟨by simp only[pk_bt,hc],hw⟩
def TypPost (w:World) (X:Nat→Prop) (br bz B:Nat) (s:ByteArray) (i:Nat) (wr mx:Int) (ts:List TR) (us:List (Nat×Nat)) (zs:List Value) (tv u:Value) (e:Ending) (w':World):Prop:=
 match pT s i with
 | .ok (t,j)=>e=.returned (.int .i64 ((ts.length+(flat ts.length t).length-1:Nat):Int))∧∃ tv' u',Rep w' X br bz B s j false wr (mix t mx) (ts++flat ts.length t) (us++usesOf t) zs tv' u'∧Step w w' br bz tv u tv' u'
 | .error k=>(∃ v:Nat,e=.returned (.int .i64 (v:Int)))∧∃ mx' ts' us' tv' u',Rep w' X br bz B s k true wr mx' ts' us' zs tv' u'∧ts'.length+i≤k+ts.length∧Step w w' br bz tv u tv' u'
def AltsPost (w:World) (X:Nat→Prop) (br bz B:Nat) (s:ByteArray) (i:Nat) (wr mx:Int) (ts:List TR) (us:List (Nat×Nat)) (zs:List Value) (tv u:Value) (e:Ending) (w':World):Prop:=
 ∃ sv tv' u',e=.returned (.agg #[.int .u8 40,sv])∧Step w w' br bz tv u tv' u'∧
 match pA s i with
 | .ok (ds,j)=>if bt s j=41 then Rep w' X br bz B s (j+1) false wr (mixs [] ds mx) (ts++flats ts.length ds) (us++usesAll ds) zs tv' u'∧SubsAt w' B tv' u' sv (nums ts.length ds)∧∀ g,X g→sv.ownBlock≠some g
  else ∃ mx' ts' us' l,Rep w' X br bz B s j true wr mx' ts' us' zs tv' u'∧ts'.length+i≤j+ts.length∧SubsAt w' B tv' u' sv l∧∀ g,X g→sv.ownBlock≠some g
 | .error k=>∃ mx' ts' us' l,Rep w' X br bz B s k true wr mx' ts' us' zs tv' u'∧ts'.length+i≤k+ts.length∧SubsAt w' B tv' u' sv l∧∀ g,X g→sv.ownBlock≠some g
def TypOK (s:ByteArray) (i:Nat):Prop:=∀ (w:World) (X:Nat→Prop) (br bz B:Nat) (wr mx:Int) (ts:List TR) (us:List (Nat×Nat)) (zs:List Value) (tv u:Value),Rep w X br bz B s i false wr mx ts us zs tv u→
 Calls Tryz.prog 42 #[.pointer (some ⟨br,0,none⟩)] w (TypPost w X br bz B s i wr mx ts us zs tv u)
def AltsOK (s:ByteArray) (i:Nat):Prop:=∀ (w:World) (X:Nat→Prop) (br bz B:Nat) (wr mx:Int) (ts:List TR) (us:List (Nat×Nat)) (zs:List Value) (tv u:Value),Rep w X br bz B s i false wr mx ts us zs tv u→
 Calls Tryz.prog 71 #[.pointer (some ⟨br,0,none⟩)] w (AltsPost w X br bz B s i wr mx ts us zs tv u)
open Go.RowKit
theorem pT_base {s:ByteArray}{i:Nat}(h:isBase (bt s i)=true):pT s i=.ok (.leaf (bt s i) i,i+1):=by
 rw[pT_eq];unfold stepT;rw[if_pos h]
theorem pT_wrap {s:ByteArray}{i:Nat}(h:bt s i=91∨bt s i=123):pT s i =
 match pT s (i+1) with
 | .error k=>.error k
 | .ok (t,j)=>if bt s j=closing (bt s i) then .ok (.wrap (bt s i) i t,j+1) else .error j:=by
 rw[pT_eq];unfold stepT;rw[if_neg (by rcases h with h|h <;> rw[h] <;> decide),if_pos h];rfl
theorem pT_alts {s:ByteArray}{i:Nat}(h:bt s i=40):pT s i =
 match pA s (i+1) with
 | .error k=>.error k
 | .ok (ts,j)=>if bt s j=41 then .ok (.alts i ts,j+1) else .error j:=by
 rw[pT_eq];unfold stepT;rw[if_neg (by rw[h];decide),if_neg (by omega),if_pos h];rfl
theorem pT_name {s:ByteArray}{i:Nat}(h:65≤bt s i∧bt s i≤70):pT s i=.ok (.leaf (bt s i) i,i+1):=by
 rw[pT_eq];unfold stepT
 rw[if_neg (by simp only[isBase,Bool.or_eq_true,beq_iff_eq];omega),if_neg (by omega),if_neg (by omega),if_pos (by simp[isName,h])]
theorem pT_bad {s:ByteArray}{i:Nat}(h1:¬ isBase (bt s i)=true) (h2:¬ (bt s i=91∨bt s i=123)) (h3:¬ bt s i=40) (h4:¬ (65≤bt s i∧bt s i≤70)):pT s i=.error i:=by
 rw[pT_eq];unfold stepT
 rw[if_neg h1,if_neg h2,if_neg h3,if_neg (by simp only[isName,Bool.and_eq_true,decide_eq_true_eq];exact h4)]
set_option maxHeartbeats 1000000 in
theorem typ_base {s:ByteArray}{i:Nat}(hb:isBase (bt s i)=true):TypOK s i:=by
 intro w X br bz B wr mx ts us zs tv u R
 have hil:i<s.size:=bt_pos (isBase_pos hb)
 have hsl:=R.sl
 have hPT:=pT_base hb
 generalize hc:bt s i=c at *
 have hcc:c=110∨c=116∨c=105∨c=108∨c=115:=by simp only[isBase,Bool.or_eq_true,beq_iff_eq] at hb;omega
 have fin:Hid (∀ (e:Ending) (w':World),(e=.returned (.int .i64 (ts.length:Int))∧∃ tv',Rep w' X br bz B s (i+1) false wr mx (ts++[⟨c,[]⟩]) us zs tv' u∧Step w w' br bz tv u tv' u)→TypPost w X br bz B s i wr mx ts us zs tv u e w'):=by
  rintro e w' ⟨rfl,tv',h1,h2⟩
  unfold TypPost
  rw[hPT]
  refine⟨by simp[flat],tv',u,?_,h2⟩
  simpa[mix,flat,usesOf,hb] using h1
 generalize TypPost w X br bz B s i wr mx ts us zs tv u=POST at *
 clear hPT
 rcases hcc with rfl|rfl|rfl|rfl|rfl
 all_goals
  go_enter Tryz.func42,Tryz.ntmps42
  go_wp2_with (first
   |(go_at_call 39;refine(peek_rep R hc).mono ?_;rintro e w1 ⟨rfl,hw⟩;have R1:=R.still hw;have c1:=R1.here.c1;have f1:=R1.here.thaw 1)
   |(go_at_call 70;refine(lay_rep (R1.inc hil).1 (subs_nil _ _ _ _) (fun _ _=>nofun) (by have:=R.tl;omega)).mono ?_;rintro e w2 ⟨rfl,hL⟩))
  try go_ret
  obtain⟨tv',r,st⟩:=hL
  exact fin.out _ _ ⟨rfl,tv',r,((Step.ofStill hw).trans (R1.inc hil).2).trans st⟩
set_option maxHeartbeats 1000000 in
theorem typ_bad {s:ByteArray}{i:Nat}(h1:¬ isBase (bt s i)=true) (h2:¬ (bt s i=91∨bt s i=123)) (h3:¬ bt s i=40) (h4:¬ (65≤bt s i∧bt s i≤70)):TypOK s i:=by
 intro w X br bz B wr mx ts us zs tv u R
 have hPT:=pT_bad h1 h2 h3 h4
 generalize hc:bt s i=c at *
 have fin:Hid (∀ (e:Ending) (w':World),(e=.returned (.int .i64 0)∧Rep w' X br bz B s i true wr mx ts us zs tv u∧Step w w' br bz tv u tv u)→TypPost w X br bz B s i wr mx ts us zs tv u e w'):=by
  rintro e w' ⟨rfl,r,st⟩
  unfold TypPost
  rw[hPT]
  exact⟨⟨0,rfl⟩,mx,ts,us,tv,u,r,by omega,st⟩
 generalize TypPost w X br bz B s i wr mx ts us zs tv u=POST at *
 clear hPT
 have n1:((c:Int)==110)=false:=by simp[isBase] at h1⊢;omega
 have n2:((c:Int)==116)=false:=by simp[isBase] at h1⊢;omega
 have n3:((c:Int)==105)=false:=by simp[isBase] at h1⊢;omega
 have n4:((c:Int)==108)=false:=by simp[isBase] at h1⊢;omega
 have n5:((c:Int)==115)=false:=by simp[isBase] at h1⊢;omega
 have n6:((c:Int)==91)=false:=by simp;omega
 have n7:((c:Int)==123)=false:=by simp;omega
 have n8:((c:Int)==40)=false:=by simp;omega
 have n9:(decide ((65:Int)≤(c:Int))&&decide ((c:Int)≤70))=false:=by simp;omega
 clear h1 h2 h3 h4
 go_enter Tryz.func42,Tryz.ntmps42
 go_wp2_with (first
  |(go_at_call 39;refine(peek_rep R hc).mono ?_;rintro e w1 ⟨rfl,hw⟩;have R1:=R.still hw;have c1:=R1.here.c2;have f1:=R1.here.thaw 2)
  |(go_at_call 38;refine(within_any _ _ _ _).mono ?_;rintro e w2 ⟨rfl,rfl⟩;rw[n9]))
 try go_ret
 exact fin.out _ _ ⟨rfl,R1.spoil.1,(Step.ofStill hw).trans R1.spoil.2⟩
end Go.Proofs.YtiifagiebikmdaaGreatDoor
