import Derived.Test.YtiifagiebikmdaaGreatDoorW00
import Derived.WalkKit
import Derived.WalkSpells
import Derived.WalkLawsBesides
import Derived.Deep.QuietTactic
import Derived.BigQuiet
import Derived.Maps.AppendAt
import Derived.Deep.RegionLaw
import Derived.Test.YtiifagiebikmdaaGreatDoorW01
import Derived.Deep.LoopGhost
import Derived.Test.YtiifagiebikmdaaGreatDoorA00
set_option maxHeartbeats 16000000
set_option maxRecDepth 100000
set_option linter.unusedSimpArgs false
open Go.Proofs.Tryz
namespace Go.Proofs.YtiifagiebikmdaaGreatDoor
open Go.RowKit
variable {b t c n base size i' k N:Nat}{l cs xs:List Value}{v0 v1 v2 v3 v4 u' v5 tv' v v6 v7:Value}{a:World}{S:Nat->Prop}{e:TypeId}{ds:List PT}{kb:BA}
def Blk (w:World) (b:Nat) (cs:List Value) (t:TypeId):Prop:=w.heap[b]?=some (.cells cs.toArray t (0,0))
theorem Blk.cell {w:World}(h:Blk w b cs t) (o:Nat):w.cell? ⟨b,o,none⟩=cs[o]?:=by
 unfold Blk at h
 simp[World.cell?,h]
theorem Blk.thaw {w:World}(h:Blk w b cs t) (o:Nat):w.frozen? ⟨b,o,none⟩=false:=by
 unfold Blk at h
 simp[World.frozen?,h]
theorem Blk.c0 {w:World}(h:Blk w b (v0::l) t):w.cell? ⟨b,0,none⟩=some v0:=h.cell 0
theorem Blk.c1 {w:World}(h:Blk w b (v0::v1::l) t):w.cell? ⟨b,1,none⟩=some v1:=h.cell 1
theorem Blk.c2 {w:World}(h:Blk w b (v0::v1::v2::l) t):w.cell? ⟨b,2,none⟩=some v2:=h.cell 2
theorem Blk.c3 {w:World}(h:Blk w b (v0::v1::v2::v3::l) t):w.cell? ⟨b,3,none⟩=some v3:=h.cell 3
theorem Blk.c4 {w:World}(h:Blk w b (v0::v1::v2::v3::v4::l) t):w.cell? ⟨b,4,none⟩=some v4:=h.cell 4
theorem Blk.c5 {w:World}(h:Blk w b (v0::v1::v2::v3::v4::v5::l) t):w.cell? ⟨b,5,none⟩=some v5:=h.cell 5
theorem Blk.c6 {w:World}(h:Blk w b (v0::v1::v2::v3::v4::v5::v6::l) t):w.cell? ⟨b,6,none⟩=some v6:=h.cell 6
theorem Blk.c7 {w:World}(h:Blk w b (v0::v1::v2::v3::v4::v5::v6::v7::l) t):w.cell? ⟨b,7,none⟩=some v7:=h.cell 7
theorem Blk.c8 {w:World}{d:Value}(h:Blk w b (v0::v1::v2::v3::v4::v5::v6::v7::d::l) t):w.cell? ⟨b,8,none⟩=some d:=h.cell 8
theorem Blk.c9 {w:World}{f d:Value}(h:Blk w b (v0::v1::v2::v3::v4::v5::v6::v7::f::d::l) t):w.cell? ⟨b,9,none⟩=some d:=h.cell 9
theorem Blk.d3 {w:World}(h:Blk w b (v0::v1::v2::l) t):w.cell? ⟨b,0,none⟩=some v0/\w.cell? ⟨b,1,none⟩=some v1/\w.cell? ⟨b,2,none⟩=some v2:=⟨h.cell 0,h.cell 1,h.cell 2⟩
theorem Blk.d4 {w:World}(h:Blk w b (v0::v1::v2::v3::l) t):w.cell? ⟨b,0,none⟩=some v0/\w.cell? ⟨b,1,none⟩=some v1/\w.cell? ⟨b,2,none⟩=some v2/\w.cell? ⟨b,3,none⟩=some v3:=⟨h.cell 0,h.cell 1,h.cell 2,h.cell 3⟩
theorem Blk.d5 {w:World}(h:Blk w b (v0::v1::v2::v3::v4::l) t):w.cell? ⟨b,0,none⟩=some v0/\w.cell? ⟨b,1,none⟩=some v1/\w.cell? ⟨b,2,none⟩=some v2/\w.cell? ⟨b,3,none⟩=some v3/\w.cell? ⟨b,4,none⟩=some v4:=⟨h.cell 0,h.cell 1,h.cell 2,h.cell 3,h.cell 4⟩
theorem Blk.t3 {w:World}(h:Blk w b l t):w.frozen? ⟨b,0,none⟩=false/\w.frozen? ⟨b,1,none⟩=false/\w.frozen? ⟨b,2,none⟩=false:=⟨h.thaw 0,h.thaw 1,h.thaw 2⟩
theorem Blk.t4 {w:World}(h:Blk w b l t):w.frozen? ⟨b,0,none⟩=false/\w.frozen? ⟨b,1,none⟩=false/\w.frozen? ⟨b,2,none⟩=false/\w.frozen? ⟨b,3,none⟩=false:=⟨h.thaw 0,h.thaw 1,h.thaw 2,h.thaw 3⟩
theorem Blk.t5 {w:World}(h:Blk w b l t):w.frozen? ⟨b,0,none⟩=false/\w.frozen? ⟨b,1,none⟩=false/\w.frozen? ⟨b,2,none⟩=false/\w.frozen? ⟨b,3,none⟩=false/\w.frozen? ⟨b,4,none⟩=false:=⟨h.thaw 0,h.thaw 1,h.thaw 2,h.thaw 3,h.thaw 4⟩
theorem Blk.lt {w:World}(h:Blk w b cs t):b<w.heap.size:=by
 unfold Blk at h;exact(Array.getElem?_eq_some_iff.1 h).1
theorem Blk.set {w:World}(h:Blk w b cs t) (o:Nat) (v:Value):Blk (w.setCell ⟨b,o,none⟩ v) b (cs.set o v) t:=by
 unfold Blk at *
 simp[World.setCell,Array.getElem?_modify,h]
theorem Blk.other {w:World}(h:Blk w b cs t){a:Addr}(v:Value) (hb:b≠a.block):Blk (w.setCell a v) b cs t:=by
 unfold Blk at *;rw[Below.heap_setCell _ _ _ _ hb];exact h
theorem Blk.alloc {w:World}(h:Blk w b cs t) (o:Obj):Blk (w.alloc o) b cs t:=by
 have hl:=h.lt;unfold Blk at *;rw[Below.heap_alloc _ _ _ hl];exact h
theorem Blk.drew {w:World}(h:Blk w b cs t):Blk w.drew b cs t:=h
theorem Blk.new (w:World) (cs:Array Value) (t:TypeId):Blk (w.alloc (.cells cs t)) w.heap.size cs.toList t:=by
 show(w.heap.push _)[w.heap.size]?=_
 simp
structure Fr (w w':World) (S:Nat->Prop):Prop where
 os:w'.os=w.os
 tape:w'.tape=w.tape
 output:w'.output=w.output
 size:w.heap.size<=w'.heap.size
 block:∀ k,k<w.heap.size->¬ S k->w'.heap[k]?=w.heap[k]?
theorem Fr.refl (w:World) (S:Nat->Prop):Fr w w S:=⟨rfl,rfl,rfl,l_,λ _ _ _=>rfl⟩
theorem Fr.trans {b c:World}{T:Nat->Prop}(h:Fr a b S) (k:Fr b c T) (g:∀ x,x<a.heap.size->T x->S x):Fr a c S:=
 ⟨k.os.trans h.os,k.tape.trans h.tape,k.output.trans h.output,ai_ h.size k.size,λ i d f=>(k.block i (a5_ d h.size) (λ t=>f (g i d t))).trans (h.block i d f)⟩
theorem Fr.mono {b:World}{T:Nat->Prop}(h:Fr a b S) (f:∀ x,x<a.heap.size->S x->T x):Fr a b T:=
 ⟨h.os,h.tape,h.output,h.size,λ i d hn=>h.block i d (λ s=>hn (f i d s))⟩
theorem Fr.drew {b:World}(h:Fr a b S):Fr a b.drew S:=⟨h.os,h.tape,h.output,h.size,h.block⟩
theorem Fr.alloc {b:World}(h:Fr a b S) (o:Obj):Fr a (b.alloc o) S:=
 h.trans ⟨rfl,rfl,rfl,by simp,λ k hk _=>Below.heap_alloc _ _ _ hk⟩ (T:=λ _=>False) v_
theorem Fr.setCell {b:World}(h:Fr a b S) (p:Addr) (v:Value) (f:p.block<a.heap.size->S p.block):Fr a (b.setCell p v) S:=
 h.trans (T:=λ x=>x=p.block) ⟨rfl,rfl,rfl,by simp[World.setCell],λ k _ d=>Below.heap_setCell _ _ _ _ d⟩ (λ _ g e=>e▸f (e▸g))
theorem Fr.grown {b c:World}{row:Option Nat}(h:Fr a b S) (hg:b.grownBy c row) (f:∀ k,row=some k->k<a.heap.size->S k):Fr a c S:=
 h.trans (T:=λ x=>row=some x) ⟨hg.os,hg.tape,hg.output,hg.size,λ k hk d=>hg.block k hk (λ e=>d e.symm)⟩ (λ x g e=>f x e g)
theorem Fr.blk {w w':World}(h:Fr w w' S)(hb:Blk w b cs t) (d:¬ S b):Blk w' b cs t:=by
 have:=h.block b hb.lt d;unfold Blk at *;rw[this];exact hb
def pk (s:BA) (i:Nat) (bad:Bool):Int:=
 if bad=true then 0 else if h:i<s.size then ((s[i]'h).toNat:Int) else 0
structure RV where
 i:Nat
 bad:Bool
 u:Value
 wr:Int
 mx:Int
def RV.cells (s:BA) (bz:Nat) (σ:RV):List Value:=
 [.string s,.int .i64 σ.i,.bool σ.bad,.pointer (some ⟨bz,0,none⟩),σ.u,.int .i64 σ.wr,.int .i64 σ.mx]
def RAt (w:World) (br:Nat) (s:BA) (bz:Nat) (σ:RV):Prop:=Blk w br (σ.cells s bz) 66
section
variable {w:World} {br:Nat} {s:BA} {bz:Nat} {σ:RV}
theorem RAt.c0 (h:RAt w br s bz σ):w.cell? ⟨br,0,none⟩=some (.string s):=by rw[Blk.cell h];rfl
theorem RAt.c1 (h:RAt w br s bz σ):w.cell? ⟨br,1,none⟩=some (.int .i64 σ.i):=by rw[Blk.cell h];rfl
theorem RAt.c2 (h:RAt w br s bz σ):w.cell? ⟨br,2,none⟩=some (.bool σ.bad):=by rw[Blk.cell h];rfl
theorem RAt.c3 (h:RAt w br s bz σ):w.cell? ⟨br,3,none⟩=some (.pointer (some ⟨bz,0,none⟩)):=by rw[Blk.cell h];rfl
theorem RAt.c4 (h:RAt w br s bz σ):w.cell? ⟨br,4,none⟩=some σ.u:=by rw[Blk.cell h];rfl
theorem RAt.c5 (h:RAt w br s bz σ):w.cell? ⟨br,5,none⟩=some (.int .i64 σ.wr):=by rw[Blk.cell h];rfl
theorem RAt.c6 (h:RAt w br s bz σ):w.cell? ⟨br,6,none⟩=some (.int .i64 σ.mx):=by rw[Blk.cell h];rfl
theorem RAt.setI (h:RAt w br s bz σ) (n:Nat):RAt (w.setCell ⟨br,1,none⟩ (.int .i64 n)) br s bz { σ with i:=n }:=Blk.set h 1 _
theorem RAt.setBad (h:RAt w br s bz σ) (x:Bool):RAt (w.setCell ⟨br,2,none⟩ (.bool x)) br s bz { σ with bad:=x }:=Blk.set h 2 _
theorem RAt.setU (h:RAt w br s bz σ) (x:Value):RAt (w.setCell ⟨br,4,none⟩ x) br s bz { σ with u:=x }:=Blk.set h 4 _
theorem RAt.setWr (h:RAt w br s bz σ) (x:Int):RAt (w.setCell ⟨br,5,none⟩ (.int .i64 x)) br s bz { σ with wr:=x }:=Blk.set h 5 _
theorem RAt.setMx (h:RAt w br s bz σ) (x:Int):RAt (w.setCell ⟨br,6,none⟩ (.int .i64 x)) br s bz { σ with mx:=x }:=Blk.set h 6 _
end
theorem RAt.thaw {w:World}{br:Nat}{s:BA}{bz:Nat}{σ:RV}(h:RAt w br s bz σ) (o:Nat):w.frozen? ⟨br,o,none⟩=false:=Blk.thaw h o
theorem Fr.one (w:World) (p:Addr) (v:Value):Fr w (w.setCell p v) (· = p.block):=(Fr.refl w _).setCell p v (λ _=>rfl)
theorem yz_ (c lo d:Int) (w:World) :
 Calls prog 38 #[.int .u8 c,.int .u8 lo,.int .u8 d] w λ e w'=>e=.returned (.bool (decide (lo<=c)&&decide (c<=d)))/\w'=w:=by
 go_in
 go_wp2
 ·go_ret;rename_i h;exact⟨by simp[h],rfl⟩
 ·go_ret;rename_i h;exact⟨by simp[show ¬ lo<=c by omega],rfl⟩
def zd_ (w w':World):Prop:=∃ n,w'=w.drewN n
theorem zd_.refl (w:World):zd_ w w:=⟨0,rfl⟩
theorem zd_.drewN (w:World) (n:Nat):zd_ w (w.drewN n):=⟨n,rfl⟩
theorem zd_.drew (w:World):zd_ w w.drew:=⟨1,rfl⟩
theorem zd_.trans {b c:World}(h:zd_ a b) (k:zd_ b c):zd_ a c:=by
 obtain⟨n,rfl⟩:=h;obtain⟨m,rfl⟩:=k;exact⟨n+m,by simp[World.drewN,bv_]⟩
theorem zcs {w:World}{br:Nat}{s:BA}{bz:Nat}{σ:RV}(h:RAt w br s bz σ) (_hs:s.size<=300) (d:σ.i<=300) :
 Calls prog 39 #[.pointer (some ⟨br,0,none⟩)] w λ e w'=>e=.returned (.int .u8 (pk s σ.i σ.bad))/\zd_ w w':=by
 obtain⟨c0,c1,c2⟩:=h.d3;clear h
 rcases σ with⟨i,bad,u,wr,mx⟩
 simp only at c1 c2 d⊢
 cases bad with
 | true=>
  go_in
  go_wp2
  go_quiet (fail)
  go_wp2
  go_ret
  exact⟨by simp[pk],_,rfl⟩
 | false=>
  by_cases hl:i<s.size
  ·have f:(i:Int)<(s.size:Int):=by omega
   go_in
   go_wp2
   go_quiet (fail)
   go_wp2
   go_quiet (fail)
   go_wp2
   go_ret
   exact⟨by simp[pk,hl],(zd_.drewN _ _).trans (zd_.drewN _ _)⟩
  ·go_in
   go_wp2
   go_quiet (fail)
   go_wp2
   go_ret
   refine⟨by simp[pk];omega,?_⟩;exact⟨_,rfl⟩
def RV.eat (s:BA) (c:Int) (σ:RV):RV:=if pk s σ.i σ.bad=c then { σ with i:=σ.i+1 } else { σ with bad:=true }
theorem RAt.still {w w':World}{br:Nat}{s:BA}{bz:Nat}{σ:RV}(h:RAt w br s bz σ) (d:zd_ w w'):RAt w' br s bz σ:=by
 obtain⟨n,rfl⟩:=d;exact h
theorem Fr.still {w w':World}(h:Fr a w S) (d:zd_ w w'):Fr a w' S:=by
 obtain⟨n,rfl⟩:=d;exact⟨h.os,h.tape,h.output,h.size,h.block⟩
theorem zw4 {w:World}{br:Nat}{s:BA}{bz:Nat}{σ:RV}{c:Int}(h:RAt w br s bz σ) (hs:s.size<=300) (g:σ.i<=300) :
 Calls prog 40 #[.pointer (some ⟨br,0,none⟩),.int .u8 c] w λ e w'=>e=.returned (.tuple #[])/\RAt w' br s bz (σ.eat s c)/\Fr w w' (· = br):=by
 go_in
 go_wp2_with (go_at_call 39;refine(zcs h hs g).mono ?_;rintro e w' ⟨rfl,f⟩;have d:=h.still f;have c1:=d.c1;have c2:=d.c2;have m:=d.thaw 1;have o:=d.thaw 2)
 ·go_end0
  rename_i hc;exact⟨rfl,by rw[RV.eat,if_pos (by simpa using hc)];exact d.setI (σ.i+1),((Fr.refl w _).still f).setCell _ _ (λ _=>rfl)⟩
 ·go_end0
  rename_i hc;exact⟨rfl,by rw[RV.eat,if_neg (by simpa using hc)];exact d.setBad true,((Fr.refl w _).still f).setCell _ _ (λ _=>rfl)⟩
def RV.wrong (at_:Int) (σ:RV):RV:=if σ.wr<0\/at_<σ.wr then { σ with wr:=at_ } else σ
theorem zp2 {w:World}{br:Nat}{s:BA}{bz:Nat}{σ:RV}{d:Int}(h:RAt w br s bz σ) :
 Calls prog 24 #[.pointer (some ⟨br,0,none⟩),.int .i64 d] w λ e w'=>e=.returned (.tuple #[])/\RAt w' br s bz (σ.wrong d)/\Fr w w' (· = br):=by
 have c5:=h.c5;have m:=h.thaw 5
 by_cases h1:σ.wr<0
 ·go_in
  go_wp2
  go_end0
  exact⟨rfl,by rw[RV.wrong,if_pos (.inl h1)];exact RAt.setWr h d,(Fr.refl w _).setCell _ _ (λ _=>rfl)⟩
 ·by_cases f:d<σ.wr
  ·go_in
   go_wp2
   go_end0
   exact⟨rfl,by rw[RV.wrong,if_pos (.inr f)];exact RAt.setWr h d,(Fr.refl w _).setCell _ _ (λ _=>rfl)⟩
  ·go_in
   go_wp2
   go_end0
   exact⟨rfl,by rw[RV.wrong,if_neg (λ x=>x.elim (λ g=>by omega) (λ g=>by omega))];exact h,Fr.refl w _⟩
theorem zqt (s:BA) (i:Nat):pk s i false=(bt s i:Int):=by
 unfold pk bt;simp;split<;>rfl
def plc (s:BA) (c:Nat):Int:=match s.data.toList.findIdx? (λ b=>b.toNat==c) with|some k=>k|none=>-1
open Go.RowKit
theorem zty {s:BA}(hk:k<s.size) (hc:bt s k=c) (hn:∀ j,j<k->bt s j≠c):plc s c=k:=by
 have:s.data.toList.findIdx? (λ b=>b.toNat==c)=some k:=by
  rw[List.findIdx?_eq_some_iff_getElem];refine⟨by simpa using hk,?_,λ j f=>?_⟩
  ·have:=j5_ s k hk;simp only[beq_iff_eq];rw[<- hc,this];rfl
  ·have g:j<s.size:=by omega
   have:=j5_ s j g;have d:=hn j f;simp only[Bool.not_eq_true,beq_eq_false_iff_ne];intro e
   apply d
   rw[this,<- e];rfl
 simp[plc,this]
theorem ztz {s:BA}(hn:∀ j,j<s.size->bt s j≠c):plc s c = -1:=by
 have:s.data.toList.findIdx? (λ b=>b.toNat==c)=none:=by
  rw[List.findIdx?_eq_none_iff];intro x f;obtain⟨k,hk,rfl⟩:=List.getElem_of_mem f
  have d:k<s.size:=by simpa using hk
  have:=hn k d;rw[j5_ s k d] at this;simp only[beq_eq_false_iff_ne];intro e;apply this;rw[<- e];rfl
 simp[plc,this]
theorem zyk (s:BA) (c:Nat) : -1<=plc s c:=by unfold plc;split<;>omega
theorem jk_ (s:BA) (c:Nat) (w:World) (hs:s.size<=100000) :
 Calls prog 90 #[.string s,.int .u8 c] w λ e w'=>e=.returned (.int .i64 (plc s c))/\w'=w:=by
 go_in
 go_wp2
 go_loop [5] (λ i=>∃ k:Nat,k<=s.size/\i=.int .i64 k/\H_ (∀ j,j<k->bt s j≠c)) (λ i=>s.size-(intOf i).toNat)
 case atStart=>exact⟨0,ak_ _,rfl,λ j d=>absurd d (Nat.not_lt_zero _)⟩
 case round=>
  obtain⟨k,hk,rfl,hn⟩:=hrel
  go_wp2
  ·have f:k<s.size:=by assumption
   have hc:(((s[k]'f).toNat:Int)==(c:Int))=true:=by assumption
   go_ret
   have h:bt s k=c:=by rw[j5_ s k (by omega)];have:=eq_of_beq hc;omega
   have g:=zty (by omega) h hn.o;exact⟨by rw[g];rfl,rfl⟩
  ·have f:k<s.size:=by assumption
   have hc:(((s[k]'f).toNat:Int)==(c:Int))=false:=by assumption
   go_round
   case rel=>
    refine⟨k+1,by omega,by go_num,λ j d=>?_⟩
    by_cases e:j=k
    ·subst e;rw[j5_ s j (by omega)];intro x;rw[<- x] at hc;simp at hc
    ·exact hn.o j (by omega)
   case measure=>simp[intOf];omega
  ·go_ret
   have g:=ztz (s:=s) (c:=c) (λ j d=>hn.o j (by omega));exact⟨by rw[g];rfl,rfl⟩
theorem zdq (s:BA) (c:Nat) (w:World) (hs:s.size<=100000) :
 Calls prog 99 #[.string s,.int .u8 c] w λ e w'=>e=.returned (.bool (decide (0<=plc s c)))/\w'=w:=by
 go_in
 go_wp2_with (go_at_call 90;refine(jk_ s c _ hs).mono ?_;rintro e w' ⟨rfl,rfl⟩)
 go_ret
 exact⟨rfl,rfl⟩
def RV.small (s:BA) (σ:RV):RV:=if 97<=pk s σ.i σ.bad/\pk s σ.i σ.bad<=122 then { σ with i:=σ.i+1 } else { σ with bad:=true }
def RV.smallR (s:BA) (σ:RV):Int:=if 97<=pk s σ.i σ.bad/\pk s σ.i σ.bad<=122 then pk s σ.i σ.bad else 0
theorem zqi {w:World}{br:Nat}{s:BA}{bz:Nat}{σ:RV}(h:RAt w br s bz σ) (hs:s.size<=300) (m:σ.i<=300) :
 Calls prog 98 #[.pointer (some ⟨br,0,none⟩)] w λ e w'=>e=.returned (.int .u8 (σ.smallR s))/\RAt w' br s bz (σ.small s)/\Fr w w' (· = br):=by
 go_in
 go_wp2_with (first
  |(go_at_call 39;refine(zcs h hs m).mono ?_;rintro e w' ⟨rfl,g⟩;have d:=h.still g;have c1:=d.c1;have c2:=d.c2;have o:=d.thaw 1;have p:=d.thaw 2)
  |(go_at_call 38;refine(yz_ _ _ _ _).mono ?_;rintro e w' ⟨rfl,rfl⟩))
 ·rename_i hc
  have f:¬ (97<=pk s σ.i σ.bad/\pk s σ.i σ.bad<=122):=by simp at hc;omega
  go_ret
  exact⟨by rw[RV.smallR,if_neg f];rfl,by rw[RV.small,if_neg f];exact d.setBad true,((Fr.refl w _).still g).setCell _ _ (λ _=>rfl)⟩
 ·rename_i hc
  have f:97<=pk s σ.i σ.bad/\pk s σ.i σ.bad<=122:=by simp at hc;omega
  go_ret
  exact⟨by rw[RV.smallR,if_pos f];rfl,by rw[RV.small,if_pos f];exact d.setI (σ.i+1),((Fr.refl w _).still g).setCell _ _ (λ _=>rfl)⟩
open Go.RowKit
theorem jz_ {P:Program}{h:Array Oper}{o:Oper}{a:Act}{w:World}{K:Act->World->Prop}{Q:Exit->Act->World->Prop}{E:Prop}
 (hg:o.guard=none) (s x:Operand) (t:TypeId) (H:o.op=Op.call { callee:=Callee.builtin Builtin.append,args:=#[s,x],argTypes:=#[t,t] })
 (base:Nat) (e:TypeId) (i:TypeInfo) (z:Value) (size bytes:Nat) (h1:P.underlying t=some (.slice e)) (q:P.info? e=some i) (r:i.zero=some z) (y:i.size=size) (A:i.bytes=bytes) (C:z.cells.size=size) (D:0<size)
 (v:Value) (n:Nat) (xs:List Value) (hs:a.eval s=v) (I:w.ownsRow base e size v n xs)
 (g:Addr) (m c:Nat) (f:List Value) (O:a.eval x=.slice (some g) m c) (hn:f.length=m*size) (hc:∀ j u,f[j]?=some u->w.cell? (g.add j)=some u) (p:∀ u∈f,u.oneCell'=true)
 (b1:n+m<=maxLen) (b2:(n+m)*bytes<=140737488355328) (G:base<=w.heap.size)
 (F:∀ d w',w'.ownsRow base e size d (n+m) (xs++f)->w.grownBy w' v.ownBlock->(d.ownBlock=v.ownBlock\/d.ownBlock=some w.heap.size)->K (a.put o.dst d) w') :
 if Region.wanted o (yielded h a.tmps)=true then Oper.wp P o a w K Q else E:=by
 have M:Region.wanted o (yielded h a.tmps)=true:=by simp[Region.wanted,hg]
 rw[if_pos M];obtain⟨d,w',J,r1,R,_,T⟩:=run_append_own_at (P:=P) w base t o.type e i z size bytes h1 q r y A C D v n xs I g m c f hn hc p b1 b2 G;unfold Oper.wp
 simp[execOp,H,resolve,invoke,builtin,hs,O,J,Result.andThen]
 exact F d w' r1 R T
theorem za_ {w w':World}(h:w.ownsRow base e size v n xs) (o:Fr w w' S) (m:∀ g,v.ownBlock=some g->¬ S g):w'.ownsRow base e size v n xs:=by
 refine⟨h.1,?_⟩
 rcases h.2 with h0|⟨g,d,f,rfl,hb,hg,p⟩
 ·exact .inl h0
 ·refine .inr ⟨g,d,f,rfl,hb,?_,p⟩;rw[o.block g (by exact(Array.getElem?_eq_some_iff.1 hg).1) (m g rfl)];exact hg
theorem zye:Tryz.prog.underlying 41=some (.slice 77):=by kernel_rfl
theorem zyv:(Tryz.prog.info? 77).map (λ i=>(i.zero,i.size,i.bytes))=some (some (.agg #[.int .u8 0,.slice none 0 0]),2,32):=by kernel_rfl
theorem z7_ (w:World) (cs:Array Value) (t:TypeId) (g:Nat) (hg:g=w.heap.size):∀ j u,cs.toList[j]?=some u->(w.alloc (.cells cs t)).cell? ((⟨g,0,none⟩:Addr).add j)=some u:=by
 intro j u h;subst hg;have:=(Blk.new w cs t).cell j;unfold Addr.add;split
 ·rename_i d;subst d;rw[this];exact h
 ·simp only[br_];rw[this];exact h
theorem zh_ {w:World}(h:w.ownsRow base e size v n xs) (hn:0<n):∃ g d,v=.slice (some ⟨g,0,none⟩) n d:=by
 rcases h.2 with⟨_,h0⟩|⟨g,d,_,f,_⟩
 ·omega
 ·exact⟨g,d,f⟩
theorem za0 {w:World}(h:w.ownsRow base e size v n xs) (hk:k<base):v.ownBlock≠some k:=λ e=>by
 have:=h.lt k e;omega
theorem Blk.cellAlloc {w:World}(h:Blk w b cs t) (o:Nat) (x:Obj):(w.alloc x).cell? ⟨b,o,none⟩=cs[o]?:=(h.alloc x).cell o
def zxu (w:World) (br:Nat) (s:BA) (bz:Nat) (σ:RV) (zs:List Value) (tv k sv:Value) (B n:Nat) (xs:List Value) (w':World):Prop:=
 ∃ tv',RAt w' br s bz σ/\Blk w' bz (tv'::zs) 47/\w'.ownsRow B 77 2 tv' (n+1) (xs++[k,sv])/\Fr w w' (λ x=>x=bz\/tv.ownBlock=some x)/\(tv'.ownBlock=tv.ownBlock\/∃ g,tv'.ownBlock=some g/\w.heap.size<=g)
theorem zww {w:World}{br:Nat}{s:BA}{bz:Nat}{σ:RV}{zs:List Value}{tv k sv:Value}{B:Nat}(h:RAt w br s bz σ) (O:Blk w bz (tv::zs) 47)
 (z:w.ownsRow B 77 2 tv n xs) (hk:k.oneCell'=true) (a8:sv.oneCell'=true) (hn:n<=1000) (hB:B<=w.heap.size) (a6:br<B) (P:bz<B) (a7:br≠bz) :
 Calls prog 70 #[.pointer (some ⟨br,0,none⟩),.agg #[k,sv]] w λ e w'=>e=.returned (.int .i64 n)/\zxu w br s bz σ zs tv k sv B n xs w':=by
 obtain⟨ti,a0,a1,a2,a3⟩:=info_parts zyv;have Y:∀ W,Fr w W (λ _=>False)->W.ownsRow B 77 2 tv n xs:=λ W hf=>za_ z hf (λ _ _=>id);have a4:=za0 z a6;have a5:=za0 z P
 go_in
 go_wp2_with fail
 have h1:RAt (w.alloc (.cells #[k,sv] 77)) br s bz σ:=Blk.alloc h _;have T:=Blk.alloc O (.cells #[k,sv] 77);have q:=Blk.new w #[k,sv] 77;have r:Fr w (w.alloc (.cells #[k,sv] 77)) (λ _=>False):=(Fr.refl w _).alloc _;generalize w.alloc (.cells #[k,sv] 77)=W1 at *;have c3:=h1.c3;have y:=λ x=>Blk.cellAlloc h1 3 x;have z0:=T.cell 0;have A:=λ x=>T.cellAlloc 0 x;have b0:=q.cell 0;have b1:=q.cell 1;simp only[aa_,ab_,RV.cells] at y z0 A b0 b1;refine zx_ 16 (λ W=>W.cell? ⟨br,3,none⟩=some (.pointer (some ⟨bz,0,none⟩))/\W.cell? ⟨bz,0,none⟩=some tv/\W.cell? ⟨w.heap.size,0,none⟩=some k/\W.cell? ⟨w.heap.size,1,none⟩=some sv) (by kernel_rfl) ?_;refine tb_ 0 rfl (by kernel_rfl) (λ _ _ _ h=>h) (by rfl) (by intro W d;obtain⟨m,o,q3,p⟩:=d;go_simp;rfl) ?_;refine tb_ 1 rfl (by kernel_rfl) (λ _ _ _ h=>h) (by rfl) (by intro W d;obtain⟨m,o,q3,p⟩:=d;go_simp;rfl) ?_;refine tb_ 2 rfl (by kernel_rfl) (λ _ _ _ h=>h) (by rfl) (by intro W d;obtain⟨m,o,q3,p⟩:=d;go_simp;rfl) ?_;refine tb_ 3 rfl (by kernel_rfl) (λ _ _ _ h=>h) (by rfl) (by intro W d;obtain⟨m,o,q3,p⟩:=d;go_simp;rfl) ?_;refine tb_ 4 rfl (by kernel_rfl) (λ _ _ _ h=>h) (by rfl) (by intro W d;obtain⟨m,o,q3,p⟩:=d;go_simp;rfl) ?_;refine tb_ 5 rfl (by kernel_rfl) (λ _ _ _ h=>h) (by rfl) (by intro W d;obtain⟨m,o,q3,p⟩:=d;go_simp;rfl) ?_;refine tb_ 6 rfl (by kernel_rfl) (λ _ _ _ h=>h) (by rfl) (by intro W d;obtain⟨m,o,q3,p⟩:=d;go_simp;rfl) ?_;refine tb_ 7 rfl (by kernel_rfl) (λ _ _ _ h=>h) (by rfl) (by intro W d;obtain⟨m,o,q3,p⟩:=d;go_simp;rfl) ?_;refine tb_ 8 rfl (by kernel_rfl) (λ _ _ _ h=>h) (by rfl) (by intro W d;obtain⟨m,o,q3,p⟩:=d;go_simp;rfl) ?_;refine tb_ 9 rfl (by kernel_rfl) (λ _ _ _ h=>h) (by rfl) (by intro W d;obtain⟨m,o,q3,p⟩:=d;go_simp;rfl) ?_;refine tb_ 10 rfl (by kernel_rfl) (λ _ _ _ h=>h) (by rfl) (by intro W d;obtain⟨m,o,q3,p⟩:=d;go_simp;rfl) ?_;refine tb_ 11 rfl (by kernel_rfl) (λ _ _ _ h=>h) (by rfl) (by intro W d;obtain⟨m,o,q3,p⟩:=d;go_simp;rfl) ?_;refine ze_ 12 rfl (by kernel_rfl) (λ _=>⟨c3,z0,b0,b1⟩) (λ K f=>?_);go_simp;refine f _ _ ?_;clear f K;have y:=y (.cells #[k,sv] 77);have A:=A (.cells #[k,sv] 77);have U:=(q.alloc (.cells #[k,sv] 77)).cell 0;have V:=(q.alloc (.cells #[k,sv] 77)).cell 1;refine ze_ 13 rfl (by kernel_rfl) (λ _=>⟨y,A,U,V⟩) (λ K f=>?_);refine jz_ rfl (.tmp 15) (.tmp 17) 41 rfl B 77 ti _ 2 32 zye a0 a1 a2 a3 rfl (by decide) tv n xs (by simp[Act.eval]) (Y _ ((r.alloc _).drew)) _ 1 1 [k,sv] (by simp[Act.eval];rfl) (by simp) (z7_ _ _ _ _ (by simp)) (by simp[hk,a8]) (by simp[maxLen];omega) (by omega) (by have:=r.size;simp;omega) ?_;intro R w' ho G M;refine f _ _ ?_;clear f K;have F:Fr w w' (λ x=>tv.ownBlock=some x):=Fr.grown (((r.mono v_).alloc _).drew) G (λ k e _=>e);have J:RAt w' br s bz σ:=F.blk h a4;have I:=F.blk O a5;have E:=J.c3;have H:=I.c0;have b4:=I.thaw 0;have Q:=Fr.blk (Fr.grown (((Fr.refl W1 (λ x=>tv.ownBlock=some x)).alloc _).drew) G (λ k e _=>e)) q (λ e=>by have:=z.lt _ e;omega);have Z:R.ownBlock=tv.ownBlock\/∃ g,R.ownBlock=some g/\w.heap.size<=g:=M.imp id (λ e=>⟨_,e,by have:=r.size;simp;omega⟩);have C:=Q.cell 0;have D:=Q.cell 1;obtain⟨g,a9,rfl⟩:=zh_ ho (by omega);clear G M;refine ze_ 14 rfl (by kernel_rfl) (λ _=>⟨E,H,C,D⟩) (λ K f=>?_);go_simp;refine f _ _ ?_;clear f K;refine ze_ 15 rfl (by kernel_rfl) (λ _=>⟨E,H,C,D⟩) (λ K f=>?_);go_simp;refine f _ _ ?_;clear f K;refine ze_ 16 rfl (by kernel_rfl) (λ _=>⟨E,H,C,D⟩) (λ K f=>?_);go_simp;refine f _ _ ?_;clear f K;refine zq_ (by kernel_rfl) (λ hm=>absurd hm (by decide)) ?_ _
 go_wp2
 go_ret
 refine⟨rfl,?_⟩;exact⟨_,Blk.other J _ a7,Blk.set I 0 _,za_ ho (Fr.one _ _ _) (λ g hg e=>za0 ho P (by rw[hg];exact congrArg some e)),Fr.setCell (F.mono (λ _ _ e=>.inr e)) _ _ (λ _=>.inl rfl),Z⟩
open Go.RowKit
def js_ (w:World) (B:Nat) (tv u sv:Value) (l:List Nat):Prop:=
 w.ownsRow B 3 1 sv l.length (l.map λ (n:Nat)=>Value.int .i64 (n:Int))/\∀ g,sv.ownBlock=some g->tv.ownBlock≠some g/\u.ownBlock≠some g
def z0e (w:World) (X:Nat->Prop) (B:Nat) (tv u:Value) (ts:List TR):Prop:=
 ∃ xs,w.ownsRow B 77 2 tv ts.length xs/\∀ k t,ts[k]?=some t->∃ sv,xs[2*k]?=some (.int .u8 (t.kind:Int))/\xs[2*k+1]?=some sv/\js_ w B tv u sv t.subs/\∀ g,X g->sv.ownBlock≠some g
def v8_ (us:List (Nat×Nat)):List Value:=us.flatMap λ p=>[.int .u8 (p.1:Int),.int .i64 (p.2:Int)]
structure Rep (w:World) (X:Nat->Prop) (br bz B:Nat) (s:BA) (i:Nat) (bad:Bool) (wr mx:Int) (ts:List TR) (us:List (Nat×Nat)) (zs:List Value) (tv u:Value):Prop where
 here:RAt w br s bz ⟨i,bad,u,wr,mx⟩
 z:Blk w bz (tv::zs) 47
 tys:z0e w X B tv u ts
 uses:w.ownsRow B 68 2 u us.length (v8_ us)
 apart:∀ g,tv.ownBlock=some g->u.ownBlock≠some g
 rB:br<B
 zB:bz<B
 hB:B<=w.heap.size
 rz:br≠bz
 il:i<=s.size
 sl:s.size<=300
 tl:ts.length<=i
 ul:us.length<=i
 av:∀ g,X g->g<w.heap.size/\g≠br/\g≠bz/\tv.ownBlock≠some g/\u.ownBlock≠some g
structure Step (w w':World) (br bz:Nat) (tv u tv' u':Value):Prop where
 fr:Fr w w' (λ x=>x=br\/x=bz\/tv.ownBlock=some x\/u.ownBlock=some x)
 tvb:tv'.ownBlock=tv.ownBlock\/∃ g,tv'.ownBlock=some g/\w.heap.size<=g
 ub:u'.ownBlock=u.ownBlock\/∃ g,u'.ownBlock=some g/\w.heap.size<=g
theorem Step.refl (w:World) (br bz:Nat) (tv u:Value):Step w w br bz tv u tv u:=⟨Fr.refl _ _,.inl rfl,.inl rfl⟩
theorem Step.trans {b c:World}{br bz:Nat}{tv u d f:Value}(h:Step a b br bz tv u tv' u') (k:Step b c br bz tv' u' d f):Step a c br bz tv u d f:=by
 refine⟨h.fr.trans k.fr (λ x o m=>?_),?_,?_⟩
 ·rcases m with e|e|e|e
  ·exact .inl e
  ·exact .inr (.inl e)
  ·rcases h.tvb with q|⟨g,q,hg⟩
   ·exact .inr (.inr (.inl (q▸e)))
   ·rw[q] at e;cases e;omega
  ·rcases h.ub with q|⟨g,q,hg⟩
   ·exact .inr (.inr (.inr (q▸e)))
   ·rw[q] at e;cases e;omega
 ·rcases k.tvb with q|⟨g,q,hg⟩
  ·rw[q];exact h.tvb
  ·exact .inr ⟨g,q,ai_ h.fr.size hg⟩
 ·rcases k.ub with q|⟨g,q,hg⟩
  ·rw[q];exact h.ub
  ·exact .inr ⟨g,q,ai_ h.fr.size hg⟩
theorem Step.subs {w w':World}{br bz B:Nat}{tv u sv:Value}{l:List Nat}(h:Step w w' br bz tv u tv' u') (hs:js_ w B tv u sv l) (m:br<B) (o:bz<B):js_ w' B tv' u' sv l:=by
 refine⟨za_ hs.1 h.fr (λ g hg d=>?_),λ g hg=>?_⟩
 ·have:=hs.1.lt g hg
  rcases d with e|e|e|e
  ·omega
  ·omega
  ·exact(hs.2 g hg).1 e
  ·exact(hs.2 g hg).2 e
 ·have:=hs.1.lt g hg;refine⟨λ e=>?_,λ e=>?_⟩
  ·rcases h.tvb with q|⟨x,q,f⟩
   ·exact(hs.2 g hg).1 (q▸e)
   ·rw[q] at e;cases e;omega
  ·rcases h.ub with q|⟨x,q,f⟩
   ·exact(hs.2 g hg).2 (q▸e)
   ·rw[q] at e;cases e;omega
theorem zhp (w:World) (B:Nat) (tv u:Value):js_ w B tv u (.slice none 0 0) []:=⟨World.ownsRow_nil _ _ _ _,λ g hg=>by simp[Value.ownBlock] at hg⟩
section
variable {w w':World} {X:Nat->Prop} {br bz B:Nat} {s:BA} {i j:Nat} {bad bad':Bool} {wr mx wr' mx':Int} {ts:List TR} {us:List (Nat×Nat)} {zs:List Value} {tv u:Value}
theorem Rep.move (R:Rep w X br bz B s i bad wr mx ts us zs tv u) (f:Fr w w' (· = br)) (p:RAt w' br s bz ⟨j,bad',u,wr',mx'⟩) (h1:i<=j) (o:j<=s.size) :
 Rep w' X br bz B s j bad' wr' mx' ts us zs tv u/\Step w w' br bz tv u tv u:=by
 have h:Step w w' br bz tv u tv u:=⟨f.mono (λ _ _ e=>.inl e),.inl rfl,.inl rfl⟩;refine⟨⟨p,f.blk R.z (Ne.symm R.rz),?_,za_ R.uses f (λ g hg e=>za0 R.uses R.rB (e▸hg)),R.apart,R.rB,R.zB,ai_ R.hB f.size,R.rz,o,R.sl,ai_ R.tl h1,ai_ R.ul h1,λ g hg=>⟨a5_ (R.av g hg).1 f.size,(R.av g hg).2⟩⟩,h⟩;obtain⟨xs,m,hk⟩:=R.tys;refine⟨xs,za_ m f (λ g hg e=>za0 m R.rB (e▸hg)),λ k t q=>?_⟩;obtain⟨sv,a,b,c,d⟩:=hk k t q;exact⟨sv,a,b,h.subs c R.rB R.zB,d⟩
theorem Rep.still (R:Rep w X br bz B s i bad wr mx ts us zs tv u) (d:zd_ w w'):Rep w' X br bz B s i bad wr mx ts us zs tv u:=by
 obtain⟨n,rfl⟩:=d;exact⟨R.here,R.z,R.tys,R.uses,R.apart,R.rB,R.zB,R.hB,R.rz,R.il,R.sl,R.tl,R.ul,R.av⟩
theorem Step.still (h:Step a w br bz tv u tv' u') (d:zd_ w w'):Step a w' br bz tv u tv' u':=⟨h.fr.still d,h.tvb,h.ub⟩
theorem Step.ofStill (d:zd_ w w'):Step w w' br bz tv u tv u:=(Step.refl w br bz tv u).still d
theorem Rep.inc (R:Rep w X br bz B s i bad wr mx ts us zs tv u) (h:i<s.size) :
 Rep (w.setCell ⟨br,1,none⟩ (.int .i64 ((i:Int)+1))) X br bz B s (i+1) bad wr mx ts us zs tv u/\Step w (w.setCell ⟨br,1,none⟩ (.int .i64 ((i:Int)+1))) br bz tv u tv u:=
 R.move (Fr.one _ _ _) (RAt.setI R.here (i+1)) (by omega) (by omega)
theorem Rep.spoil (R:Rep w X br bz B s i bad wr mx ts us zs tv u) :
 Rep (w.setCell ⟨br,2,none⟩ (.bool true)) X br bz B s i true wr mx ts us zs tv u/\Step w (w.setCell ⟨br,2,none⟩ (.bool true)) br bz tv u tv u:=
 R.move (Fr.one _ _ _) (RAt.setBad R.here true) l_ R.il
theorem Rep.setMx (R:Rep w X br bz B s i bad wr mx ts us zs tv u) (m:Int) :
 Rep (w.setCell ⟨br,6,none⟩ (.int .i64 m)) X br bz B s i bad wr m ts us zs tv u/\Step w (w.setCell ⟨br,6,none⟩ (.int .i64 m)) br bz tv u tv u:=
 R.move (Fr.one _ _ _) (RAt.setMx R.here m) l_ R.il
theorem Rep.fewer (R:Rep w X br bz B s i bad wr mx ts us zs tv u){Y:Nat->Prop}(f:∀ g,Y g->X g):Rep w Y br bz B s i bad wr mx ts us zs tv u:=by
 refine⟨R.here,R.z,?_,R.uses,R.apart,R.rB,R.zB,R.hB,R.rz,R.il,R.sl,R.tl,R.ul,λ g hg=>R.av g (f g hg)⟩;obtain⟨xs,m,hk⟩:=R.tys;refine⟨xs,m,λ k t h=>?_⟩;obtain⟨sv,a,b,c,d⟩:=hk k t h;exact⟨sv,a,b,c,λ g hg=>d g (f g hg)⟩
theorem Rep.o (R:Rep w X br bz B s i bad wr mx ts us zs tv u) (f:Fr w w' X):Rep w' (λ g=>X g\/(w.heap.size<=g/\g<w'.heap.size)) br bz B s i bad wr mx ts us zs tv u:=by
 obtain⟨xs,m,hk⟩:=R.tys;have hb:=R.here.lt;have q:=R.z.lt;refine⟨f.blk R.here (λ h=>(R.av _ h).2.1 rfl),f.blk R.z (λ h=>(R.av _ h).2.2.1 rfl),⟨xs,za_ m f (λ g hg h=>(R.av g h).2.2.2.1 hg),λ k t p=>?_⟩,za_ R.uses f (λ g hg h=>(R.av g h).2.2.2.2 hg),R.apart,R.rB,R.zB,ai_ R.hB f.size,R.rz,R.il,R.sl,R.tl,R.ul,λ g hg=>?_⟩
 ·obtain⟨sv,a,b,c,d⟩:=hk k t p;refine⟨sv,a,b,⟨za_ c.1 f (λ g hg h=>d g h hg),c.2⟩,λ g hg=>?_⟩
  rcases hg with hg|hg
  ·exact d g hg
  ·intro e;have:=c.1.lt g e;omega
 ·rcases hg with hg|hg
  ·exact⟨a5_ (R.av g hg).1 f.size,(R.av g hg).2⟩
  ·refine⟨hg.2,by omega,by omega,λ e=>?_,λ e=>?_⟩
   ·have:=m.lt g e;omega
   ·have:=R.uses.lt g e;omega
theorem Step.o (h:Step a w br bz tv u tv' u') (m:Fr w w' X) (f:∀ g,X g->a.heap.size<=g):Step a w' br bz tv u tv' u':=
 ⟨h.fr.trans m (λ x p d=>absurd (f x d) (by omega)),h.tvb,h.ub⟩
theorem Rep.alloc (R:Rep w X br bz B s i bad wr mx ts us zs tv u) (o:Obj):Rep (w.alloc o) X br bz B s i bad wr mx ts us zs tv u/\Step w (w.alloc o) br bz tv u tv u:=
 ⟨(R.o ((Fr.refl w _).alloc o)).fewer (λ _ h=>.inl h),⟨(Fr.refl w _).alloc o,.inl rfl,.inl rfl⟩⟩
end
def zzi (w:World) (X:Nat->Prop) (br bz B:Nat) (s:BA) (i:Nat) (bad:Bool) (wr mx:Int) (ts:List TR) (us:List (Nat×Nat)) (zs:List Value) (tv u:Value) (c:Nat) (l:List Nat) (w':World):Prop:=
 ∃ tv',Rep w' X br bz B s i bad wr mx (ts++[⟨c,l⟩]) us zs tv' u/\Step w w' br bz tv u tv' u
theorem zqk {w:World}(h:w.ownsRow base e size v n xs):v.oneCell'=true:=by
 rcases h.2 with⟨rfl,_⟩|⟨g,d,_,rfl,_⟩<;>rfl
theorem zdo {w:World}{X:Nat->Prop}{br bz B:Nat}{s:BA}{i:Nat}{bad:Bool}{wr mx:Int}{ts:List TR}{us:List (Nat×Nat)}{zs:List Value}{tv u sv:Value}{l:List Nat}
 (R:Rep w X br bz B s i bad wr mx ts us zs tv u) (hs:js_ w B tv u sv l) (K:∀ g,X g->sv.ownBlock≠some g) (hl:ts.length<i) :
 Calls prog 70 #[.pointer (some ⟨br,0,none⟩),.agg #[.int .u8 (c:Int),sv]] w λ e w'=>e=.returned (.int .i64 (ts.length:Int))/\zzi w X br bz B s i bad wr mx ts us zs tv u c l w':=by
 obtain⟨xs,r,hk⟩:=R.tys;have T:=R.il;have Q:=R.sl;refine(zww R.here R.z r rfl (zqk hs.1) (by omega) R.hB R.rB R.zB R.rz).mono ?_;rintro e w' ⟨rfl,tv',h1,G,H,m,o⟩;refine⟨rfl,tv',?_⟩;have p:Step w w' br bz tv u tv' u:=⟨m.mono (λ _ _ e=>e.elim (λ e=>.inr (.inl e)) (λ e=>.inr (.inr (.inl e)))),o,.inl rfl⟩;have U:=r.1;refine⟨⟨h1,G,⟨xs++[.int .u8 (c:Int),sv],by simpa using H,λ k t f=>?_⟩,?_,?_,R.rB,R.zB,ai_ R.hB m.size,R.rz,R.il,R.sl,by rw[ah_];exact hl,R.ul,λ g hg=>?_⟩,p⟩
 ·by_cases J:k<ts.length
  ·rw[au_ J] at f;obtain⟨O,a,b,d,F⟩:=hk k t f;exact⟨O,by rw[au_ (by omega)];exact a,by rw[au_ (by omega)];exact b,p.subs d R.rB R.zB,F⟩
  ·rw[ar_ (by omega)] at f
   have I:k-ts.length=0:=by
    rcases bx_ (k-ts.length) with h|h
    ·exact h
    ·rw[bn_ (by simp;omega)] at f;cases f
   rw[I] at f;simp only[aa_,ag_] at f;subst f
   have P:k=ts.length:=by omega
   refine⟨sv,?_,?_,p.subs hs R.rB R.zB,K⟩
   ·rw[ar_ (by omega),show 2*k-xs.length=0 by omega];rfl
   ·rw[ar_ (by omega),show 2*k+1-xs.length=1 by omega];rfl
 ·refine za_ R.uses m (λ g hg e=>?_)
  rcases e with e|e
  ·exact za0 R.uses R.zB (e▸hg)
  ·exact R.apart g e hg
 ·intro g hg hu
  rcases o with q|⟨x,q,M⟩
  ·exact R.apart g (q▸hg) hu
  ·rw[q] at hg;cases hg;have:=R.uses.lt _ hu;omega
 ·obtain⟨y,A,C,D,E⟩:=R.av g hg;refine⟨a5_ y m.size,A,C,λ e=>?_,E⟩
  rcases o with q|⟨x,q,M⟩
  ·exact D (q▸e)
  ·rw[q] at e;cases e;omega
theorem z3_ {w:World}{X:Nat->Prop}{br bz B:Nat}{s:BA}{i:Nat}{wr mx:Int}{ts:List TR}{us:List (Nat×Nat)}{zs:List Value}{tv u:Value}(R:Rep w X br bz B s i false wr mx ts us zs tv u) (hc:bt s i=c) :
 Calls prog 39 #[.pointer (some ⟨br,0,none⟩)] w λ e w'=>e=.returned (.int .u8 (c:Int))/\zd_ w w':=by
 have h1:=R.il;have f:=R.sl;refine(zcs R.here R.sl (by simp only;omega)).mono ?_;rintro e w' ⟨rfl,d⟩;exact⟨by simp only[zqt,hc],d⟩
def ym_ (w:World) (X:Nat->Prop) (br bz B:Nat) (s:BA) (i:Nat) (wr mx:Int) (ts:List TR) (us:List (Nat×Nat)) (zs:List Value) (tv u:Value) (e:Ending) (w':World):Prop:=
 match pT s i with
 | .ok (t,j)=>e=.returned (.int .i64 ((ts.length+(flat ts.length t).length-1:Nat):Int))/\∃ tv' u',Rep w' X br bz B s j false wr (mix t mx) (ts++flat ts.length t) (us++zr_ t) zs tv' u'/\Step w w' br bz tv u tv' u'
 | .error k=>(∃ v:Nat,e=.returned (.int .i64 (v:Int)))/\∃ mx' ts' us' tv' u',Rep w' X br bz B s k true wr mx' ts' us' zs tv' u'/\ts'.length+i<=k+ts.length/\Step w w' br bz tv u tv' u'
def ze4 (w:World) (X:Nat->Prop) (br bz B:Nat) (s:BA) (i:Nat) (wr mx:Int) (ts:List TR) (us:List (Nat×Nat)) (zs:List Value) (tv u:Value) (e:Ending) (w':World):Prop:=
 ∃ sv tv' u',e=.returned (.agg #[.int .u8 40,sv])/\Step w w' br bz tv u tv' u'/\
 match pA s i with
 | .ok (ds,j)=>if bt s j=41 then Rep w' X br bz B s (j+1) false wr (mixs [] ds mx) (ts++yl_ ts.length ds) (us++zs_ ds) zs tv' u'/\js_ w' B tv' u' sv (nums ts.length ds)/\∀ g,X g->sv.ownBlock≠some g
  else ∃ mx' ts' us' l,Rep w' X br bz B s j true wr mx' ts' us' zs tv' u'/\ts'.length+i<=j+ts.length/\js_ w' B tv' u' sv l/\∀ g,X g->sv.ownBlock≠some g
 | .error k=>∃ mx' ts' us' l,Rep w' X br bz B s k true wr mx' ts' us' zs tv' u'/\ts'.length+i<=k+ts.length/\js_ w' B tv' u' sv l/\∀ g,X g->sv.ownBlock≠some g
def zit (s:BA) (i:Nat):Prop:=∀ (w:World) (X:Nat->Prop) (br bz B:Nat) (wr mx:Int) (ts:List TR) (us:List (Nat×Nat)) (zs:List Value) (tv u:Value),Rep w X br bz B s i false wr mx ts us zs tv u->
 Calls prog 42 #[.pointer (some ⟨br,0,none⟩)] w (ym_ w X br bz B s i wr mx ts us zs tv u)
def zvv (s:BA) (i:Nat):Prop:=∀ (w:World) (X:Nat->Prop) (br bz B:Nat) (wr mx:Int) (ts:List TR) (us:List (Nat×Nat)) (zs:List Value) (tv u:Value),Rep w X br bz B s i false wr mx ts us zs tv u->
 Calls prog 71 #[.pointer (some ⟨br,0,none⟩)] w (ze4 w X br bz B s i wr mx ts us zs tv u)
open Go.RowKit
theorem zwg {s:BA}{i:Nat}(h:yc_ (bt s i)=true):pT s i=.ok (.leaf (bt s i) i,i+1):=by
 rw[zjn];unfold za6;rw[if_pos h]
theorem zlt {s:BA}{i:Nat}(h:bt s i=91\/bt s i=123):pT s i =
 match pT s (i+1) with
 | .error k=>.error k
 | .ok (t,j)=>if bt s j=xq_ (bt s i) then .ok (.wrap (bt s i) i t,j+1) else .error j:=by
 rw[zjn];unfold za6;rw[if_neg (by rcases h with h|h<;>rw[h]<;>decide),if_pos h];rfl
theorem zqw {s:BA}{i:Nat}(h:bt s i=40):pT s i =
 match pA s (i+1) with
 | .error k=>.error k
 | .ok (ts,j)=>if bt s j=41 then .ok (.alts i ts,j+1) else .error j:=by
 rw[zjn];unfold za6;rw[if_neg (by rw[h];decide),if_neg (by omega),if_pos h];rfl
theorem zlu {s:BA}{i:Nat}(h:65<=bt s i/\bt s i<=70):pT s i=.ok (.leaf (bt s i) i,i+1):=by
 rw[zjn];unfold za6;rw[if_neg (by simp only[yc_,ax_,beq_iff_eq];omega),if_neg (by omega),if_neg (by omega),if_pos (by simp[z5_,h])]
theorem zvf {s:BA}{i:Nat}(h1:¬ yc_ (bt s i)=true) (d:¬ (bt s i=91\/bt s i=123)) (f:¬ bt s i=40) (g:¬ (65<=bt s i/\bt s i<=70)):pT s i=.error i:=by
 rw[zjn];unfold za6;rw[if_neg h1,if_neg d,if_neg f,if_neg (by simp only[z5_,a1_,decide_eq_true_eq];exact g)]
theorem ztj {s:BA}{i:Nat}(hb:yc_ (bt s i)=true):zit s i:=by
 intro w X br bz B wr mx ts us zs tv u R;have g:i<s.size:=zj_ (zg6 hb);have z:=R.sl;have f:=zwg hb;generalize hc:bt s i=c at *
 have r:c=110\/c=116\/c=105\/c=108\/c=115:=by simp only[yc_,ax_,beq_iff_eq] at hb;omega
 have m:H_ (∀ (e:Ending) (w':World),(e=.returned (.int .i64 (ts.length:Int))/\∃ tv',Rep w' X br bz B s (i+1) false wr mx (ts++[⟨c,[]⟩]) us zs tv' u/\Step w w' br bz tv u tv' u)->ym_ w X br bz B s i wr mx ts us zs tv u e w'):=by
  rintro e w' ⟨rfl,tv',h1,p⟩;unfold ym_;rw[f];refine⟨by simp[flat],tv',u,?_,p⟩
  simpa[mix,flat,zr_,hb] using h1
 generalize ym_ w X br bz B s i wr mx ts us zs tv u=POST at *;clear f
 rcases r with rfl|rfl|rfl|rfl|rfl
 all_goals
  go_in
  go_wp2_with (first
   |(go_at_call 39;refine(z3_ R hc).mono ?_;rintro e w1 ⟨rfl,h⟩;have d:=R.still h;have c1:=d.here.c1;have y:=d.here.thaw 1)
   |(go_at_call 70;refine(zdo (d.inc g).1 (zhp _ _ _ _) (λ _ _=>nofun) (by have:=R.tl;omega)).mono ?_;rintro e A ⟨rfl,q⟩))
  try go_ret
  obtain⟨tv',x,st⟩:=q;exact m.o _ _ ⟨rfl,tv',x,((Step.ofStill h).trans (d.inc g).2).trans st⟩
theorem zqf {s:BA}{i:Nat}(h1:¬ yc_ (bt s i)=true) (f:¬ (bt s i=91\/bt s i=123)) (g:¬ bt s i=40) (h:¬ (65<=bt s i/\bt s i<=70)):zit s i:=by
 intro w X br bz B wr mx ts us zs tv u R;have m:=zvf h1 f g h;generalize hc:bt s i=c at *
 have q:H_ (∀ (e:Ending) (w':World),(e=.returned (.int .i64 0)/\Rep w' X br bz B s i true wr mx ts us zs tv u/\Step w w' br bz tv u tv u)->ym_ w X br bz B s i wr mx ts us zs tv u e w'):=by
  rintro e w' ⟨rfl,x,st⟩;unfold ym_;rw[m];exact⟨⟨0,rfl⟩,mx,ts,us,tv,u,x,by omega,st⟩
 generalize ym_ w X br bz B s i wr mx ts us zs tv u=POST at *;clear m
 have z:((c:Int)==110)=false:=by simp[yc_] at h1⊢;omega
 have A:((c:Int)==116)=false:=by simp[yc_] at h1⊢;omega
 have C:((c:Int)==105)=false:=by simp[yc_] at h1⊢;omega
 have D:((c:Int)==108)=false:=by simp[yc_] at h1⊢;omega
 have E:((c:Int)==115)=false:=by simp[yc_] at h1⊢;omega
 have F:((c:Int)==91)=false:=by simp;omega
 have G:((c:Int)==123)=false:=by simp;omega
 have H:((c:Int)==40)=false:=by simp;omega
 have r:(decide ((65:Int)<=(c:Int))&&decide ((c:Int)<=70))=false:=by simp;omega
 clear h1 f g h
 go_in
 go_wp2_with (first
  |(go_at_call 39;refine(z3_ R hc).mono ?_;rintro e w1 ⟨rfl,p⟩;have d:=R.still p;have c1:=d.here.c2;have y:=d.here.thaw 2)
  |(go_at_call 38;refine(yz_ _ _ _ _).mono ?_;rintro e I ⟨rfl,rfl⟩;rw[r]))
 try go_ret
 exact q.o _ _ ⟨rfl,d.spoil.1,(Step.ofStill p).trans d.spoil.2⟩
open Go.RowKit
theorem zzv:Tryz.prog.underlying 64=some (.slice 68):=by kernel_rfl
theorem zz4:(Tryz.prog.info? 68).map (λ i=>(i.zero,i.size,i.bytes))=some (some (.agg #[.int .u8 0,.int .i64 0]),2,16):=by kernel_rfl
theorem zhl (us:List (Nat×Nat)) (c i:Nat):v8_ (us++[(c,i)])=v8_ us++[.int .u8 (c:Int),.int .i64 (i:Int)]:=by simp[v8_]
theorem RAt.incI {w:World}{br:Nat}{s:BA}{bz i:Nat}{b:Bool}{u:Value}{wr mx:Int}(h:RAt w br s bz ⟨i,b,u,wr,mx⟩):RAt (w.setCell ⟨br,1,none⟩ (.int .i64 ((i:Int)+1))) br s bz ⟨i+1,b,u,wr,mx⟩:=RAt.setI h (i+1)
theorem Rep.used {w w' f:World}{X:Nat->Prop}{br bz B:Nat}{s:BA}{i:Nat}{wr mx:Int}{ts:List TR}{us:List (Nat×Nat)}{zs:List Value}{tv u:Value}
 (R:Rep w X br bz B s i false wr mx ts us zs tv u) (H:i<s.size) (ho:w'.ownsRow B 68 2 u' (us.length+1) (v8_ us++[.int .u8 (c:Int),.int .i64 (i:Int)]))
 (y:Fr w w' (λ x=>u.ownBlock=some x)) (p:u'.ownBlock=u.ownBlock\/∃ g,u'.ownBlock=some g/\w.heap.size<=g) (o:Fr w' f (· = br)) (h1:RAt f br s bz ⟨i+1,false,u',wr,mx⟩) :
 Rep f X br bz B s (i+1) false wr mx ts (us++[(c,i)]) zs tv u'/\Step w f br bz tv u tv u':=by
 have I:=za0 R.uses R.zB;have M:=y.blk R.z I;have h:Fr w f (λ x=>x=br\/u.ownBlock=some x):=(y.mono (λ _ _ e=>.inr e)).trans o (λ _ _ e=>.inl e);have r:Step w f br bz tv u tv u':=⟨h.mono (λ _ _ e=>e.elim .inl (λ e=>.inr (.inr (.inr e)))),.inl rfl,p⟩;refine⟨⟨h1,o.blk M (Ne.symm R.rz),?_,?_,?_,R.rB,R.zB,ai_ R.hB h.size,R.rz,H,R.sl,Nat.le_succ_of_le R.tl,by rw[ah_];exact Nat.succ_le_succ R.ul,λ g hg=>?_⟩,r⟩
 ·obtain⟨xs,m,hk⟩:=R.tys;refine⟨xs,za_ m h (λ g hg e=>?_),λ k t J=>?_⟩
  ·rcases e with e|e
   ·exact za0 m R.rB (e▸hg)
   ·exact R.apart g hg e
  ·obtain⟨sv,a,b,d,G⟩:=hk k t J;exact⟨sv,a,b,r.subs d R.rB R.zB,G⟩
 ·rw[zhl,ah_];exact za_ ho o (λ g hg e=>za0 ho R.rB (e▸hg))
 ·intro g hg e
  rcases p with q|⟨x,q,m⟩
  ·exact R.apart g hg (q▸e)
  ·rw[q] at e;cases e;obtain⟨xs,K,_⟩:=R.tys;have:=K.lt _ hg;omega
 ·obtain⟨A,C,D,E,F⟩:=R.av g hg;refine⟨a5_ A h.size,C,D,E,λ e=>?_⟩
  rcases p with q|⟨x,q,m⟩
  ·exact F (q▸e)
  ·rw[q] at e;cases e;omega
theorem zti {s:BA}{i:Nat}(h:65<=bt s i/\bt s i<=70):zit s i:=by
 intro w X br bz B wr mx ts us zs tv u R;have a3:i<s.size:=zj_ (by omega);have a8:=R.sl;have a9:=R.ul;have G:=zlu h;generalize hc:bt s i=c at *
 have P:H_ (∀ (e:Ending) (w':World),(e=.returned (.int .i64 (ts.length:Int))/\∃ tv' u',Rep w' X br bz B s (i+1) false wr mx (ts++[⟨c,[]⟩]) (us++[(c,i)]) zs tv' u'/\Step w w' br bz tv u tv' u')->ym_ w X br bz B s i wr mx ts us zs tv u e w'):=by
  rintro e w' ⟨rfl,tv',u',h1,Q⟩;unfold ym_;rw[G];refine⟨by simp[flat],tv',u',?_,Q⟩
  have hb:yc_ c=false:=by simp[yc_];omega
  simpa[mix,flat,zr_,hb] using h1
 generalize ym_ w X br bz B s i wr mx ts us zs tv u=POST at *;clear G
 have n1:((c:Int)==110)=false:=by simp;omega
 have n2:((c:Int)==116)=false:=by simp;omega
 have n3:((c:Int)==105)=false:=by simp;omega
 have n4:((c:Int)==108)=false:=by simp;omega
 have n5:((c:Int)==115)=false:=by simp;omega
 have n6:((c:Int)==91)=false:=by simp;omega
 have n7:((c:Int)==123)=false:=by simp;omega
 have n8:((c:Int)==40)=false:=by simp;omega
 have n9:(decide ((65:Int)<=(c:Int))&&decide ((c:Int)<=70))=true:=by simp;omega
 have h:H_ (65<=c/\c<=70):=h;obtain⟨ti,Z,a0,a1,a2⟩:=info_parts zz4
 go_in
 go_wp2_with (first
  |(go_at_call 39;refine(z3_ R hc).mono ?_;rintro e w1 ⟨rfl,J⟩;have m:=R.still J)
  |(go_at_call 38;refine(yz_ _ _ _ _).mono ?_;rintro e r ⟨rfl,rfl⟩;rw[n9]))
 have c1:=m.here.c1;have c4:=m.here.c4;have U:∀ W,Fr r W (λ _=>False)->W.ownsRow B 68 2 u us.length (v8_ us):=λ W Y=>za_ m.uses Y (λ _ _=>id);refine zx_ 15 (λ W=>W.cell? ⟨br,4,none⟩=some u/\W.cell? ⟨br,1,none⟩=some (.int .i64 (i:Int))) (by kernel_rfl) ?_;refine tb_ 0 rfl (by kernel_rfl) (λ _ _ _ h=>h) (by rfl) (by intro W d;obtain⟨p,q⟩:=d;go_simp;rfl) ?_;refine tb_ 1 rfl (by kernel_rfl) (λ _ _ _ h=>h) (by rfl) (by intro W d;obtain⟨p,q⟩:=d;go_simp;rfl) ?_;refine tb_ 2 rfl (by kernel_rfl) (λ _ _ _ h=>h) (by rfl) (by intro W d;obtain⟨p,q⟩:=d;go_simp;rfl) ?_;refine tb_ 3 rfl (by kernel_rfl) (λ _ _ _ h=>h) (by rfl) (by intro W d;obtain⟨p,q⟩:=d;go_simp;rfl) ?_;refine tb_ 4 rfl (by kernel_rfl) (λ _ _ _ h=>h) (by rfl) (by intro W d;obtain⟨p,q⟩:=d;go_simp;rfl) ?_;refine tb_ 5 rfl (by kernel_rfl) (λ _ _ _ h=>h) (by rfl) (by intro W d;obtain⟨p,q⟩:=d;go_simp;rfl) ?_;refine tb_ 6 rfl (by kernel_rfl) (λ _ _ _ h=>h) (by rfl) (by intro W d;obtain⟨p,q⟩:=d;go_simp;rfl) ?_;refine tb_ 7 rfl (by kernel_rfl) (λ _ _ _ h=>h) (by rfl) (by intro W d;obtain⟨p,q⟩:=d;go_simp;rfl) ?_;refine tb_ 8 rfl (by kernel_rfl) (λ _ _ _ h=>h) (by rfl) (by intro W d;obtain⟨p,q⟩:=d;go_simp;rfl) ?_;refine tb_ 9 rfl (by kernel_rfl) (λ _ _ _ h=>h) (by rfl) (by intro W d;obtain⟨p,q⟩:=d;go_simp;rfl) ?_;refine tb_ 10 rfl (by kernel_rfl) (λ _ _ _ h=>h) (by rfl) (by intro W d;obtain⟨p,q⟩:=d;go_simp;rfl) ?_;refine ze_ 11 rfl (by kernel_rfl) (λ _=>⟨c4,c1⟩) (λ K f=>?_);go_simp;refine f _ _ ?_;clear f K;have O:(r.alloc (.cells #[.int .u8 (c:Int),.int .i64 (i:Int)] 68)).cell? ⟨br,4,none⟩=some u:=Blk.cellAlloc m.here 4 _;have M:(r.alloc (.cells #[.int .u8 (c:Int),.int .i64 (i:Int)] 68)).cell? ⟨br,1,none⟩=some (.int .i64 (i:Int)):=Blk.cellAlloc m.here 1 _;refine ze_ 12 rfl (by kernel_rfl) (λ _=>⟨O,M⟩) (λ K f=>?_);refine jz_ rfl (.tmp 79) (.tmp 86) 64 rfl B 68 ti _ 2 16 zzv Z a0 a1 a2 rfl (by decide) u us.length (v8_ us) (by simp[Act.eval]) (U _ (((Fr.refl r _).alloc _).drew)) _ 1 1 [.int .u8 (c:Int),.int .i64 (i:Int)] (by simp[Act.eval];rfl) (by simp) (z7_ _ _ _ _ (by simp)) (by simp[Value.oneCell']) (by simp[maxLen];omega) (by omega) (by have:=m.hB;simp;omega) ?_;intro u' z ho I H;refine f _ _ ?_;clear f K;have F:Fr r z (λ x=>u.ownBlock=some x):=Fr.grown (((Fr.refl r _).alloc _).drew) I (λ k e _=>e);have V:u'.ownBlock=u.ownBlock\/∃ g,u'.ownBlock=some g/\r.heap.size<=g:=H.imp id (λ e=>⟨_,e,by simp⟩);have y:RAt z br s bz ⟨i,false,u,wr,mx⟩:=F.blk m.here (za0 m.uses m.rB);have C:=y.c4;have A:=y.c1;have a7:=y.thaw 4;have a6:=y.thaw 1;have E:RAt (z.setCell ⟨br,4,none⟩ u') br s bz ⟨i,false,u',wr,mx⟩:=RAt.setU y u';have D:=m.used a3 ho F V (((Fr.refl z (· = br)).setCell ⟨br,4,none⟩ u' (λ _=>rfl)).setCell ⟨br,1,none⟩ (.int .i64 ((i:Int)+1)) (λ _=>rfl)) E.incI;obtain⟨g,a5,rfl⟩:=zh_ ho (by omega);clear I H y E;refine ze_ 13 rfl (by kernel_rfl) (λ _=>⟨C,A⟩) (λ K f=>?_);go_simp;refine f _ _ ?_;clear f K;refine ze_ 14 rfl (by kernel_rfl) (λ _=>⟨C,A⟩) (λ K f=>?_);go_simp;refine f _ _ ?_;clear f K;refine ze_ 15 rfl (by kernel_rfl) (λ _=>⟨C,A⟩) (λ K f=>?_);go_simp;refine f _ _ ?_;clear f K;refine zq_ (by kernel_rfl) (λ hm=>absurd hm (by decide)) ?_ _
 go_wp2_with (go_at_call 70;refine(zdo D.1 (zhp _ _ _ _) (λ _ _=>nofun) (by have:=m.tl;omega)).mono ?_;rintro e w4 ⟨rfl,T⟩)
 try go_ret
 obtain⟨tv',a4,st⟩:=T;exact P.o _ _ ⟨rfl,tv',_,a4,((Step.ofStill J).trans D.2).trans st⟩
open Go.RowKit
def zn5 (w:World) (X:Nat->Prop) (br bz B:Nat) (s:BA) (i:Nat) (wr mx:Int) (ts:List TR) (us:List (Nat×Nat)) (zs:List Value) (tv u:Value) (c:Nat) (w':World):Prop:=
 (if bt s i=c then Rep w' X br bz B s (i+1) false wr mx ts us zs tv u else Rep w' X br bz B s i true wr mx ts us zs tv u)/\Step w w' br bz tv u tv u
theorem zw3 {w:World}{X:Nat->Prop}{br bz B:Nat}{s:BA}{i:Nat}{wr mx:Int}{ts:List TR}{us:List (Nat×Nat)}{zs:List Value}{tv u:Value}(R:Rep w X br bz B s i false wr mx ts us zs tv u) (hc:0<c) :
 Calls prog 40 #[.pointer (some ⟨br,0,none⟩),.int .u8 (c:Int)] w λ e w'=>e=.returned (.tuple #[])/\zn5 w X br bz B s i wr mx ts us zs tv u c w':=by
 have h1:=R.il;have g:=R.sl;refine(zw4 R.here R.sl (by simp only;omega)).mono ?_;rintro e w' ⟨rfl,d,f⟩;refine⟨rfl,?_⟩;unfold zn5;unfold RV.eat at d;simp only[zqt] at d
 by_cases hb:bt s i=c
 ·rw[if_pos (by omega)] at d;rw[if_pos hb];exact R.move f d (by omega) (zj_ (by omega))
 ·rw[if_neg (by omega)] at d;rw[if_neg hb];exact R.move f d (by omega) h1
theorem y4_ {w:World}{X:Nat->Prop}{br bz B:Nat}{s:BA}{i:Nat}{wr mx:Int}{ts:List TR}{us:List (Nat×Nat)}{zs:List Value}{tv u:Value}{c:Int}(d:Nat) (R:Rep w X br bz B s i false wr mx ts us zs tv u) (hd:c=(d:Int)) (hc:0<d) :
 Calls prog 40 #[.pointer (some ⟨br,0,none⟩),.int .u8 c] w λ e w'=>e=.returned (.tuple #[])/\zn5 w X br bz B s i wr mx ts us zs tv u d w':=by
 subst hd;exact zw3 R hc
theorem zho {w:World}{X:Nat->Prop}{br bz B:Nat}{s:BA}{i:Nat}{bad:Bool}{wr mx:Int}{ts:List TR}{us:List (Nat×Nat)}{zs:List Value}{tv u:Value}(R:Rep w X br bz B s i bad wr mx ts us zs tv u) (v:Nat) :
 js_ (w.alloc (.cells #[.int .i64 (v:Int)] 3)) B tv u (.slice (some ⟨w.heap.size,0,none⟩) 1 1) [v]:=by
 refine⟨World.ownsRow_lit w #[.int .i64 (v:Int)] 1 R.hB (by simp[maxLen]) rfl,λ g hg=>?_⟩;simp only[Value.ownBlock,ag_] at hg;obtain⟨xs,d,_⟩:=R.tys;exact⟨λ e=>by have:=d.lt g e;omega,λ e=>by have:=R.uses.lt g e;omega⟩
theorem zmb {w:World}{X:Nat->Prop}{br bz B:Nat}{s:BA}{i:Nat}{bad:Bool}{wr mx:Int}{ts:List TR}{us:List (Nat×Nat)}{zs:List Value}{tv u:Value}(R:Rep w X br bz B s i bad wr mx ts us zs tv u){g:Nat}(hg:X g) :
 (Value.slice (some ⟨w.heap.size,0,none⟩) n c).ownBlock≠some g:=by
 have:=(R.av g hg).1;simp only[Value.ownBlock,ne_eq,ag_];omega
theorem zth {s:BA}{i:Nat}(h:bt s i=91\/bt s i=123) (H:zit s (i+1)):zit s i:=by
 intro w X br bz B wr mx ts us zs tv u R;have A:i<s.size:=zj_ (by omega);have a3:=R.sl;have a4:=R.tl;have C:=zlt h;generalize hc:bt s i=c at *
 cases r:pT s (i+1) with
 | error k=>
  have D:H_ (∀ (e:Ending) (w':World),(∃ v:Nat,e=.returned (.int .i64 (v:Int)))->(∃ mx' y M tv' u',Rep w' X br bz B s k true wr mx' y M zs tv' u'/\y.length+i<=k+ts.length/\Step w w' br bz tv u tv' u')->ym_ w X br bz B s i wr mx ts us zs tv u e w'):=by
   intro e w' h1 E;unfold ym_;rw[C,r];exact⟨h1,E⟩
  have O:H_ (∀ (w:World),Rep w X br bz B s (i+1) false wr mx ts us zs tv u->Calls prog 42 #[.pointer (some ⟨br,0,none⟩)] w λ e w'=>(∃ v:Nat,e=.returned (.int .i64 (v:Int)))/\H_ (∃ mx' y M tv' u',Rep w' X br bz B s k true wr mx' y M zs tv' u'/\y.length+(i+1)<=k+ts.length/\Step w w' br bz tv u tv' u')):=by
   intro w R;refine(H w X br bz B wr mx ts us zs tv u R).mono ?_;intro e w' z;unfold ym_ at z;rw[r] at z;exact z
  generalize ym_ w X br bz B s i wr mx ts us zs tv u=POST at *;clear C H r
  rcases h with rfl|rfl
  all_goals
   go_in
   go_wp2_with (first
    |(go_at_call 39;refine(z3_ R hc).mono ?_;rintro e w1 ⟨rfl,x⟩;have f:=R.still x;have c1:=f.here.c1;have U:=f.here.thaw 1)
    |(go_at_call 42;refine(O.o _ (f.inc A).1).mono ?_;rintro e Y ⟨⟨v,rfl⟩,G⟩;obtain⟨a5,a6,a7,tv2,u2,m,a2,K⟩:=G.o;have c2:=m.here.c2)
    |(go_at_call 70;refine(zdo (m.alloc _).1 (zho m v) (λ g hg=>zmb m hg) (by omega)).mono ?_;rintro e Z ⟨rfl,F⟩))
   try go_ret
   obtain⟨tv',J,st⟩:=F;exact D.o _ _ ⟨_,rfl⟩ ⟨_,_,_,_,_,J,by simp;omega,((((Step.ofStill x).trans (f.inc A).2).trans K).trans (m.alloc _).2).trans st⟩
 | ok q=>
  obtain⟨t,j⟩:=q;have V:=zhx r ts.length;have a1:=(xz_ (s:=s) (i:=i+1) A).1 t j r
  have O:H_ (∀ (w:World),Rep w X br bz B s (i+1) false wr mx ts us zs tv u->Calls prog 42 #[.pointer (some ⟨br,0,none⟩)] w λ e w'=>e=.returned (.int .i64 ((ts.length+(flat ts.length t).length-1:Nat):Int))/\H_ (∃ tv' u',Rep w' X br bz B s j false wr (mix t mx) (ts++flat ts.length t) (us++zr_ t) zs tv' u'/\Step w w' br bz tv u tv' u')):=by
   intro w R;refine(H w X br bz B wr mx ts us zs tv u R).mono ?_;intro e w' z;unfold ym_ at z;rw[r] at z;exact z
  by_cases I:bt s j=xq_ c
  ·have D:H_ (∀ (e:Ending) (w':World),e=.returned (.int .i64 (((ts++flat ts.length t).length:Nat):Int))->(∃ tv' u',Rep w' X br bz B s (j+1) false wr (mix t mx) ((ts++flat ts.length t)++[⟨c,[ts.length+(flat ts.length t).length-1]⟩]) (us++zr_ t) zs tv' u'/\Step w w' br bz tv u tv' u')->ym_ w X br bz B s i wr mx ts us zs tv u e w'):=by
    intro e w' h1 E;unfold ym_;rw[C,r];simp only[I,if_true];refine⟨by rw[h1];simp[flat],?_⟩
    simpa[flat,mix,zr_] using E
   generalize ym_ w X br bz B s i wr mx ts us zs tv u=POST at *;generalize P:ts.length+(flat ts.length t).length-1=N at *
   have Q:(ts++flat ts.length t).length<j+1:=by simp;omega
   generalize ts++flat ts.length t=TS at *;generalize us++zr_ t=US at *;generalize mix t mx=MX at *;clear C H r V P
   rcases h with rfl|rfl
   all_goals
    simp[xq_] at I
    go_in
    go_wp2_with (first
     |(go_at_call 39;refine(z3_ R hc).mono ?_;rintro e w1 ⟨rfl,x⟩;have f:=R.still x;have c1:=f.here.c1;have U:=f.here.thaw 1)
     |(go_at_call 42;refine(O.o _ (f.inc A).1).mono ?_;rintro e Y ⟨rfl,G⟩;obtain⟨tv2,u2,m,K⟩:=G.o;have c2:=m.here.c2)
     |(go_at_call 40;refine(y4_ (bt s j) m (by omega) (by omega)).mono ?_;rintro e Z ⟨rfl,p,T⟩;rw[if_pos rfl] at p)
     |(go_at_call 70;refine(zdo (p.alloc _).1 (zho p N) (λ g hg=>zmb p hg) Q).mono ?_;rintro e w4 ⟨rfl,F⟩))
    try go_ret
    obtain⟨tv',J,st⟩:=F;exact D.o _ _ rfl ⟨_,_,J,(((((Step.ofStill x).trans (f.inc A).2).trans K).trans T).trans (p.alloc _).2).trans st⟩
  ·have D:H_ (∀ (e:Ending) (w':World),(∃ v:Nat,e=.returned (.int .i64 (v:Int)))->(∃ mx' y M tv' u',Rep w' X br bz B s j true wr mx' y M zs tv' u'/\y.length+i<=j+ts.length/\Step w w' br bz tv u tv' u')->ym_ w X br bz B s i wr mx ts us zs tv u e w'):=by
    intro e w' h1 E;unfold ym_;rw[C,r];simp only[I,if_false];exact⟨h1,E⟩
   generalize ym_ w X br bz B s i wr mx ts us zs tv u=POST at *;generalize P:ts.length+(flat ts.length t).length-1=N at *
   have Q:(ts++flat ts.length t).length<j:=by simp;omega
   have a0:(ts++flat ts.length t).length+1+i<=j+ts.length:=by simp;omega
   generalize ts++flat ts.length t=TS at *;generalize us++zr_ t=US at *;generalize mix t mx=MX at *;clear C H r V P;obtain⟨d,hd⟩:∃ d,d=xq_ c:=⟨_,rfl⟩;rw[<- hd] at I
   rcases h with rfl|rfl
   all_goals
    simp[xq_] at hd
    have hd:H_ (d=_):=hd
    go_in
    go_wp2_with (first
     |(go_at_call 39;refine(z3_ R hc).mono ?_;rintro e w1 ⟨rfl,x⟩;have f:=R.still x;have c1:=f.here.c1;have U:=f.here.thaw 1)
     |(go_at_call 42;refine(O.o _ (f.inc A).1).mono ?_;rintro e Y ⟨rfl,G⟩;obtain⟨tv2,u2,m,K⟩:=G.o;have c2:=m.here.c2)
     |(go_at_call 40;refine(y4_ d m (by rw[hd.o];rfl) (by rw[hd.o];decide)).mono ?_;rintro e Z ⟨rfl,p,T⟩;rw[if_neg I] at p)
     |(go_at_call 70;refine(zdo (p.alloc _).1 (zho p N) (λ g hg=>zmb p hg) Q).mono ?_;rintro e w4 ⟨rfl,F⟩))
    try go_ret
    obtain⟨tv',J,st⟩:=F;exact D.o _ _ ⟨_,rfl⟩ ⟨_,_,_,_,_,J,by rw[ah_];exact a0,(((((Step.ofStill x).trans (f.inc A).2).trans K).trans T).trans (p.alloc _).2).trans st⟩
open Go.RowKit
theorem zn_ {w:World}(h:w.ownsRow base e size v n xs):∃ a n c,v=.slice a n c:=by
 rcases h.2 with⟨rfl,_⟩|⟨g,d,_,rfl,_⟩
 ·exact⟨_,_,_,rfl⟩
 ·exact⟨_,_,_,rfl⟩
def zx1 (w:World) (X:Nat->Prop) (br bz B:Nat) (s:BA) (wr:Int) (zs:List Value) (tv u:Value) (Good:Nat->Bool->Int->List TR->List (Nat×Nat)->List Nat->Prop) (sv:Value) (w':World):Prop:=
 ∃ J b MX TS US L tv' u',Good J b MX TS US L/\Rep w' X br bz B s J b wr MX TS US zs tv' u'/\js_ w' B tv' u' sv L/\(∀ g,X g->sv.ownBlock≠some g)/\TS.length<J/\Step w w' br bz tv u tv' u'
theorem zdj {s:BA}{i:Nat}(hc:bt s i=40) (h:Nat->Bool->Int->List TR->List (Nat×Nat)->List Nat->Prop) (m:Ending->World->Prop)
 {w:World} {X:Nat->Prop} {br bz B:Nat} {wr mx:Int} {ts:List TR} {us:List (Nat×Nat)} {zs:List Value} {tv u:Value} (R:Rep w X br bz B s i false wr mx ts us zs tv u)
 (z:H_ (∀ (w:World),Rep w X br bz B s (i+1) false wr mx ts us zs tv u->Calls prog 71 #[.pointer (some ⟨br,0,none⟩)] w λ e w'=>∃ sv,e=.returned (.agg #[.int .u8 40,sv])/\zx1 w X br bz B s wr zs tv u h sv w'))
 (x:H_ (∀ (w':World) (g:Nat) (b:Bool) (MX:Int) (TS:List TR) (US:List (Nat×Nat)) (L:List Nat) (tv' u':Value),h g b MX TS US L->Rep w' X br bz B s g b wr MX (TS++[⟨40,L⟩]) US zs tv' u'->Step w w' br bz tv u tv' u'->m (.returned (.int .i64 (TS.length:Int))) w')) :
 Calls prog 42 #[.pointer (some ⟨br,0,none⟩)] w m:=by
 have p:i<s.size:=zj_ (by omega);have I:=R.sl
 go_in
 go_wp2_with (first
  |(go_at_call 39;refine(z3_ R hc).mono ?_;rintro e w1 ⟨rfl,r⟩;have f:=R.still r;have c1:=f.here.c1;have H:=f.here.thaw 1)
  |(go_at_call 71;refine(z.o _ (f.inc p).1).mono ?_;rintro e M ⟨sv,rfl,A⟩;obtain⟨g,b,MX,TS,US,L,tv2,u2,y,d,q,D,E,G⟩:=A;obtain⟨J,sn,K,rfl⟩:=zn_ q.1)
  |(go_at_call 70;refine(zdo (d.alloc _).1 ((d.alloc _).2.subs q d.rB d.zB) D E).mono ?_;rintro e O ⟨rfl,C⟩))
 try go_ret
 obtain⟨tv',F,st⟩:=C;exact x.o _ _ _ _ _ _ _ _ _ y F (((((Step.ofStill r).trans (f.inc p).2).trans G).trans (d.alloc _).2).trans st)
theorem zqe {s:BA}{i:Nat}(hc:bt s i=40) (o:zvv s (i+1)):zit s i:=by
 intro w X br bz B wr mx ts us zs tv u R;have A:i<s.size:=zj_ (by omega);have C:=R.tl;have p:=zqw hc
 cases h:pA s (i+1) with
 | error k=>
  refine zdj hc (λ g b _ TS _ _=>g=k/\b=true/\TS.length+(i+1)<=k+ts.length) _ R ?_ ?_
  ·intro w R;refine(o w X br bz B wr mx ts us zs tv u R).mono ?_;rintro e w' ⟨sv,tv',u',rfl,st,d⟩;rw[h] at d;obtain⟨mx',x,y,l,f,hl,hs,r⟩:=d;exact⟨sv,rfl,k,true,mx',x,y,l,tv',u',⟨rfl,rfl,hl⟩,f,hs,r,by omega,st⟩
  ·rintro w' g b MX TS US L tv' u' ⟨rfl,rfl,hl⟩ f st;unfold ym_;rw[p,h];exact⟨⟨_,rfl⟩,_,_,_,_,_,f,by rw[ah_];simp only[aq_,ao_];omega,st⟩
 | ok q=>
  obtain⟨ds,j⟩:=q;have z:=zne h ts.length
  by_cases m:bt s j=41
  ·refine zdj hc (λ g b MX TS US L=>g=j+1/\b=false/\MX=mixs [] ds mx/\TS=ts++yl_ ts.length ds/\US=us++zs_ ds/\L=nums ts.length ds) _ R ?_ ?_
   ·intro w R;refine(o w X br bz B wr mx ts us zs tv u R).mono ?_;rintro e w' ⟨sv,tv',u',rfl,st,d⟩;rw[h] at d;simp only[m,if_true] at d;exact⟨sv,rfl,j+1,false,_,_,_,_,tv',u',⟨rfl,rfl,rfl,rfl,rfl,rfl⟩,d.1,d.2.1,d.2.2,by rw[ah_];omega,st⟩
   ·rintro w' g b MX TS US L tv' u' ⟨rfl,rfl,rfl,rfl,rfl,rfl⟩ f st;unfold ym_;rw[p,h];simp only[m,if_true];refine⟨by simp[flat],tv',u',?_,st⟩
    simpa[flat,mix,zr_] using f
  ·refine zdj hc (λ g b _ TS _ _=>g=j/\b=true/\TS.length+(i+1)<=j+ts.length) _ R ?_ ?_
   ·intro w R;refine(o w X br bz B wr mx ts us zs tv u R).mono ?_;rintro e w' ⟨sv,tv',u',rfl,st,d⟩;rw[h] at d;simp only[m,if_false] at d;obtain⟨mx',x,y,l,f,hl,hs,r⟩:=d;exact⟨sv,rfl,j,true,mx',x,y,l,tv',u',⟨rfl,rfl,hl⟩,f,hs,r,by omega,st⟩
   ·rintro w' g b MX TS US L tv' u' ⟨rfl,rfl,hl⟩ f st;unfold ym_;rw[p,h];simp only[m,if_false];exact⟨⟨_,rfl⟩,_,_,_,_,_,f,by rw[ah_];simp only[aq_,ao_];omega,st⟩
open Go.RowKit
structure Mid (w:World) (X:Nat->Prop) (br bz B:Nat) (s:BA) (j:Nat) (wg MX:Int) (TS:List TR) (US:List (Nat×Nat)) (zs:List Value) (tv u tv2 u2 sv:Value) (L:List Nat) (W:World):Prop where
 R:Rep W (λ g=>X g\/g=w.heap.size\/g=w.heap.size+1\/sv.ownBlock=some g) br bz B s j false wg MX TS US zs tv2 u2
 b2:Blk W w.heap.size [.int .u8 0,.slice none 0 0] 77
 b3:Blk W (w.heap.size+1) [.int .u8 40,sv] 77
 ss:js_ W B tv2 u2 sv L
 sn:∀ g,sv.ownBlock=some g->w.heap.size+2<=g
 st:Step w W br bz tv u tv2 u2
def zs4 (w:World) (X:Nat->Prop) (br bz B:Nat) (s:BA) (i:Nat) (wr mx:Int) (ts:List TR) (us:List (Nat×Nat)) (zs:List Value) (tv u:Value) (n:Nat) (kv mv:Value) (W:World):Prop:=
 ∃ (ds:List PT) (i':Nat) (more:Bool) (kb:BA) (sv tv' u':Value),
  kv=.string kb/\mv=.bool more/\kb.data.toList.map UInt8.toNat=ds.map PT.kind/\i+(yl_ ts.length ds).length<=i'/\ds.length<=i'/\
  Mid w X br bz B s i' wr (mixs [] ds mx) (ts++yl_ ts.length ds) (us++zs_ ds) zs tv u tv' u' sv (nums ts.length ds) W/\
  s.size+1-i'<=n/\(more=true->pA s i=zir ds (pA s i'))/\(more=false->pA s i=.ok (ds,i'))
theorem Rep.offS {w:World}{X:Nat->Prop}{br bz B:Nat}{s:BA}{i:Nat}{bad:Bool}{wr mx:Int}{ts:List TR}{us:List (Nat×Nat)}{zs:List Value}{tv u:Value}(R:Rep w X br bz B s i bad wr mx ts us zs tv u){g:Nat}(hg:X g) :
 ¬ (g=br\/g=bz\/tv.ownBlock=some g\/u.ownBlock=some g):=by
 obtain⟨_,a,b,c,d⟩:=R.av g hg;rintro(h|h|h|h)
 ·exact a h
 ·exact b h
 ·exact c h
 ·exact d h
section
variable {w W W':World} {X:Nat->Prop} {br bz B:Nat} {s:BA} {j:Nat} {wg MX:Int} {TS:List TR} {US:List (Nat×Nat)} {zs:List Value} {tv u tv2 u2 sv:Value} {L:List Nat}
theorem Mid.call (M:Mid w X br bz B s j wg MX TS US zs tv u tv2 u2 sv L W){j':Nat}{h:Int}{m:List TR}{o:List (Nat×Nat)}{d f:Value}
 (p:Rep W' (λ g=>X g\/g=w.heap.size\/g=w.heap.size+1\/sv.ownBlock=some g) br bz B s j' false wg h m o zs d f) (st:Step W W' br bz tv2 u2 d f):Mid w X br bz B s j' wg h m o zs tv u d f sv L W':=
 ⟨p,st.fr.blk M.b2 (M.R.offS (.inr (.inl rfl))),st.fr.blk M.b3 (M.R.offS (.inr (.inr (.inl rfl)))),st.subs M.ss M.R.rB M.R.zB,M.sn,M.st.trans st⟩
theorem Mid.still (M:Mid w X br bz B s j wg MX TS US zs tv u tv2 u2 sv L W) (h:zd_ W W'):Mid w X br bz B s j wg MX TS US zs tv u tv2 u2 sv L W':=M.call (M.R.still h) (Step.ofStill h)
theorem Mid.inc (M:Mid w X br bz B s j wg MX TS US zs tv u tv2 u2 sv L W) (h:j<s.size):Mid w X br bz B s (j+1) wg MX TS US zs tv u tv2 u2 sv L (W.setCell ⟨br,1,none⟩ (.int .i64 ((j:Int)+1))):=M.call (M.R.inc h).1 (M.R.inc h).2
theorem Mid.setMx (M:Mid w X br bz B s j wg MX TS US zs tv u tv2 u2 sv L W) (m:Int):Mid w X br bz B s j wg m TS US zs tv u tv2 u2 sv L (W.setCell ⟨br,6,none⟩ (.int .i64 m)):=M.call (M.R.setMx m).1 (M.R.setMx m).2
theorem Mid.grow (M:Mid w X br bz B s j wg MX TS US zs tv u tv2 u2 sv L W){a b:Obj}{f:World}(hg:((W.alloc a).alloc b).grownBy f sv.ownBlock)
 (ho:f.ownsRow B 3 1 v5 (L.length+1) ((L.map λ (n:Nat)=>Value.int .i64 (n:Int))++[.int .i64 (N:Int)])) (hl:v5.ownBlock=sv.ownBlock\/v5.ownBlock=some ((W.alloc a).alloc b).heap.size) :
 Mid w X br bz B s j wg MX TS US zs tv u tv2 u2 v5 (L++[N]) (f.setCell ⟨w.heap.size+1,1,none⟩ v5):=by
 have h:Fr W f (λ g=>sv.ownBlock=some g):=Fr.grown (((Fr.refl W _).alloc a).alloc b) hg (λ k e _=>e);have l2:=M.b2.lt;have I:=M.b3.lt
 have G:∀ g,sv.ownBlock=some g->g≠w.heap.size:=λ g hg e=>by have:=M.sn g hg;omega
 have H:∀ g,sv.ownBlock=some g->g≠w.heap.size+1:=λ g hg e=>by have:=M.sn g hg;omega
 have p:∀ g,v5.ownBlock=some g->w.heap.size+2<=g/\(sv.ownBlock=some g\/W.heap.size<=g):=λ g d=>by
  rcases hl with e|e
  ·exact⟨M.sn g (e▸d),.inl (e▸d)⟩
  ·rw[e] at d;simp only[ag_] at d
   have:((W.alloc a).alloc b).heap.size=W.heap.size+2:=by simp
   exact⟨by omega,.inr (by omega)⟩
 have x:=h.blk M.b2 (λ e=>G _ e rfl);have z:=h.blk M.b3 (λ e=>H _ e rfl);have m:Fr f (f.setCell ⟨w.heap.size+1,1,none⟩ v5) (λ g=>g=w.heap.size+1):=(Fr.refl f (λ g=>g=w.heap.size+1)).setCell ⟨w.heap.size+1,1,none⟩ v5 (λ _=>rfl);have y:=m.blk x (by omega);have A:Blk (f.setCell ⟨w.heap.size+1,1,none⟩ v5) (w.heap.size+1) [.int .u8 40,v5] 77:=z.set 1 v5;have r:=za_ ho m (λ g d e=>by have:=p g d;omega)
 have C:Fr W (f.setCell ⟨w.heap.size+1,1,none⟩ v5) (λ g=>X g\/g=w.heap.size\/g=w.heap.size+1\/sv.ownBlock=some g):=
  (h.mono (λ _ _ e=>.inr (.inr (.inr e)))).trans m (λ _ _ e=>.inr (.inr (.inl e)))
 have E:Fr W (f.setCell ⟨w.heap.size+1,1,none⟩ v5) (λ g=>sv.ownBlock=some g\/g=w.heap.size+1):=(h.mono (λ _ _ e=>.inl e)).trans m (λ _ _ e=>.inr e);have D:∀ g,v5.ownBlock=some g->g<(f.setCell ⟨w.heap.size+1,1,none⟩ v5).heap.size:=λ g d=>(r.lt g d).2;refine⟨(M.R.o C).fewer (λ g d=>?_),y,A,⟨by simpa using r,λ g d=>?_⟩,λ g d=>(p g d).1,M.st.o E (λ g d=>?_)⟩
 ·rcases d with e|e|e|e
  ·exact .inl (.inl e)
  ·exact .inl (.inr (.inl e))
  ·exact .inl (.inr (.inr (.inl e)))
  ·rcases(p g e).2 with q|q
   ·exact .inl (.inr (.inr (.inr q)))
   ·exact .inr ⟨q,D g e⟩
 ·rcases(p g d).2 with q|q
  ·exact M.ss.2 g q
  ·obtain⟨xs,F,_⟩:=M.R.tys;exact⟨λ e=>by have:=F.lt g e;omega,λ e=>by have:=M.R.uses.lt g e;omega⟩
 ·rcases d with e|e
  ·have:=M.sn g e;omega
  ·omega
theorem Mid.growCell (M:Mid w X br bz B s j wg MX TS US zs tv u tv2 u2 sv L W){a b:Obj}{d:World}(hg:((W.alloc a).alloc b).grownBy d sv.ownBlock):d.cell? ⟨w.heap.size+1,1,none⟩=some sv/\d.frozen? ⟨w.heap.size+1,1,none⟩=false:=by
 have h:Fr W d (λ g=>sv.ownBlock=some g):=Fr.grown (((Fr.refl W _).alloc a).alloc b) hg (λ k e _=>e);have f:=h.blk M.b3 (λ e=>by have:=M.sn _ e;omega);exact⟨f.cell 1,f.thaw 1⟩
end
theorem zsw {w:World}{X:Nat->Prop}{br bz B:Nat}{s:BA}{i:Nat}{wg mx:Int}{ts:List TR}{us:List (Nat×Nat)}{zs:List Value}{tv u:Value}(R:Rep w X br bz B s i false wg mx ts us zs tv u) :
 zs4 w X br bz B s i wg mx ts us zs tv u (s.size+1) (.string ⟨#[]⟩) (.bool true) ((w.alloc (.cells #[.int .u8 0,.slice none 0 0] 77)).alloc (.cells #[.int .u8 40,.slice none 0 0] 77)):=by
 have h1:=R.o (((Fr.refl w X).alloc (.cells #[.int .u8 0,.slice none 0 0] 77)).alloc (.cells #[.int .u8 40,.slice none 0 0] 77));refine⟨[],i,true,⟨#[]⟩,.slice none 0 0,tv,u,rfl,rfl,rfl,by simp[yl_],ak_ _,⟨?_,(Blk.new w _ _).alloc _,?_,zhp _ _ _ _,λ g hg=>by simp[Value.ownBlock] at hg,⟨((Fr.refl w _).alloc _).alloc _,.inl rfl,.inl rfl⟩⟩,by omega,λ _=>(zk5 _).symm,λ h=>by cases h⟩
 ·have d:=h1.fewer (Y:=λ g=>X g\/g=w.heap.size\/g=w.heap.size+1\/(Value.slice none 0 0).ownBlock=some g) (λ g hg=>by
   rcases hg with hg|hg|hg|hg
   ·exact .inl hg
   ·exact .inr (by simp;omega)
   ·exact .inr (by simp;omega)
   ·simp[Value.ownBlock] at hg)
  simpa[mixs,yl_,zs_] using d
 ·have:=Blk.new (w.alloc (.cells #[.int .u8 0,.slice none 0 0] 77)) #[.int .u8 40,.slice none 0 0] 77
  simpa using this
theorem Fr.two (w:World) (b d f:Nat) (v1 v2:Value):Fr w ((w.setCell ⟨b,d,none⟩ v1).setCell ⟨b,f,none⟩ v2) (λ g=>g=b):=
 ((Fr.refl w (λ g=>g=b)).setCell ⟨b,d,none⟩ v1 (λ _=>rfl)).setCell ⟨b,f,none⟩ v2 (λ _=>rfl)
theorem zxr {w wr h m:World}{X:Nat->Prop}{br bz B:Nat}{s:BA}{i:Nat}{wg mx:Int}{ts:List TR}{us:List (Nat×Nat)}{zs:List Value}{tv u sv:Value}(R:Rep w X br bz B s i false wg mx ts us zs tv u)
 (r:pA s i=.ok (ds,i'))
 (d:if bt s i'=41 then Rep h (λ g=>X g\/g=w.heap.size\/g=w.heap.size+1\/sv.ownBlock=some g) br bz B s (i'+1) false wg (mixs [] ds mx) (ts++yl_ ts.length ds) (us++zs_ ds) zs tv' u'
  else Rep h (λ g=>X g\/g=w.heap.size\/g=w.heap.size+1\/sv.ownBlock=some g) br bz B s i' true wg (mixs [] ds mx) (ts++yl_ ts.length ds) (us++zs_ ds) zs tv' u')
 (A:Step w wr br bz tv u tv' u') (y:Step wr h br bz tv' u' tv' u') (z:js_ wr B tv' u' sv (nums ts.length ds)) (x:∀ g,sv.ownBlock=some g->w.heap.size+2<=g) (f:Fr h m (λ g=>g=w.heap.size)) :
 ze4 w X br bz B s i wg mx ts us zs tv u (.returned (.agg #[.int .u8 40,sv])) m:=by
 have p:js_ m B tv' u' sv (nums ts.length ds):=by
  have h1:=y.subs z R.rB R.zB;exact⟨za_ h1.1 f (λ g hg e=>by have:=x g hg;omega),h1.2⟩
 have q:∀ g,X g->sv.ownBlock≠some g:=λ g hg e=>by have:=x g e;have:=(R.av g hg).1;omega
 refine⟨sv,tv',u',rfl,(A.trans y).o f (λ g hg=>by omega),?_⟩;rw[r];simp only
 by_cases hb:bt s i'=41
 ·rw[if_pos hb] at d⊢;exact⟨(d.o (f.mono (λ _ _ e=>.inr (.inl e)))).fewer (λ g hg=>.inl (.inl hg)),p,q⟩
 ·rw[if_neg hb] at d⊢;have hc:=zne r ts.length;exact⟨_,_,_,_,(d.o (f.mono (λ _ _ e=>.inr (.inl e)))).fewer (λ g hg=>.inl (.inl hg)),by rw[ah_];omega,p,q⟩
theorem zxq {w wr f h:World}{X:Nat->Prop}{br bz B:Nat}{s:BA}{i:Nat}{wg mx D:Int}{ts q:List TR}{us E:List (Nat×Nat)}{zs:List Value}{tv u tv2 u2 sv:Value}{l:List Nat}(R:Rep w X br bz B s i false wg mx ts us zs tv u)
 (z:pA s i=.error k) (r:Rep f (λ g=>X g\/g=w.heap.size\/g=w.heap.size+1\/sv.ownBlock=some g) br bz B s k true wg D q E zs tv2 u2) (hl:q.length+i<=k+ts.length)
 (C:Step w wr br bz tv u tv' u') (p:Step wr f br bz tv' u' tv2 u2) (A:js_ wr B tv' u' sv l) (m:∀ g,sv.ownBlock=some g->w.heap.size+2<=g) (d:Fr f h (λ g=>g=w.heap.size)) :
 ze4 w X br bz B s i wg mx ts us zs tv u (.returned (.agg #[.int .u8 40,sv])) h:=by
 have x:js_ h B tv2 u2 sv l:=by
  have h1:=p.subs A R.rB R.zB;exact⟨za_ h1.1 d (λ g hg e=>by have:=m g hg;omega),h1.2⟩
 have y:∀ g,X g->sv.ownBlock≠some g:=λ g hg e=>by have:=m g e;have:=(R.av g hg).1;omega
 refine⟨sv,tv2,u2,rfl,(C.trans p).o d (λ g hg=>by omega),?_⟩;rw[z];exact⟨_,_,_,_,(r.o (d.mono (λ _ _ e=>.inr (.inl e)))).fewer (λ g hg=>.inl (.inl hg)),hl,x,y⟩
theorem zke {w:World}{X:Nat->Prop}{br bz B:Nat}{s:BA}{i:Nat}{bad:Bool}{wr mx:Int}{ts f:List TR}{us:List (Nat×Nat)}{zs:List Value}{tv u:Value}(R:Rep w X br bz B s i bad wr mx (ts++f) us zs tv u)
 (x:N=ts.length+f.length-1) (y:0<f.length) (hk:(f[f.length-1]?).map TR.kind=some c) :
 ∃ g m,N+1<=m/\w.cell? ⟨g,N*2,none⟩=some (.int .u8 (c:Int))/\w.cell? ⟨bz,0,none⟩=some (.slice (some ⟨g,0,none⟩) (N+1) m):=by
 obtain⟨xs,o,q⟩:=R.tys
 have hl:(ts++f).length=N+1:=by rw[ah_];omega
 rw[hl] at o;obtain⟨g,m,rfl⟩:=zh_ o (by omega)
 cases p:f[f.length-1]? with
 | none=>rw[p] at hk;cases hk
 | some t=>
  rw[p] at hk;simp only[bw_,ag_] at hk;obtain⟨sv,a,b,d,r⟩:=q N t (by rw[ar_ (by omega),show N-ts.length=f.length-1 by omega];exact p);refine⟨g,m,?_,?_,?_⟩
  ·rcases o.2 with⟨h,_⟩|⟨_,_,_,h,_,_,hc,_⟩
   ·cases h
   ·cases h;exact hc
  ·rw[o.cellAt _ (by omega),a2_,a,hk]
  ·rw[R.z.cell];rfl
theorem zvy:Tryz.prog.underlying 99=some (.slice 5):=by kernel_rfl
theorem zyc:Tryz.prog.underlying 5=some (.int .u8):=by kernel_rfl
theorem zer:Tryz.prog.underlying 9=some .string:=by kernel_rfl
theorem zu8:Tryz.prog.underlying 75=some (.slice 3):=by kernel_rfl
theorem zz3:(Tryz.prog.info? 3).map (λ i=>(i.zero,i.size,i.bytes))=some (some (.int .i64 0),1,8):=by kernel_rfl
theorem zin (W:World) (g:Nat) (c:Int) (hg:W.heap.size=g) :
 (convert 99 9 (.slice (some ⟨g,0,none⟩) 1 1)).run prog (W.alloc (.cells #[.int .u8 c] 5))=.ok (.string ⟨#[UInt8.ofNat c.toNat]⟩) (W.alloc (.cells #[.int .u8 c] 5)):=by
 subst hg;rw[run_convert_bytes_string _ _ _ _ _ _ _ zvy zyc zer];have hl:=run_loadCells_list (P:=prog) (W.alloc (.cells #[.int .u8 c] 5)) ⟨W.heap.size,0,none⟩ ([c].map (Value.int .u8)) (z7_ W #[.int .u8 c] 5 _ rfl);rw[run_bytesToString _ _ 1 1 [c] (by simpa using hl)]
 rfl
theorem zb7 (s:BA) (c:Nat):0<=plc s c↔c∈s.data.toList.map UInt8.toNat:=by
 unfold plc
 cases h:s.data.toList.findIdx? (λ b=>b.toNat==c) with
 | none=>
  rw[List.findIdx?_eq_none_iff] at h
  constructor
  ·intro h;simp at h
  ·intro d;obtain⟨b,hb,rfl⟩:=bs_.1 d;have:=h b hb
   simp at this
 | some k=>
  rw[List.findIdx?_eq_some_iff_getElem] at h;obtain⟨hk,hb,_⟩:=h
  constructor
  ·intro _;exact bs_.2 ⟨_,a0_ hk,by simpa using hb⟩
  ·intro _;simp
theorem zwf {s:BA}{i:Nat}{t:PT}{j:Nat}(h:pT s i=.ok (t,j)):t.kind=bt s i:=by
 rw[zjn] at h;unfold za6 at h;split at h
 ·simp only[ae_,ad_] at h;obtain⟨rfl,rfl⟩:=h;rfl
 ·split at h
  ·split at h
   ·simp at h
   ·split at h
    ·simp only[ae_,ad_] at h;obtain⟨rfl,rfl⟩:=h;rfl
    ·simp at h
  ·split at h
   ·rename_i d;split at h
    ·simp at h
    ·split at h
     ·simp only[ae_,ad_] at h;obtain⟨rfl,rfl⟩:=h;exact d.symm
     ·simp at h
   ·split at h
    ·simp only[ae_,ad_] at h;obtain⟨rfl,rfl⟩:=h;rfl
    ·simp at h
theorem zmd {l:List Nat}(h:kb.data.toList.map UInt8.toNat=l) (hc:c<256):(kb++⟨#[UInt8.ofNat c]⟩:BA).data.toList.map UInt8.toNat=l++[c]:=by
 subst h
 have:(kb++⟨#[UInt8.ofNat c]⟩:BA).data=kb.data++#[UInt8.ofNat c]:=by simp[ByteArray.data_append]
 rw[this]
 simp
 omega
theorem zh4 {t:PT}{mx MX:Int}(f:kb.data.toList.map UInt8.toNat=ds.map PT.kind) (g:t.place=i') (d:mix t (mixs [] ds mx)=MX) (h:(t.kind=40\/0<=plc kb t.kind)/\(MX<0\/(i':Int)<MX)) :
 (i':Int)=zbf (ds.map PT.kind) t (mix t (mixs [] ds mx)):=by
 rw[d,zbf,g,<- f];simp only[<- zb7];rw[if_pos h]
theorem zew {t:PT}{mx MX:Int}(f:kb.data.toList.map UInt8.toNat=ds.map PT.kind) (g:t.place=i') (d:mix t (mixs [] ds mx)=MX) (h:¬ ((t.kind=40\/0<=plc kb t.kind)/\(MX<0\/(i':Int)<MX))) :
 MX=zbf (ds.map PT.kind) t (mix t (mixs [] ds mx)):=by
 rw[d,zbf,g,<- f];simp only[<- zb7];rw[if_neg h]
theorem j2_ {w W:World}{X:Nat->Prop}{br bz B:Nat}{s:BA}{i j:Nat}{wg mx MX:Int}{ts:List TR}{us:List (Nat×Nat)}{zs:List Value}{tv u tv2 u2 sv:Value}{t:PT}(n:Nat) (more:Bool) (j':Nat)
 (f:pT s i'=.ok (t,j)) (p:i'<=s.size) (y:kb.data.toList.map UInt8.toNat=ds.map PT.kind) (E:i+(yl_ ts.length ds).length<=i') (D:ds.length<=i')
 (r:pA s i=zir ds (pA s i')) (m:N=(ts++yl_ ts.length ds).length+(flat (ts++yl_ ts.length ds).length t).length-1)
 (x:MX=zbf (ds.map PT.kind) t (mix t (mixs [] ds mx)))
 (M:Mid w X br bz B s j' wg MX ((ts++yl_ ts.length ds)++flat (ts++yl_ ts.length ds).length t) ((us++zs_ ds)++zr_ t) zs tv u tv2 u2 sv (nums ts.length ds++[N]) W)
 (hn:s.size+1-j'<=n) (q:(more=true/\j'=j+1/\bt s j=44)\/(more=false/\j'=j/\bt s j≠44)) :
 zs4 w X br bz B s i wg mx ts us zs tv u n (.string (kb++⟨#[UInt8.ofNat t.kind]⟩)) (.bool more) W:=by
 have hb:=(xz_ p).1 t j f;have hc:=zhx f (ts.length+(yl_ ts.length ds).length)
 have hk:t.kind<256:=by rw[zwf f];exact zf4 _ _
 have d:=zl3 s i' p;rw[f] at d;simp only at d;have o:=zg8 ts.length ds t;have C:=zj0 ts.length ds t;rw[ah_] at M m;refine⟨ds++[t],j',more,_,sv,tv2,u2,rfl,rfl,by rw[zmd y hk,be_];rfl,by rw[o,ah_];omega,by rw[ah_];simp only[aq_,ao_];omega,?_,hn,λ A=>?_,λ z=>?_⟩
 ·rw[o,C,zd9,zrk,<- bo_,<- bo_,<- m,ba_,<- x];exact M
 ·rcases q with⟨_,rfl,g⟩|⟨h,_⟩
  ·rw[r,d,if_pos g,zgf]
  ·rw[A] at h;cases h
 ·rcases q with⟨h,_⟩|⟨_,rfl,g⟩
  ·rw[z] at h;cases h
  ·rw[r,d,if_neg g];rfl
end Go.Proofs.YtiifagiebikmdaaGreatDoor
