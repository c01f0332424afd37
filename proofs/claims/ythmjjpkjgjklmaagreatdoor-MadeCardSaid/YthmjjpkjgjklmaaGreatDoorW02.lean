import Derived.Test.YthmjjpkjgjklmaaGreatDoorW00
import Derived.WalkKit
import Derived.WalkSpells
import Derived.WalkLawsBesides
import Derived.Deep.QuietTactic
import Derived.BigQuiet
import Derived.Maps.AppendAt
import Derived.Deep.RegionLaw
import Derived.Test.YthmjjpkjgjklmaaGreatDoorW01
import Derived.Deep.LoopGhost
import Derived.Test.YthmjjpkjgjklmaaGreatDoorA00
set_option maxHeartbeats 16000000
set_option maxRecDepth 100000
set_option linter.unusedSimpArgs false
namespace Go.Proofs.YthmjjpkjgjklmaaGreatDoor
open Go.RowKit
variable {t b base size:Nat}{l cs:List Value}{v0 v1 v2 v3 v5 v4 v6 tv' u' v7 v tv3 u3:Value}{a c:World}{S:Nat->Prop}{e:TypeId}
def Blk (w:World) (b:Nat) (cs:List Value) (t:TypeId):Prop:=w.heap[b]?=some (.cells cs.toArray t (0,0))
theorem Blk.cell {w:World}(h:Blk w b cs t) (o:Nat):w.cell? ⟨b,o,none⟩=cs[o]?:=by
 unfold Blk at h
 simp[World.cell?,h]
theorem Blk.thaw {w:World}(h:Blk w b cs t) (o:Nat):w.frozen? ⟨b,o,none⟩=false:=by
 unfold Blk at h
 simp[World.frozen?,h]
theorem Blk.c0 {w:World}(h:Blk w b (v0::l) t):w.cell? ⟨b,0,none⟩=some v0:=h.cell 0
theorem Blk.c1 {w:World}(h:Blk w b (v0::v1::l) t):w.cell? ⟨b,1,none⟩=some v1:=h.cell 1
theorem Blk.c2 {w:World}(h:Blk w b (v0::v1::v2::l) t):w.cell? ⟨b,2,none⟩=some v2:=h.cell 2
theorem Blk.c3 {w:World}(h:Blk w b (v0::v1::v2::v3::l) t):w.cell? ⟨b,3,none⟩=some v3:=h.cell 3
theorem Blk.c4 {w:World}(h:Blk w b (v0::v1::v2::v3::v4::l) t):w.cell? ⟨b,4,none⟩=some v4:=h.cell 4
theorem Blk.c5 {w:World}(h:Blk w b (v0::v1::v2::v3::v4::v5::l) t):w.cell? ⟨b,5,none⟩=some v5:=h.cell 5
theorem Blk.c6 {w:World}(h:Blk w b (v0::v1::v2::v3::v4::v5::v6::l) t):w.cell? ⟨b,6,none⟩=some v6:=h.cell 6
theorem Blk.c7 {w:World}(h:Blk w b (v0::v1::v2::v3::v4::v5::v6::v7::l) t):w.cell? ⟨b,7,none⟩=some v7:=h.cell 7
theorem Blk.c8 {w:World}{v8:Value}(h:Blk w b (v0::v1::v2::v3::v4::v5::v6::v7::v8::l) t):w.cell? ⟨b,8,none⟩=some v8:=h.cell 8
theorem Blk.c9 {w:World}{v8 v9:Value}(h:Blk w b (v0::v1::v2::v3::v4::v5::v6::v7::v8::v9::l) t):w.cell? ⟨b,9,none⟩=some v9:=h.cell 9
theorem Blk.d3 {w:World}(h:Blk w b (v0::v1::v2::l) t):w.cell? ⟨b,0,none⟩=some v0/\w.cell? ⟨b,1,none⟩=some v1/\w.cell? ⟨b,2,none⟩=some v2:=⟨h.cell 0,h.cell 1,h.cell 2⟩
theorem Blk.d4 {w:World}(h:Blk w b (v0::v1::v2::v3::l) t):w.cell? ⟨b,0,none⟩=some v0/\w.cell? ⟨b,1,none⟩=some v1/\w.cell? ⟨b,2,none⟩=some v2/\w.cell? ⟨b,3,none⟩=some v3:=⟨h.cell 0,h.cell 1,h.cell 2,h.cell 3⟩
theorem Blk.t3 {w:World}(h:Blk w b l t):w.frozen? ⟨b,0,none⟩=false/\w.frozen? ⟨b,1,none⟩=false/\w.frozen? ⟨b,2,none⟩=false:=⟨h.thaw 0,h.thaw 1,h.thaw 2⟩
theorem Blk.t4 {w:World}(h:Blk w b l t):w.frozen? ⟨b,0,none⟩=false/\w.frozen? ⟨b,1,none⟩=false/\w.frozen? ⟨b,2,none⟩=false/\w.frozen? ⟨b,3,none⟩=false:=⟨h.thaw 0,h.thaw 1,h.thaw 2,h.thaw 3⟩
theorem Blk.lt {w:World}(h:Blk w b cs t):b<w.heap.size:=by
 unfold Blk at h;exact(Array.getElem?_eq_some_iff.1 h).1
theorem Blk.set {w:World}(h:Blk w b cs t) (o:Nat) (v:Value):Blk (w.setCell ⟨b,o,none⟩ v) b (cs.set o v) t:=by
 unfold Blk at *
 simp[World.setCell,Array.getElem?_modify,h]
theorem Blk.other {w:World}(h:Blk w b cs t){a:Addr}(v:Value) (hb:b≠a.block):Blk (w.setCell a v) b cs t:=by
 unfold Blk at *;rw[Below.heap_setCell _ _ _ _ hb];exact h
theorem Blk.alloc {w:World}(h:Blk w b cs t) (o:Obj):Blk (w.alloc o) b cs t:=by
 have hl:=h.lt;unfold Blk at *;rw[Below.heap_alloc _ _ _ hl];exact h
theorem Blk.drew {w:World}(h:Blk w b cs t):Blk w.drew b cs t:=h
theorem Blk.new (w:World) (cs:Array Value) (t:TypeId):Blk (w.alloc (.cells cs t)) w.heap.size cs.toList t:=by
 show(w.heap.push _)[w.heap.size]?=_
 simp
structure Fr (w w':World) (S:Nat->Prop):Prop where
 os:w'.os=w.os
 tape:w'.tape=w.tape
 output:w'.output=w.output
 size:w.heap.size<=w'.heap.size
 block:∀ k,k<w.heap.size->¬ S k->w'.heap[k]?=w.heap[k]?
theorem Fr.refl (w:World) (S:Nat->Prop):Fr w w S:=⟨rfl,rfl,rfl,l_,λ _ _ _=>rfl⟩
theorem Fr.trans {b:World}{T:Nat->Prop}(h:Fr a b S) (k:Fr b c T) (hT:∀ x,x<a.heap.size->T x->S x):Fr a c S:=
 ⟨k.os.trans h.os,k.tape.trans h.tape,k.output.trans h.output,ah_ h.size k.size,λ i hi hS=>(k.block i (bl_ hi h.size) (λ t=>hS (hT i hi t))).trans (h.block i hi hS)⟩
theorem Fr.mono {b:World}{T:Nat->Prop}(h:Fr a b S) (hT:∀ x,x<a.heap.size->S x->T x):Fr a b T:=
 ⟨h.os,h.tape,h.output,h.size,λ i hi hn=>h.block i hi (λ s=>hn (hT i hi s))⟩
theorem Fr.drew {b:World}(h:Fr a b S):Fr a b.drew S:=⟨h.os,h.tape,h.output,h.size,h.block⟩
theorem Fr.alloc {b:World}(h:Fr a b S) (o:Obj):Fr a (b.alloc o) S:=
 h.trans ⟨rfl,rfl,rfl,by simp,λ k hk _=>Below.heap_alloc _ _ _ hk⟩ (T:=λ _=>False) v_
theorem Fr.setCell {b:World}(h:Fr a b S) (p:Addr) (v:Value) (hp:p.block<a.heap.size->S p.block):Fr a (b.setCell p v) S:=
 h.trans (T:=λ x=>x=p.block) ⟨rfl,rfl,rfl,by simp[World.setCell],λ k _ hS=>Below.heap_setCell _ _ _ _ hS⟩ (λ _ hx e=>e▸hp (e▸hx))
theorem Fr.grown {b:World}{row:Option Nat}(h:Fr a b S) (hg:b.grownBy c row) (hr:∀ k,row=some k->k<a.heap.size->S k):Fr a c S:=
 h.trans (T:=λ x=>row=some x) ⟨hg.os,hg.tape,hg.output,hg.size,λ k hk hS=>hg.block k hk (λ e=>hS e.symm)⟩ (λ x hx e=>hr x e hx)
theorem Fr.blk {w w':World}(h:Fr w w' S)(hb:Blk w b cs t) (hS:¬ S b):Blk w' b cs t:=by
 have:=h.block b hb.lt hS;unfold Blk at *;rw[this];exact hb
structure RV where
 i:Nat
 bad:Bool
 u:Value
 wr:Int
 mx:Int
def RV.cells (s:BA) (bz:Nat) (σ:RV):List Value:=
 [.string s,.int .i64 σ.i,.bool σ.bad,.pointer (some ⟨bz,0,none⟩),σ.u,.int .i64 σ.wr,.int .i64 σ.mx]
def RAt (w:World) (br:Nat) (s:BA) (bz:Nat) (σ:RV):Prop:=Blk w br (σ.cells s bz) 76
section
variable {w:World} {br:Nat} {s:BA} {bz:Nat} {σ:RV}
theorem RAt.c0 (h:RAt w br s bz σ):w.cell? ⟨br,0,none⟩=some (.string s):=by rw[Blk.cell h];rfl
theorem RAt.c1 (h:RAt w br s bz σ):w.cell? ⟨br,1,none⟩=some (.int .i64 σ.i):=by rw[Blk.cell h];rfl
theorem RAt.c2 (h:RAt w br s bz σ):w.cell? ⟨br,2,none⟩=some (.bool σ.bad):=by rw[Blk.cell h];rfl
theorem RAt.c3 (h:RAt w br s bz σ):w.cell? ⟨br,3,none⟩=some (.pointer (some ⟨bz,0,none⟩)):=by rw[Blk.cell h];rfl
theorem RAt.c4 (h:RAt w br s bz σ):w.cell? ⟨br,4,none⟩=some σ.u:=by rw[Blk.cell h];rfl
theorem RAt.c5 (h:RAt w br s bz σ):w.cell? ⟨br,5,none⟩=some (.int .i64 σ.wr):=by rw[Blk.cell h];rfl
theorem RAt.c6 (h:RAt w br s bz σ):w.cell? ⟨br,6,none⟩=some (.int .i64 σ.mx):=by rw[Blk.cell h];rfl
theorem RAt.setI (h:RAt w br s bz σ) (n:Nat):RAt (w.setCell ⟨br,1,none⟩ (.int .i64 n)) br s bz { σ with i:=n }:=Blk.set h 1 _
end
theorem RAt.thaw {w:World}{br:Nat}{s:BA}{bz:Nat}{σ:RV}(h:RAt w br s bz σ) (o:Nat):w.frozen? ⟨br,o,none⟩=false:=Blk.thaw h o
theorem Fr.one (w:World) (p:Addr) (v:Value):Fr w (w.setCell p v) (· = p.block):=(Fr.refl w _).setCell p v (λ _=>rfl)
def ze_ (w w':World):Prop:=∃ n,w'=w.drewN n
theorem ze_.refl (w:World):ze_ w w:=⟨0,rfl⟩
theorem ze_.drewN (w:World) (n:Nat):ze_ w (w.drewN n):=⟨n,rfl⟩
theorem ze_.drew (w:World):ze_ w w.drew:=⟨1,rfl⟩
theorem ze_.trans {b:World}(h:ze_ a b) (k:ze_ b c):ze_ a c:=by
 obtain⟨n,rfl⟩:=h;obtain⟨m,rfl⟩:=k;exact⟨n+m,by simp[World.drewN,a0_]⟩
theorem RAt.still {w w':World}{br:Nat}{s:BA}{bz:Nat}{σ:RV}(h:RAt w br s bz σ) (hw:ze_ w w'):RAt w' br s bz σ:=by
 obtain⟨n,rfl⟩:=hw;exact h
theorem Fr.still {w w':World}(h:Fr a w S) (hw:ze_ w w'):Fr a w' S:=by
 obtain⟨n,rfl⟩:=hw;exact⟨h.os,h.tape,h.output,h.size,h.block⟩
def plc (s:BA) (c:Nat):Int:=match s.data.toList.findIdx? (λ b=>b.toNat==c) with|some k=>k|none=>-1
open Go.RowKit
open Go.RowKit
theorem zb_ {w w':World}{n:Nat}{xs:List Value}(h:w.ownsRow base e size v n xs) (hf:Fr w w' S) (hS:∀ g,v.ownBlock=some g->¬ S g):w'.ownsRow base e size v n xs:=by
 refine⟨h.1,?_⟩
 rcases h.2 with h0|⟨g,cap,cur,rfl,hb,hg,rest⟩
 ·exact .inl h0
 ·refine .inr ⟨g,cap,cur,rfl,hb,?_,rest⟩;rw[hf.block g (by exact(Array.getElem?_eq_some_iff.1 hg).1) (hS g rfl)];exact hg
theorem yh_ (w:World) (cs:Array Value) (t:TypeId) (g:Nat) (hg:g=w.heap.size):∀ j u,cs.toList[j]?=some u->(w.alloc (.cells cs t)).cell? ((⟨g,0,none⟩:Addr).add j)=some u:=by
 intro j u h;subst hg;have:=(Blk.new w cs t).cell j;unfold Addr.add;split
 ·rename_i hj;subst hj;rw[this];exact h
 ·simp only[bg_];rw[this];exact h
theorem zk_ {w:World}{n:Nat}{xs:List Value}(h:w.ownsRow base e size v n xs) (hn:0<n):∃ g cap,v=.slice (some ⟨g,0,none⟩) n cap:=by
 rcases h.2 with⟨_,h0⟩|⟨g,cap,_,hv,_⟩
 ·omega
 ·exact⟨g,cap,hv⟩
theorem zoo {w:World}{n k:Nat}{xs:List Value}(h:w.ownsRow base e size v n xs) (hk:k<base):v.ownBlock≠some k:=λ e=>by
 have:=h.lt k e;omega
open Go.RowKit
def zo4 (w:World) (B:Nat) (tv u sv:Value) (l:List Nat):Prop:=
 w.ownsRow B 3 1 sv l.length (l.map λ (n:Nat)=>Value.int .i64 (n:Int))/\∀ g,sv.ownBlock=some g->tv.ownBlock≠some g/\u.ownBlock≠some g
def z1d (w:World) (X:Nat->Prop) (B:Nat) (tv u:Value) (ts:List TR):Prop:=
 ∃ xs,w.ownsRow B 66 2 tv ts.length xs/\∀ k t,ts[k]?=some t->∃ sv,xs[2*k]?=some (.int .u8 (t.kind:Int))/\xs[2*k+1]?=some sv/\zo4 w B tv u sv t.subs/\∀ g,X g->sv.ownBlock≠some g
def zu8 (us:List (Nat×Nat)):List Value:=us.flatMap λ p=>[.int .u8 (p.1:Int),.int .i64 (p.2:Int)]
structure Rep (w:World) (X:Nat->Prop) (br bz B:Nat) (s:BA) (i:Nat) (bad:Bool) (wr mx:Int) (ts:List TR) (us:List (Nat×Nat)) (zs:List Value) (tv u:Value):Prop where
 here:RAt w br s bz ⟨i,bad,u,wr,mx⟩
 z:Blk w bz (tv::zs) 42
 tys:z1d w X B tv u ts
 uses:w.ownsRow B 78 2 u us.length (zu8 us)
 apart:∀ g,tv.ownBlock=some g->u.ownBlock≠some g
 rB:br<B
 zB:bz<B
 hB:B<=w.heap.size
 rz:br≠bz
 il:i<=s.size
 sl:s.size<=300
 tl:ts.length<=i
 ul:us.length<=i
 av:∀ g,X g->g<w.heap.size/\g≠br/\g≠bz/\tv.ownBlock≠some g/\u.ownBlock≠some g
structure Step (w w':World) (br bz:Nat) (tv u tv' u':Value):Prop where
 fr:Fr w w' (λ x=>x=br\/x=bz\/tv.ownBlock=some x\/u.ownBlock=some x)
 tvb:tv'.ownBlock=tv.ownBlock\/∃ g,tv'.ownBlock=some g/\w.heap.size<=g
 ub:u'.ownBlock=u.ownBlock\/∃ g,u'.ownBlock=some g/\w.heap.size<=g
theorem Step.refl (w:World) (br bz:Nat) (tv u:Value):Step w w br bz tv u tv u:=⟨Fr.refl _ _,.inl rfl,.inl rfl⟩
theorem Step.trans {b:World}{br bz:Nat}{tv u tv'' u'':Value}(h:Step a b br bz tv u tv' u') (k:Step b c br bz tv' u' tv'' u''):Step a c br bz tv u tv'' u'':=by
 refine⟨h.fr.trans k.fr (λ x hx hT=>?_),?_,?_⟩
 ·rcases hT with e|e|e|e
  ·exact .inl e
  ·exact .inr (.inl e)
  ·rcases h.tvb with q|⟨g,q,hg⟩
   ·exact .inr (.inr (.inl (q▸e)))
   ·rw[q] at e;cases e;omega
  ·rcases h.ub with q|⟨g,q,hg⟩
   ·exact .inr (.inr (.inr (q▸e)))
   ·rw[q] at e;cases e;omega
 ·rcases k.tvb with q|⟨g,q,hg⟩
  ·rw[q];exact h.tvb
  ·exact .inr ⟨g,q,ah_ h.fr.size hg⟩
 ·rcases k.ub with q|⟨g,q,hg⟩
  ·rw[q];exact h.ub
  ·exact .inr ⟨g,q,ah_ h.fr.size hg⟩
theorem Step.subs {w w':World}{br bz B:Nat}{tv u sv:Value}{l:List Nat}(h:Step w w' br bz tv u tv' u') (hs:zo4 w B tv u sv l) (hr:br<B) (hz:bz<B):zo4 w' B tv' u' sv l:=by
 refine⟨zb_ hs.1 h.fr (λ g hg hS=>?_),λ g hg=>?_⟩
 ·have:=hs.1.lt g hg
  rcases hS with e|e|e|e
  ·omega
  ·omega
  ·exact(hs.2 g hg).1 e
  ·exact(hs.2 g hg).2 e
 ·have:=hs.1.lt g hg;refine⟨λ e=>?_,λ e=>?_⟩
  ·rcases h.tvb with q|⟨x,q,hx⟩
   ·exact(hs.2 g hg).1 (q▸e)
   ·rw[q] at e;cases e;omega
  ·rcases h.ub with q|⟨x,q,hx⟩
   ·exact(hs.2 g hg).2 (q▸e)
   ·rw[q] at e;cases e;omega
section
variable {w w':World} {X:Nat->Prop} {br bz B:Nat} {s:BA} {i j:Nat} {bad bad':Bool} {wr mx wr' mx':Int} {ts:List TR} {us:List (Nat×Nat)} {zs:List Value} {tv u:Value}
theorem Rep.move (R:Rep w X br bz B s i bad wr mx ts us zs tv u) (hf:Fr w w' (· = br)) (ha:RAt w' br s bz ⟨j,bad',u,wr',mx'⟩) (h1:i<=j) (h2:j<=s.size) :
 Rep w' X br bz B s j bad' wr' mx' ts us zs tv u/\Step w w' br bz tv u tv u:=by
 have hS:Step w w' br bz tv u tv u:=⟨hf.mono (λ _ _ e=>.inl e),.inl rfl,.inl rfl⟩;refine⟨⟨ha,hf.blk R.z (Ne.symm R.rz),?_,zb_ R.uses hf (λ g hg e=>zoo R.uses R.rB (e▸hg)),R.apart,R.rB,R.zB,ah_ R.hB hf.size,R.rz,h2,R.sl,ah_ R.tl h1,ah_ R.ul h1,λ g hg=>⟨bl_ (R.av g hg).1 hf.size,(R.av g hg).2⟩⟩,hS⟩;obtain⟨xs,hx,hk⟩:=R.tys;refine⟨xs,zb_ hx hf (λ g hg e=>zoo hx R.rB (e▸hg)),λ k t ht=>?_⟩;obtain⟨sv,a,b,c,d⟩:=hk k t ht;exact⟨sv,a,b,hS.subs c R.rB R.zB,d⟩
theorem Rep.still (R:Rep w X br bz B s i bad wr mx ts us zs tv u) (hw:ze_ w w'):Rep w' X br bz B s i bad wr mx ts us zs tv u:=by
 obtain⟨n,rfl⟩:=hw;exact⟨R.here,R.z,R.tys,R.uses,R.apart,R.rB,R.zB,R.hB,R.rz,R.il,R.sl,R.tl,R.ul,R.av⟩
theorem Step.still (h:Step a w br bz tv u tv' u') (hw:ze_ w w'):Step a w' br bz tv u tv' u':=⟨h.fr.still hw,h.tvb,h.ub⟩
theorem Step.ofStill (hw:ze_ w w'):Step w w' br bz tv u tv u:=(Step.refl w br bz tv u).still hw
theorem Rep.inc (R:Rep w X br bz B s i bad wr mx ts us zs tv u) (h:i<s.size) :
 Rep (w.setCell ⟨br,1,none⟩ (.int .i64 ((i:Int)+1))) X br bz B s (i+1) bad wr mx ts us zs tv u/\Step w (w.setCell ⟨br,1,none⟩ (.int .i64 ((i:Int)+1))) br bz tv u tv u:=
 R.move (Fr.one _ _ _) (RAt.setI R.here (i+1)) (by omega) (by omega)
theorem Rep.fewer (R:Rep w X br bz B s i bad wr mx ts us zs tv u){Y:Nat->Prop}(hY:∀ g,Y g->X g):Rep w Y br bz B s i bad wr mx ts us zs tv u:=by
 refine⟨R.here,R.z,?_,R.uses,R.apart,R.rB,R.zB,R.hB,R.rz,R.il,R.sl,R.tl,R.ul,λ g hg=>R.av g (hY g hg)⟩;obtain⟨xs,hx,hk⟩:=R.tys;refine⟨xs,hx,λ k t ht=>?_⟩;obtain⟨sv,a,b,c,d⟩:=hk k t ht;exact⟨sv,a,b,c,λ g hg=>d g (hY g hg)⟩
theorem Rep.o (R:Rep w X br bz B s i bad wr mx ts us zs tv u) (hf:Fr w w' X):Rep w' (λ g=>X g\/(w.heap.size<=g/\g<w'.heap.size)) br bz B s i bad wr mx ts us zs tv u:=by
 obtain⟨xs,hx,hk⟩:=R.tys;have hb:=R.here.lt;have hbz:=R.z.lt;refine⟨hf.blk R.here (λ h=>(R.av _ h).2.1 rfl),hf.blk R.z (λ h=>(R.av _ h).2.2.1 rfl),⟨xs,zb_ hx hf (λ g hg h=>(R.av g h).2.2.2.1 hg),λ k t ht=>?_⟩,zb_ R.uses hf (λ g hg h=>(R.av g h).2.2.2.2 hg),R.apart,R.rB,R.zB,ah_ R.hB hf.size,R.rz,R.il,R.sl,R.tl,R.ul,λ g hg=>?_⟩
 ·obtain⟨sv,a,b,c,d⟩:=hk k t ht;refine⟨sv,a,b,⟨zb_ c.1 hf (λ g hg h=>d g h hg),c.2⟩,λ g hg=>?_⟩
  rcases hg with hg|hg
  ·exact d g hg
  ·intro e;have:=c.1.lt g e;omega
 ·rcases hg with hg|hg
  ·exact⟨bl_ (R.av g hg).1 hf.size,(R.av g hg).2⟩
  ·refine⟨hg.2,by omega,by omega,λ e=>?_,λ e=>?_⟩
   ·have:=hx.lt g e;omega
   ·have:=R.uses.lt g e;omega
theorem Step.o (h:Step a w br bz tv u tv' u') (hf:Fr w w' X) (hX:∀ g,X g->a.heap.size<=g):Step a w' br bz tv u tv' u':=
 ⟨h.fr.trans hf (λ x hx hT=>absurd (hX x hT) (by omega)),h.tvb,h.ub⟩
theorem Rep.alloc (R:Rep w X br bz B s i bad wr mx ts us zs tv u) (o:Obj):Rep (w.alloc o) X br bz B s i bad wr mx ts us zs tv u/\Step w (w.alloc o) br bz tv u tv u:=
 ⟨(R.o ((Fr.refl w _).alloc o)).fewer (λ _ h=>.inl h),⟨(Fr.refl w _).alloc o,.inl rfl,.inl rfl⟩⟩
end
open Go.RowKit
theorem zr8 {s:BA}{i:Nat}(h:bt s i=91\/bt s i=123):pT s i =
 match pT s (i+1) with
 | .error k=>.error k
 | .ok (t,j)=>if bt s j=x7_ (bt s i) then .ok (.wrap (bt s i) i t,j+1) else .error j:=by
 rw[zsa];unfold zdk;rw[if_neg (by rcases h with h|h<;>rw[h]<;>decide),if_pos h];rfl
theorem zxy {s:BA}{i:Nat}(h:bt s i=40):pT s i =
 match pA s (i+1) with
 | .error k=>.error k
 | .ok (ts,j)=>if bt s j=41 then .ok (.alts i ts,j+1) else .error j:=by
 rw[zsa];unfold zdk;rw[if_neg (by rw[h];decide),if_neg (by omega),if_pos h];rfl
theorem zr9 {s:BA}{i:Nat}(h:65<=bt s i/\bt s i<=70):pT s i=.ok (.leaf (bt s i) i,i+1):=by
 rw[zsa];unfold zdk;rw[if_neg (by simp only[zu_,au_,beq_iff_eq];omega),if_neg (by omega),if_neg (by omega),if_pos (by simp[z0_,h])]
theorem zzq {s:BA}{i:Nat}(h1:¬ zu_ (bt s i)=true) (h2:¬ (bt s i=91\/bt s i=123)) (h3:¬ bt s i=40) (h4:¬ (65<=bt s i/\bt s i<=70)):pT s i=.error i:=by
 rw[zsa];unfold zdk;rw[if_neg h1,if_neg h2,if_neg h3,if_neg (by simp only[z0_,a9_,decide_eq_true_eq];exact h4)]
open Go.RowKit
open Go.RowKit
open Go.RowKit
open Go.RowKit
structure Mid (w:World) (X:Nat->Prop) (br bz B:Nat) (s:BA) (j:Nat) (wg MX:Int) (TS:List TR) (US:List (Nat×Nat)) (zs:List Value) (tv u tv2 u2 sv:Value) (L:List Nat) (W:World):Prop where
 R:Rep W (λ g=>X g\/g=w.heap.size\/g=w.heap.size+1\/sv.ownBlock=some g) br bz B s j false wg MX TS US zs tv2 u2
 b2:Blk W w.heap.size [.int .u8 0,.slice none 0 0] 66
 b3:Blk W (w.heap.size+1) [.int .u8 40,sv] 66
 ss:zo4 W B tv2 u2 sv L
 sn:∀ g,sv.ownBlock=some g->w.heap.size+2<=g
 st:Step w W br bz tv u tv2 u2
theorem Rep.offS {w:World}{X:Nat->Prop}{br bz B:Nat}{s:BA}{i:Nat}{bad:Bool}{wr mx:Int}{ts:List TR}{us:List (Nat×Nat)}{zs:List Value}{tv u:Value}(R:Rep w X br bz B s i bad wr mx ts us zs tv u){g:Nat}(hg:X g) :
 ¬ (g=br\/g=bz\/tv.ownBlock=some g\/u.ownBlock=some g):=by
 obtain⟨_,a,b,c,d⟩:=R.av g hg;rintro(h|h|h|h)
 ·exact a h
 ·exact b h
 ·exact c h
 ·exact d h
section
variable {w W W':World} {X:Nat->Prop} {br bz B:Nat} {s:BA} {j:Nat} {wg MX:Int} {TS:List TR} {US:List (Nat×Nat)} {zs:List Value} {tv u tv2 u2 sv:Value} {L:List Nat}
theorem Mid.call (M:Mid w X br bz B s j wg MX TS US zs tv u tv2 u2 sv L W){j':Nat}{MX':Int}{TS':List TR}{US':List (Nat×Nat)}
 (R':Rep W' (λ g=>X g\/g=w.heap.size\/g=w.heap.size+1\/sv.ownBlock=some g) br bz B s j' false wg MX' TS' US' zs tv3 u3) (st:Step W W' br bz tv2 u2 tv3 u3):Mid w X br bz B s j' wg MX' TS' US' zs tv u tv3 u3 sv L W':=
 ⟨R',st.fr.blk M.b2 (M.R.offS (.inr (.inl rfl))),st.fr.blk M.b3 (M.R.offS (.inr (.inr (.inl rfl)))),st.subs M.ss M.R.rB M.R.zB,M.sn,M.st.trans st⟩
theorem Mid.still (M:Mid w X br bz B s j wg MX TS US zs tv u tv2 u2 sv L W) (h:ze_ W W'):Mid w X br bz B s j wg MX TS US zs tv u tv2 u2 sv L W':=M.call (M.R.still h) (Step.ofStill h)
theorem Mid.inc (M:Mid w X br bz B s j wg MX TS US zs tv u tv2 u2 sv L W) (h:j<s.size):Mid w X br bz B s (j+1) wg MX TS US zs tv u tv2 u2 sv L (W.setCell ⟨br,1,none⟩ (.int .i64 ((j:Int)+1))):=M.call (M.R.inc h).1 (M.R.inc h).2
theorem Mid.grow (M:Mid w X br bz B s j wg MX TS US zs tv u tv2 u2 sv L W){a b:Obj}{w5:World}{N:Nat}(hg:((W.alloc a).alloc b).grownBy w5 sv.ownBlock)
 (ho:w5.ownsRow B 3 1 v5 (L.length+1) ((L.map λ (n:Nat)=>Value.int .i64 (n:Int))++[.int .i64 (N:Int)])) (hl:v5.ownBlock=sv.ownBlock\/v5.ownBlock=some ((W.alloc a).alloc b).heap.size) :
 Mid w X br bz B s j wg MX TS US zs tv u tv2 u2 v5 (L++[N]) (w5.setCell ⟨w.heap.size+1,1,none⟩ v5):=by
 have hF:Fr W w5 (λ g=>sv.ownBlock=some g):=Fr.grown (((Fr.refl W _).alloc a).alloc b) hg (λ k e _=>e);have l2:=M.b2.lt;have l3:=M.b3.lt
 have n2:∀ g,sv.ownBlock=some g->g≠w.heap.size:=λ g hg e=>by have:=M.sn g hg;omega
 have n3:∀ g,sv.ownBlock=some g->g≠w.heap.size+1:=λ g hg e=>by have:=M.sn g hg;omega
 have hv:∀ g,v5.ownBlock=some g->w.heap.size+2<=g/\(sv.ownBlock=some g\/W.heap.size<=g):=λ g hg'=>by
  rcases hl with e|e
  ·exact⟨M.sn g (e▸hg'),.inl (e▸hg')⟩
  ·rw[e] at hg';simp only[ad_] at hg'
   have:((W.alloc a).alloc b).heap.size=W.heap.size+2:=by simp
   exact⟨by omega,.inr (by omega)⟩
 have B2:=hF.blk M.b2 (λ e=>n2 _ e rfl);have B3:=hF.blk M.b3 (λ e=>n3 _ e rfl);have hG:Fr w5 (w5.setCell ⟨w.heap.size+1,1,none⟩ v5) (λ g=>g=w.heap.size+1):=(Fr.refl w5 (λ g=>g=w.heap.size+1)).setCell ⟨w.heap.size+1,1,none⟩ v5 (λ _=>rfl);have B2':=hG.blk B2 (by omega);have B3':Blk (w5.setCell ⟨w.heap.size+1,1,none⟩ v5) (w.heap.size+1) [.int .u8 40,v5] 66:=B3.set 1 v5;have ho':=zb_ ho hG (λ g hg' e=>by have:=hv g hg';omega)
 have hH:Fr W (w5.setCell ⟨w.heap.size+1,1,none⟩ v5) (λ g=>X g\/g=w.heap.size\/g=w.heap.size+1\/sv.ownBlock=some g):=
  (hF.mono (λ _ _ e=>.inr (.inr (.inr e)))).trans hG (λ _ _ e=>.inr (.inr (.inl e)))
 have hst:Fr W (w5.setCell ⟨w.heap.size+1,1,none⟩ v5) (λ g=>sv.ownBlock=some g\/g=w.heap.size+1):=(hF.mono (λ _ _ e=>.inl e)).trans hG (λ _ _ e=>.inr e);have hlt:∀ g,v5.ownBlock=some g->g<(w5.setCell ⟨w.heap.size+1,1,none⟩ v5).heap.size:=λ g hg'=>(ho'.lt g hg').2;refine⟨(M.R.o hH).fewer (λ g hg'=>?_),B2',B3',⟨by simpa using ho',λ g hg'=>?_⟩,λ g hg'=>(hv g hg').1,M.st.o hst (λ g hg'=>?_)⟩
 ·rcases hg' with e|e|e|e
  ·exact .inl (.inl e)
  ·exact .inl (.inr (.inl e))
  ·exact .inl (.inr (.inr (.inl e)))
  ·rcases(hv g e).2 with q|q
   ·exact .inl (.inr (.inr (.inr q)))
   ·exact .inr ⟨q,hlt g e⟩
 ·rcases(hv g hg').2 with q|q
  ·exact M.ss.2 g q
  ·obtain⟨xs,hx,_⟩:=M.R.tys;exact⟨λ e=>by have:=hx.lt g e;omega,λ e=>by have:=M.R.uses.lt g e;omega⟩
 ·rcases hg' with e|e
  ·have:=M.sn g e;omega
  ·omega
end
theorem Fr.two (w:World) (b o1 o2:Nat) (v1 v2:Value):Fr w ((w.setCell ⟨b,o1,none⟩ v1).setCell ⟨b,o2,none⟩ v2) (λ g=>g=b):=
 ((Fr.refl w (λ g=>g=b)).setCell ⟨b,o1,none⟩ v1 (λ _=>rfl)).setCell ⟨b,o2,none⟩ v2 (λ _=>rfl)
theorem ze3:Tryz.prog.underlying 9=some .string:=by kernel_rfl
open Go.RowKit
open Go.RowKit
open Go.RowKit
theorem zvz {c:Nat}(h:zmy c=true) (h2:zgg c=true):False:=by
 simp only[zmy,zgg,au_,beq_iff_eq] at h h2;omega
open Go.RowKit
def zo5 (w:World) (X:Nat->Prop) (br bz B:Nat) (s:BA) (i:Nat) (wr mx:Int) (ts:List TR) (us:List (Nat×Nat)) (zs:List Value) (tv u:Value) (w':World):Prop:=
 (if zn_ (bt s i)=true then Rep w' X br bz B s (i+1) false wr mx ts us zs tv u else Rep w' X br bz B s i true wr mx ts us zs tv u)/\Step w w' br bz tv u tv u
def yn_ (a:Int) (m:Int):Int:=if m<0\/a<m then a else m
def zz5 (s:BA) (f:PF) (num:Nat):List Value:=
 [.int .u8 (f.letter:Int),.int .i64 (num:Int),.bool f.dflt.isSome,.int .i64 ((f.dflt.map Prod.fst).getD 0:Nat),.string (match f.dflt with|none=>⟨#[]⟩|some (a,b)=>s.extract a b),
  .int .u8 0,.int .i64 0,.string ⟨#[]⟩,.slice none 0 0,.slice none 0 0]
def zvi (s:BA) (b:Nat) (ds:List PF):List Value:=(List.zipWith (zz5 s) ds (nums b (ds.map PF.ty))).flatten
def wrF (seen:List Nat):List PF->Int->Int
 | [],m=>m
 | f::r,m=>wrF (seen++[f.letter]) r (if f.letter∈seen then yn_ f.place m else m)
def mixF (ds:List PF) (m:Int):Int:=ds.foldl (λ m f=>mix f.ty m) m
open Go.RowKit
def zrc:List Value:=[.int .u8 0,.slice none 0 0,.string ⟨#[]⟩,.int .i64 0,.int .i64 0]
def zw6 (fv:Value):List Value:=[.int .u8 114,fv,.string ⟨#[]⟩,.int .i64 (-1),.int .i64 0]
def RX (w:World) (X:Nat->Prop) (fv:Value) (Y:Nat->Prop):Nat->Prop:=λ g=>X g\/g=w.heap.size\/g=w.heap.size+1\/fv.ownBlock=some g\/Y g
structure RM (w:World) (X:Nat->Prop) (br bz B:Nat) (s:BA) (j:Nat) (bad:Bool) (wg MX:Int) (TS:List TR) (US:List (Nat×Nat)) (zs:List Value) (tv u tv2 u2 fv:Value) (n:Nat) (xs:List Value) (Y:Nat->Prop) (W:World):Prop where
 R:Rep W (RX w X fv Y) br bz B s j bad wg MX TS US zs tv2 u2
 b2:Blk W w.heap.size zrc 39
 b3:Blk W (w.heap.size+1) (zw6 fv) 39
 own:W.ownsRow B 69 10 fv n xs
 sn:∀ g,fv.ownBlock=some g->w.heap.size+2<=g
 yn:∀ g,Y g->w.heap.size+2<=g/\fv.ownBlock≠some g
 st:Step w W br bz tv u tv2 u2
section
variable {w W W':World} {X Y:Nat->Prop} {br bz B:Nat} {s:BA} {j:Nat} {bad:Bool} {wg MX:Int} {TS:List TR} {US:List (Nat×Nat)} {zs:List Value} {tv u tv2 u2 fv:Value} {n:Nat} {xs:List Value}
theorem RM.call (M:RM w X br bz B s j bad wg MX TS US zs tv u tv2 u2 fv n xs Y W){j':Nat}{bad':Bool}{wg' MX':Int}{TS':List TR}{US':List (Nat×Nat)}
 (R':Rep W' (RX w X fv Y) br bz B s j' bad' wg' MX' TS' US' zs tv3 u3) (st:Step W W' br bz tv2 u2 tv3 u3):RM w X br bz B s j' bad' wg' MX' TS' US' zs tv u tv3 u3 fv n xs Y W':=
 ⟨R',st.fr.blk M.b2 (M.R.offS (.inr (.inl rfl))),st.fr.blk M.b3 (M.R.offS (.inr (.inr (.inl rfl)))),zb_ M.own st.fr (λ _ hg=>M.R.offS (.inr (.inr (.inr (.inl hg))))),M.sn,M.yn,M.st.trans st⟩
theorem RM.keep (M:RM w X br bz B s j bad wg MX TS US zs tv u tv2 u2 fv n xs Y W)(st:Step W W' br bz tv2 u2 tv3 u3){g:Nat}(hg:Y g) (hb:Blk W g cs t):Blk W' g cs t:=
 st.fr.blk hb (M.R.offS (.inr (.inr (.inr (.inr hg)))))
theorem RM.still (M:RM w X br bz B s j bad wg MX TS US zs tv u tv2 u2 fv n xs Y W) (h:ze_ W W'):RM w X br bz B s j bad wg MX TS US zs tv u tv2 u2 fv n xs Y W':=M.call (M.R.still h) (Step.ofStill h)
theorem RM.inc (M:RM w X br bz B s j bad wg MX TS US zs tv u tv2 u2 fv n xs Y W) (h:j<s.size):RM w X br bz B s (j+1) bad wg MX TS US zs tv u tv2 u2 fv n xs Y (W.setCell ⟨br,1,none⟩ (.int .i64 ((j:Int)+1))):=M.call (M.R.inc h).1 (M.R.inc h).2
theorem RM.o (M:RM w X br bz B s j bad wg MX TS US zs tv u tv2 u2 fv n xs Y W) (hf:Fr W W' Y):RM w X br bz B s j bad wg MX TS US zs tv u tv2 u2 fv n xs (λ g=>Y g\/(W.heap.size<=g/\g<W'.heap.size)) W':=by
 have l3:=M.b3.lt;have hX:Fr W W' (RX w X fv Y):=hf.mono (λ _ _ h=>.inr (.inr (.inr (.inr h))));refine⟨(M.R.o hX).fewer (λ g hg=>?_),hf.blk M.b2 (λ h=>by have:=M.yn _ h;omega),hf.blk M.b3 (λ h=>by have:=M.yn _ h;omega),zb_ M.own hf (λ g hg h=>(M.yn g h).2 hg),M.sn,λ g hg=>?_,M.st.o hf (λ g hg=>by have:=M.yn g hg;omega)⟩
 ·rcases hg with h|h|h|h|h|h
  ·exact .inl (.inl h)
  ·exact .inl (.inr (.inl h))
  ·exact .inl (.inr (.inr (.inl h)))
  ·exact .inl (.inr (.inr (.inr (.inl h))))
  ·exact .inl (.inr (.inr (.inr (.inr h))))
  ·exact .inr h
 ·rcases hg with h|h
  ·exact M.yn g h
  ·exact⟨by omega,λ e=>by have:=M.own.lt g e;omega⟩
theorem RM.less (M:RM w X br bz B s j bad wg MX TS US zs tv u tv2 u2 fv n xs Y W){Z:Nat->Prop}(hZ:∀ g,Z g->Y g):RM w X br bz B s j bad wg MX TS US zs tv u tv2 u2 fv n xs Z W:=
 ⟨M.R.fewer (λ g hg=>by
  rcases hg with h|h|h|h|h
  ·exact .inl h
  ·exact .inr (.inl h)
  ·exact .inr (.inr (.inl h))
  ·exact .inr (.inr (.inr (.inl h)))
  ·exact .inr (.inr (.inr (.inr (hZ g h))))),M.b2,M.b3,M.own,M.sn,λ g hg=>M.yn g (hZ g hg),M.st⟩
theorem RM.alloc (M:RM w X br bz B s j bad wg MX TS US zs tv u tv2 u2 fv n xs Y W) (o:Obj):RM w X br bz B s j bad wg MX TS US zs tv u tv2 u2 fv n xs Y (W.alloc o):=(M.o ((Fr.refl W Y).alloc o)).less (λ _ h=>.inl h)
theorem RM.put (M:RM w X br bz B s j bad wg MX TS US zs tv u tv2 u2 fv n xs Y W) (g o:Nat) (v:Value) (hg:Y g):RM w X br bz B s j bad wg MX TS US zs tv u tv2 u2 fv n xs Y (W.setCell ⟨g,o,none⟩ v):=
 (M.o ((Fr.refl W Y).setCell ⟨g,o,none⟩ v (λ _=>hg))).less (λ _ h=>.inl h)
theorem RM.grow (M:RM w X br bz B s j bad wg MX TS US zs tv u tv2 u2 fv n xs Y W){b:Obj}{w5:World}{ys:List Value}(hg:(W.alloc b).grownBy w5 fv.ownBlock)
 (ho:w5.ownsRow B 69 10 v5 (n+1) ys) (hl:v5.ownBlock=fv.ownBlock\/v5.ownBlock=some (W.alloc b).heap.size) :
 RM w X br bz B s j bad wg MX TS US zs tv u tv2 u2 v5 (n+1) ys (λ _=>False) (w5.setCell ⟨w.heap.size+1,1,none⟩ v5):=by
 have hF:Fr W w5 (λ g=>fv.ownBlock=some g):=Fr.grown ((Fr.refl W _).alloc b) hg (λ k e _=>e);have l2:=M.b2.lt;have l3:=M.b3.lt
 have hv:∀ g,v5.ownBlock=some g->w.heap.size+2<=g/\(fv.ownBlock=some g\/W.heap.size<=g):=λ g hg'=>by
  rcases hl with e|e
  ·exact⟨M.sn g (e▸hg'),.inl (e▸hg')⟩
  ·rw[e] at hg';simp only[ad_] at hg'
   have:(W.alloc b).heap.size=W.heap.size+1:=by simp
   exact⟨by omega,.inr (by omega)⟩
 have B2:=hF.blk M.b2 (λ e=>by have:=M.sn _ e;omega);have B3:=hF.blk M.b3 (λ e=>by have:=M.sn _ e;omega);have hG:Fr w5 (w5.setCell ⟨w.heap.size+1,1,none⟩ v5) (λ g=>g=w.heap.size+1):=(Fr.refl w5 (λ g=>g=w.heap.size+1)).setCell ⟨w.heap.size+1,1,none⟩ v5 (λ _=>rfl);have B2':=hG.blk B2 (by omega);have B3':Blk (w5.setCell ⟨w.heap.size+1,1,none⟩ v5) (w.heap.size+1) (zw6 v5) 39:=B3.set 1 v5;have ho':=zb_ ho hG (λ g hg' e=>by have:=hv g hg';omega);have hH:Fr W (w5.setCell ⟨w.heap.size+1,1,none⟩ v5) (RX w X fv Y):=(hF.mono (λ _ _ e=>.inr (.inr (.inr (.inl e))))).trans hG (λ _ _ e=>.inr (.inr (.inl e)));have hst:Fr W (w5.setCell ⟨w.heap.size+1,1,none⟩ v5) (λ g=>fv.ownBlock=some g\/g=w.heap.size+1):=(hF.mono (λ _ _ e=>.inl e)).trans hG (λ _ _ e=>.inr e);refine⟨(M.R.o hH).fewer (λ g hg'=>?_),B2',B3',ho',λ g hg'=>(hv g hg').1,λ g hg'=>hg'.elim,M.st.o hst (λ g hg'=>?_)⟩
 ·rcases hg' with e|e|e|e|e
  ·exact .inl (.inl e)
  ·exact .inl (.inr (.inl e))
  ·exact .inl (.inr (.inr (.inl e)))
  ·rcases(hv g e).2 with q|q
   ·exact .inl (.inr (.inr (.inr (.inl q))))
   ·exact .inr ⟨q,(ho'.lt g e).2⟩
  ·exact e.elim
 ·rcases hg' with e|e
  ·have:=M.sn g e;omega
  ·omega
end
theorem zo5.any {w:World}{X:Nat->Prop}{br bz B:Nat}{s:BA}{i:Nat}{wr mx:Int}{ts:List TR}{us:List (Nat×Nat)}{zs:List Value}{tv u:Value}{w':World}(h:zo5 w X br bz B s i wr mx ts us zs tv u w') :
 ∃ j bad,Rep w' X br bz B s j bad wr mx ts us zs tv u/\Step w w' br bz tv u tv u/\H_ ((zn_ (bt s i)=true/\j=i+1/\bad=false)\/(zn_ (bt s i)=false/\j=i/\bad=true)):=by
 obtain⟨h1,h2⟩:=h
 cases hs:zn_ (bt s i) with
 | true=>rw[if_pos hs] at h1;exact⟨_,_,h1,h2,.inl ⟨rfl,rfl,rfl⟩⟩
 | false=>rw[if_neg (by rw[hs];decide)] at h1;exact⟨_,_,h1,h2,.inr ⟨rfl,rfl,rfl⟩⟩
theorem Blk.still {w w':World}(h:Blk w b cs t) (hw:ze_ w w'):Blk w' b cs t:=by
 obtain⟨n,rfl⟩:=hw;exact h
end Go.Proofs.YthmjjpkjgjklmaaGreatDoor
