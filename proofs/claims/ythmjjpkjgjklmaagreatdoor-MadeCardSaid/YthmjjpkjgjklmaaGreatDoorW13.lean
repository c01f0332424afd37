import Derived.Test.YthmjjpkjgjklmaaGreatDoorW05
import Derived.Test.YthmjjpkjgjklmaaGreatDoorW07
import Derived.Deep.LoopGhost
import Derived.Test.YthmjjpkjgjklmaaGreatDoorW12
import Derived.Deep.DeepCutAuto
import Derived.Test.YthmjjpkjgjklmaaGreatDoorW11
import Derived.Test.YthmjjpkjgjklmaaGreatDoorA00
set_option maxHeartbeats 16000000
set_option maxRecDepth 100000
set_option linter.unusedSimpArgs false
namespace Go.Proofs.YthmjjpkjgjklmaaGreatDoor
open Go.RowKit
variable {acc u:Nat}{o:Obj}{w5:World}
def DAt (w:World) (bd:Nat) (s:BA) (bz i:Nat) (er:Int) (n:Nat):Prop:=
 Blk w bd [.string s,.int .i64 (i:Int),.int .i64 er,.pointer (some ⟨bz,0,none⟩),.int .i64 (n:Int)] 105
section
variable {w w':World} {bd:Nat} {s:BA} {bz i:Nat} {er:Int} {n:Nat}
theorem DAt.c0 (h:DAt w bd s bz i er n):w.cell? ⟨bd,0,none⟩=some (.string s):=by rw[Blk.cell h];rfl
theorem DAt.c1 (h:DAt w bd s bz i er n):w.cell? ⟨bd,1,none⟩=some (.int .i64 (i:Int)):=by rw[Blk.cell h];rfl
theorem DAt.c2 (h:DAt w bd s bz i er n):w.cell? ⟨bd,2,none⟩=some (.int .i64 er):=by rw[Blk.cell h];rfl
theorem DAt.c3 (h:DAt w bd s bz i er n):w.cell? ⟨bd,3,none⟩=some (.pointer (some ⟨bz,0,none⟩)):=by rw[Blk.cell h];rfl
theorem DAt.c4 (h:DAt w bd s bz i er n):w.cell? ⟨bd,4,none⟩=some (.int .i64 (n:Int)):=by rw[Blk.cell h];rfl
theorem DAt.thaw (h:DAt w bd s bz i er n) (o:Nat):w.frozen? ⟨bd,o,none⟩=false:=Blk.thaw h o
theorem DAt.still (h:DAt w bd s bz i er n) (hw:ze_ w w'):DAt w' bd s bz i er n:=by
 obtain⟨k,rfl⟩:=hw;exact h
theorem DAt.inc (h:DAt w bd s bz i er n):DAt (w.setCell ⟨bd,1,none⟩ (.int .i64 ((i:Int)+1))) bd s bz (i+1) er n:=by
 have:=Blk.set h 1 (.int .i64 ((i:Int)+1));exact this
theorem DAt.err (h:DAt w bd s bz i er n) (e:Int):DAt (w.setCell ⟨bd,2,none⟩ (.int .i64 e)) bd s bz i e n:=Blk.set h 2 _
theorem DAt.node (h:DAt w bd s bz i er n):DAt (w.setCell ⟨bd,4,none⟩ (.int .i64 ((n:Int)+1))) bd s bz i er (n+1):=by
 have:=Blk.set h 4 (.int .i64 ((n:Int)+1));exact this
end
section
variable {w:World} {bd:Nat} {s:BA} {bz i:Nat} {er:Int} {n:Nat}
end
def lebC (s:BA) (i k acc:Nat):Option (Nat×Nat):=
 match lebD s (10-k) (i+k) with
 | none=>none
 | some (z,j)=>if z=0/\0<k then none else some (acc+128 ^ k*z,j)
theorem zth (s:BA) (i:Nat):lebC s i 0 0=lebD s 10 i:=by
 unfold lebC;rw[show 10-0=10 from rfl,a7_]
 cases lebD s 10 i with
 | none=>rfl
 | some q=>
  obtain⟨z,j⟩:=q
  simp
theorem zwe {s:BA}{i k:Nat}(hk:k<=9) (h:s.size<=i+k):lebC s i k acc=none:=by
 unfold lebC;rw[show 10-k=(9-k)+1 by omega,lebD,if_neg (by omega)]
theorem zk1 {s:BA}{i k:Nat}(hk:k<=9) (h:i+k<s.size) (hb:bt s (i+k)<128):lebC s i k acc=if bt s (i+k)=0/\0<k then none else some (acc+128 ^ k*bt s (i+k),i+k+1):=by
 unfold lebC;rw[show 10-k=(9-k)+1 by omega,lebD,if_pos h,if_pos hb]
theorem zk0 {s:BA}{i k:Nat}(hk:k<=9) (h:i+k<s.size) (hb:¬ bt s (i+k)<128):lebC s i k acc=if k=9 then none else lebC s i (k+1) (acc+128 ^ k*(bt s (i+k)-128)):=by
 unfold lebC;rw[show 10-k=(9-k)+1 by omega,lebD,if_pos h,if_neg hb]
 by_cases h9:k=9
 ·subst h9;rw[if_pos rfl]
  simp[lebD]
 ·rw[if_neg h9,show 10-(k+1)=9-k by omega,show i+k+1=i+(k+1) by omega]
  cases lebD s (9-k) (i+(k+1)) with
  | none=>rfl
  | some q=>
   obtain⟨z,j⟩:=q;simp only
   by_cases hz:z=0
   ·rw[if_pos hz,if_pos ⟨hz,by omega⟩]
   ·rw[if_neg hz,if_neg (λ x=>hz x.1)];simp only;rw[if_neg (λ x=>by omega)]
    have e:acc+128 ^ k*(bt s (i+k)-128+128*z)=acc+128 ^ k*(bt s (i+k)-128)+128 ^ (k+1)*z:=by
     rw[Nat.pow_succ,Nat.mul_add,Nat.mul_assoc,a0_]
    rw[e]
open Go.RowKit
theorem zzo (k:Nat):1<=128 ^ k:=Nat.one_le_pow _ _ (by decide)
theorem zr6 {k:Nat}(h:k<=8):128 ^ (k+1)<=9223372036854775808:=ah_ (Nat.pow_le_pow_right (by decide) (show k+1<=9 by omega)) (by decide)
theorem zf8 {s:BA}{i k:Nat}(h:i+k<=zp_ s i):zp_ s (i+k)=zp_ s i:=by
 induction k with
 | zero=>rfl
 | succ k ih=>
  have h1:=ih (by omega);rw[<- h1];unfold zp_ at *
  conv=>rhs;rw[zm_]
  split
  ·split
   ·rfl
   ·rename_i h2 h3;rw[zm_,dif_pos h2,if_neg h3] at h1;omega
  ·rename_i h2;rw[zm_,dif_neg h2] at h1;omega
open Go.RowKit
open Go.RowKit
structure XBM (w:World) (P:Nat->Prop) (bd:Nat) (s:BA) (bz i n:Nat) (er:Int) (ts:List TR) (env:Nat->Option PB) (W:World):Prop where
 L:DAt W bd s bz i er n
 Z:ZAt W P bz ts env
 nP:¬ P bd
 Plt:∀ g,P g->g<w.heap.size
 lt:bd<w.heap.size
 fr:Fr w W (· = bd)
 jl:i<=s.size
 sl:s.size<=4000
section
variable {w W W':World} {P:Nat->Prop} {bd:Nat} {s:BA} {bz i n i' n':Nat} {er er':Int} {ts:List TR} {env:Nat->Option PB}
theorem XBM.call (M:XBM w P bd s bz i n er ts env W) (hL:DAt W' bd s bz i' er' n') (hf:Fr W W' (· = bd)) (hj:i'<=s.size):XBM w P bd s bz i' n' er' ts env W':=
 ⟨hL,M.Z.fr hf (λ _ hg e=>M.nP (e▸hg)),M.nP,M.Plt,M.lt,M.fr.trans hf u_,hj,M.sl⟩
theorem XBM.still (M:XBM w P bd s bz i n er ts env W) (h:ze_ W W'):XBM w P bd s bz i n er ts env W':=M.call (M.L.still h) ((Fr.refl W _).still h) M.jl
theorem XBM.node (M:XBM w P bd s bz i n er ts env W):XBM w P bd s bz i (n+1) er ts env (W.setCell ⟨bd,4,none⟩ (.int .i64 ((n:Int)+1))):=M.call M.L.node (Fr.one _ _ _) M.jl
theorem XBM.own (M:XBM w P bd s bz i n er ts env W) (hf:Fr W W' (λ g=>w.heap.size<=g)):XBM w P bd s bz i n er ts env W':=by
 have:=M.lt;exact⟨hf.blk M.L (by omega),M.Z.fr hf (λ g hg=>by have:=M.Plt g hg;omega),M.nP,M.Plt,M.lt,M.fr.trans hf (λ x hx e=>absurd e (by omega)),M.jl,M.sl⟩
theorem XBM.alloc (M:XBM w P bd s bz i n er ts env W) (o:Obj):XBM w P bd s bz i n er ts env (W.alloc o):=M.own ((Fr.refl W _).alloc o)
theorem XBM.put (M:XBM w P bd s bz i n er ts env W) (a:Addr) (v:Value) (h:w.heap.size<=a.block):XBM w P bd s bz i n er ts env (W.setCell a v):=M.own ((Fr.refl W _).setCell a v (λ _=>h))
theorem XBM.here (M:XBM w P bd s bz i n er ts env W):XBM W P bd s bz i n er ts env W:=
 ⟨M.L,M.Z,M.nP,λ g hg=>bl_ (M.Plt g hg) M.fr.size,bl_ M.lt M.fr.size,Fr.refl _ _,M.jl,M.sl⟩
end
def z0x (w:World) (bd:Nat) (s:BA) (bz:Nat) (r:Except Nat (DT×Nat×Nat)) (e:Ending) (w':World):Prop:=
 ∃ (k:Nat) (n:Int) (tx:BA) (vk vs:Value),e=.returned (.agg (jk_ k n tx vk vs).toArray)/\(∃ a m c,vk=.slice a m c)/\(∃ a m c,vs=.slice a m c)/\Fr w w' (· = bd)/\
 match r with
 | .error e0=>e0≠0/\∃ j m,j<=s.size/\m<=301/\DAt w' bd s bz j (e0:Int) m
 | .ok (d,j,m)=>j<=s.size/\m<=300/\DAt w' bd s bz j 0 m/\DVal w' (λ g=>w.heap.size<=g) d (jk_ k n tx vk vs)
section
variable {w W W':World} {P:Nat->Prop} {bd:Nat} {s:BA} {bz j m:Nat} {er:Int} {ts:List TR} {env:Nat->Option PB} {k:Nat} {n:Int} {tx:BA} {vk vs:Value} {d:DT} {r:Except Nat (DT×Nat×Nat)}
end
section
variable {w:World} {P:Nat->Prop} {bd:Nat} {s:BA} {bz i n:Nat} {er:Int} {ts:List TR} {env:Nat->Option PB}
end
open Go.RowKit
open Go.RowKit
structure BL (w:World) (P:Nat->Prop) (bd:Nat) (s:BA) (bz j nn:Nat) (er:Int) (ts:List TR) (env:Nat->Option PB) (cx:List Value) (ct:TypeId) (b0 b1 B c:Nat) (vk vs:Value) (ks:List BA) (n:Nat) (xs:List Value) (W:World):Prop where
 M:XBM w P bd s bz j nn er ts env W
 hb:w.heap.size<b0/\b0<b1/\b1<B
 bB:B<=W.heap.size
 rx:Blk W w.heap.size cx ct
 r0:Blk W b0 za4 32
 r1:Blk W b1 (jk_ c 0 noB vk vs) 32
 kr:W.ownsRow B 9 1 vk ks.length (ks.map Value.string)
 vr:W.ownsRow B 32 5 vs n xs
 ap:∀ g,vk.ownBlock=some g->vs.ownBlock≠some g
section
variable {w W W':World} {P:Nat->Prop} {bd:Nat} {s:BA} {bz j j' nn nn':Nat} {er er':Int} {cx:List Value} {ct:TypeId} {ts:List TR} {env:Nat->Option PB} {b0 b1 B c:Nat} {vk vs:Value} {ks:List BA} {n:Nat} {xs:List Value} {ds:List DT}
theorem BL.call (Q:BL w P bd s bz j nn er ts env cx ct b0 b1 B c vk vs ks n xs W) (hL:DAt W' bd s bz j' er' nn') (hf:Fr W W' (· = bd)) (hj:j'<=s.size):BL w P bd s bz j' nn' er' ts env cx ct b0 b1 B c vk vs ks n xs W':=by
 have h1:=Q.M.lt;have h2:=Q.hb;exact⟨Q.M.call hL hf hj,Q.hb,ah_ Q.bB hf.size,hf.blk Q.rx (by omega),hf.blk Q.r0 (by omega),hf.blk Q.r1 (by omega),zb_ Q.kr hf (λ g hg e=>by have:=Q.kr.lt g hg;omega),zb_ Q.vr hf (λ g hg e=>by have:=Q.vr.lt g hg;omega),Q.ap⟩
theorem BL.still (Q:BL w P bd s bz j nn er ts env cx ct b0 b1 B c vk vs ks n xs W) (h:ze_ W W'):BL w P bd s bz j nn er ts env cx ct b0 b1 B c vk vs ks n xs W':=Q.call (Q.M.L.still h) ((Fr.refl W _).still h) Q.M.jl
theorem BL.alloc (Q:BL w P bd s bz j nn er ts env cx ct b0 b1 B c vk vs ks n xs W) (o:Obj):BL w P bd s bz j nn er ts env cx ct b0 b1 B c vk vs ks n xs (W.alloc o):=
 ⟨Q.M.alloc o,Q.hb,by have:=Q.bB;simp;omega,Q.rx.alloc o,Q.r0.alloc o,Q.r1.alloc o,World.ownsRow.alloc Q.kr o,World.ownsRow.alloc Q.vr o,Q.ap⟩
theorem BL.key (Q:BL w P bd s bz j nn er ts env cx ct b0 b1 B c vk vs ks n xs W){v5:Value}{key:BA}(hg:(W.alloc o).grownBy w5 vk.ownBlock) (ho:w5.ownsRow B 9 1 v5 (ks.length+1) (ks.map Value.string++[.string key]))
 (hl:v5.ownBlock=vk.ownBlock\/v5.ownBlock=some (W.alloc o).heap.size) :
 BL w P bd s bz j nn er ts env cx ct b0 b1 B c v5 vs (ks++[key]) n xs (w5.setCell ⟨b1,3,none⟩ v5)/\(∀ ds,Dts W B vk vs ds n xs->Dts (w5.setCell ⟨b1,3,none⟩ v5) B v5 vs ds n xs):=by
 have hb:=Q.hb;have hbB:=Q.bB;have hF:Fr W w5 (λ g=>vk.ownBlock=some g):=Fr.grown ((Fr.refl W _).alloc o) hg (λ k e _=>e)
 have hv:∀ g,v5.ownBlock=some g->B<=g/\(vk.ownBlock=some g\/W.heap.size<=g):=λ g hg'=>by
  rcases hl with e|e
  ·exact⟨(Q.kr.lt g (e▸hg')).1,.inl (e▸hg')⟩
  ·rw[e] at hg';simp only[ad_] at hg'
   have:(W.alloc o).heap.size=W.heap.size+1:=by simp
   exact⟨by omega,.inr (by omega)⟩
 have hG:Fr w5 (w5.setCell ⟨b1,3,none⟩ v5) (λ g=>g=b1):=(Fr.refl w5 (λ g=>g=b1)).setCell ⟨b1,3,none⟩ v5 (λ _=>rfl);have hH:Fr W (w5.setCell ⟨b1,3,none⟩ v5) (λ g=>vk.ownBlock=some g\/g=b1):=(hF.mono (λ _ _ e=>.inl e)).trans hG (λ _ _ e=>.inr e);have B1:=hF.blk Q.r1 (λ e=>by have:=Q.kr.lt _ e;omega);refine⟨⟨Q.M.own (hH.mono (λ g _ e=>?_)),Q.hb,ah_ hbB hH.size,hH.blk Q.rx (λ e=>?_),hH.blk Q.r0 (λ e=>?_),B1.set 3 v5,?_,zb_ Q.vr hH (λ g hg' e=>?_),λ g hg' e=>?_⟩,λ ds D=>?_⟩
 ·rcases e with e|e
  ·have:=Q.kr.lt g e;omega
  ·omega
 ·rcases e with e|e
  ·have:=Q.kr.lt _ e;omega
  ·omega
 ·rcases e with e|e
  ·have:=Q.kr.lt _ e;omega
  ·omega
 ·rw[al_,ai_,bq_,ap_,a1_];exact zb_ ho hG (λ g hg' e=>by have:=hv g hg';omega)
 ·rcases e with e|e
  ·exact Q.ap g e hg'
  ·have:=Q.vr.lt _ hg';omega
 ·rcases(hv g hg').2 with q|q
  ·exact Q.ap g q e
  ·have:=Q.vr.lt _ e;omega
 ·obtain⟨a,X,b,c⟩:=D;refine⟨a,X,b,λ i d e=>((zjh (c i d e)).fr hH (λ g hg' e=>?_)).mono (λ g _ hg'=>⟨hg'.1.1,λ e=>?_,hg'.1.2.2⟩)⟩
  ·rcases e with e|e
   ·exact hg'.1.2.1 e
   ·have:=hg'.1.1;omega
  ·rcases(hv g e).2 with q|q
   ·exact hg'.1.2.1 q
   ·have:=hg'.2;omega
theorem BL.item (Q:BL w P bd s bz j nn er ts env cx ct b0 b1 B c vk vs ks n xs W){v5:Value}{v:List Value}(hg:(W.alloc o).grownBy w5 vs.ownBlock) (ho:w5.ownsRow B 32 5 v5 (n+1) (xs++v))
 (hl:v5.ownBlock=vs.ownBlock\/v5.ownBlock=some (W.alloc o).heap.size) :
 BL w P bd s bz j nn er ts env cx ct b0 b1 B c vk v5 ks (n+1) (xs++v) (w5.setCell ⟨b1,4,none⟩ v5)/\
  (∀ ds d,Dts W B vk vs ds n xs->DVal W (λ g=>B<=g/\vk.ownBlock≠some g/\vs.ownBlock≠some g) d v->Dts (w5.setCell ⟨b1,4,none⟩ v5) B vk v5 (ds++[d]) (n+1) (xs++v)):=by
 have hb:=Q.hb;have hbB:=Q.bB;have hF:Fr W w5 (λ g=>vs.ownBlock=some g):=Fr.grown ((Fr.refl W _).alloc o) hg (λ k e _=>e)
 have hv:∀ g,v5.ownBlock=some g->B<=g/\(vs.ownBlock=some g\/W.heap.size<=g):=λ g hg'=>by
  rcases hl with e|e
  ·exact⟨(Q.vr.lt g (e▸hg')).1,.inl (e▸hg')⟩
  ·rw[e] at hg';simp only[ad_] at hg'
   have:(W.alloc o).heap.size=W.heap.size+1:=by simp
   exact⟨by omega,.inr (by omega)⟩
 have hG:Fr w5 (w5.setCell ⟨b1,4,none⟩ v5) (λ g=>g=b1):=(Fr.refl w5 (λ g=>g=b1)).setCell ⟨b1,4,none⟩ v5 (λ _=>rfl);have hH:Fr W (w5.setCell ⟨b1,4,none⟩ v5) (λ g=>vs.ownBlock=some g\/g=b1):=(hF.mono (λ _ _ e=>.inl e)).trans hG (λ _ _ e=>.inr e);have B1:=hF.blk Q.r1 (λ e=>by have:=Q.vr.lt _ e;omega);refine⟨⟨Q.M.own (hH.mono (λ g _ e=>?_)),Q.hb,ah_ hbB hH.size,hH.blk Q.rx (λ e=>?_),hH.blk Q.r0 (λ e=>?_),B1.set 4 v5,zb_ Q.kr hH (λ g hg' e=>?_),zb_ ho hG (λ g hg' e=>by have:=hv g hg';omega),λ g hg' e=>?_⟩,λ ds d D hd=>?_⟩
 ·rcases e with e|e
  ·have:=Q.vr.lt g e;omega
  ·omega
 ·rcases e with e|e
  ·have:=Q.vr.lt _ e;omega
  ·omega
 ·rcases e with e|e
  ·have:=Q.vr.lt _ e;omega
  ·omega
 ·rcases e with e|e
  ·exact Q.ap g hg' e
  ·have:=Q.kr.lt _ hg';omega
 ·rcases(hv g e).2 with q|q
  ·exact Q.ap g hg' q
  ·have:=Q.kr.lt _ hg';omega
 ·have keep:∀ {e v},DVal W (λ g=>B<=g/\vk.ownBlock≠some g/\vs.ownBlock≠some g) e v->DVal (w5.setCell ⟨b1,4,none⟩ v5) (λ g=>B<=g/\vk.ownBlock≠some g/\v5.ownBlock≠some g) e v:=λ he=>
   ((zjh he).fr hH (λ g hg' e=>by
     rcases e with e|e
     ·exact hg'.1.2.2 e
     ·have:=hg'.1.1;omega)).mono (λ g _ hg'=>⟨hg'.1.1,hg'.1.2.1,λ e=>by
     rcases(hv g e).2 with q|q
     ·exact hg'.1.2.2 q
     ·have:=hg'.2;omega⟩)
  obtain⟨rfl,X,rfl,hX⟩:=D;refine⟨by rw[al_,ai_],λ i=>if i<ds.length then X i else v,?_,λ i e he=>?_⟩
  ·rw[al_,ai_,bi_,a5_,z2_ ds.length (λ i=>if i<ds.length then X i else v) X (λ i hi=>by simp[hi])]
   simp
  ·by_cases hi:i<ds.length
   ·rw[av_ hi] at he;simp only[hi,if_true];exact keep (hX i e he)
   ·rw[aw_ (by omega)] at he
    have h0:i-ds.length=0:=by
     rcases bw_ (i-ds.length) with h|h
     ·exact h
     ·rw[bm_ (by simp;omega)] at he;cases he
    rw[h0] at he;simp only[aa_,ad_] at he;subst he;simp only[hi,if_false];exact keep hd
theorem BL.itemCell (Q:BL w P bd s bz j nn er ts env cx ct b0 b1 B c vk vs ks n xs W)(hg:(W.alloc o).grownBy w5 vs.ownBlock):w5.cell? ⟨b1,4,none⟩=some vs/\w5.frozen? ⟨b1,4,none⟩=false:=by
 have hb:=Q.hb;have hF:Fr W w5 (λ g=>vs.ownBlock=some g):=Fr.grown ((Fr.refl W _).alloc o) hg (λ k e _=>e);have B1:=hF.blk Q.r1 (λ e=>by have:=Q.vr.lt _ e;omega);exact⟨B1.cell 4,B1.thaw 4⟩
end
open Go.RowKit
open Go.RowKit
section
variable {w W W':World} {P:Nat->Prop} {bd:Nat} {s:BA} {bz j m b0:Nat} {er:Int} {ts:List TR} {env:Nat->Option PB} {k:Nat} {n:Int} {tx:BA} {vk vs:Value} {d:DT} {r:Except Nat (DT×Nat×Nat)}
end
def zei (acc:List (BA×DT)):Except Nat (List (BA×DT)×Nat×Nat)->Except Nat (List (BA×DT)×Nat×Nat)
 | .error e=>.error e
 | .ok (l,j,m)=>.ok (acc++l,j,m)
theorem zh0 (x:Except Nat (List (BA×DT)×Nat×Nat)):zei [] x=x:=by
 cases x with
 | error e=>rfl
 | ok q=>obtain⟨l,j,m⟩:=q;rfl
def ztm (R:Nat->Nat->Except Nat (DT×Nat×Nat)) (s:BA) (keyed:Bool) (c:Nat) (acc:List (BA×DT)) (k:BA) (j m:Nat):Except Nat (List (BA×DT)×Nat×Nat):=
 match R j m with
 | .error e=>.error e
 | .ok (d,j',m')=>zei (acc++[(k,d)]) (xd_ R s keyed c (some k) j' m')
theorem zgr (R:Nat->Nat->Except Nat (DT×Nat×Nat)) (s:BA) (keyed:Bool) (c:Nat) (acc:List (BA×DT)) (last:Option BA) (j m:Nat):zei acc (xd_ R s keyed (c+1) last j m) =
 match bKey s keyed last j with
 | none=>.error 6
 | some (k,j1)=>ztm R s keyed c acc k j1 m:=by
 rw[xd_]
 cases bKey s keyed last j with
 | none=>rfl
 | some q=>
  obtain⟨k,j1⟩:=q;simp only[ztm]
  cases R j1 m with
  | error e=>rfl
  | ok q=>
   obtain⟨d,j',m'⟩:=q;simp only
   cases xd_ R s keyed c (some k) j' m' with
   | error e=>rfl
   | ok q=>
    obtain⟨l,j2,m2⟩:=q
    simp[zei]
def z00 (c:Nat):Except Nat (List (BA×DT)×Nat×Nat)->Except Nat (DT×Nat×Nat)
 | .error e=>.error e
 | .ok (l,j,m)=>.ok (.mk c 0 noB (zzz (c==123) l) (l.map Prod.snd),j,m)
theorem zoz (R:Nat->Nat->Except Nat (DT×Nat×Nat)) (s:BA) (c i n:Nat):zdf R s c i n=match zdg s i with|none=>.error 6|some (q,j)=>z00 c (xd_ R s (c==123) q.toNat none j n):=by
 unfold zdf
 cases zdg s i with
 | none=>rfl
 | some q=>
  obtain⟨v,j⟩:=q;simp only
  cases xd_ R s (c==123) v.toNat none j n with
  | error e=>rfl
  | ok q=>rfl
open Go.RowKit
def zh1 (ds:List DT):Except Nat (List DT×Nat×Nat)->Except Nat (List DT×Nat×Nat)
 | .error e=>.error e
 | .ok (l,j,m)=>.ok (ds++l,j,m)
theorem zq9 (x:Except Nat (List DT×Nat×Nat)):zh1 [] x=x:=by
 cases x with
 | error e=>rfl
 | ok q=>obtain⟨l,j,m⟩:=q;rfl
theorem znz (R:PT->Nat->Nat->Except Nat (DT×Nat×Nat)) (ds:List DT) (t:PT) (r:List PT) (j m:Nat):zh1 ds (yq_ R (t::r) j m)=match R t j m with | .error e=>.error e | .ok (d,j',m')=>zh1 (ds++[d]) (yq_ R r j' m'):=by
 rw[yq_]
 cases R t j m with
 | error e=>rfl
 | ok q=>
  obtain⟨d,j',m'⟩:=q;simp only
  cases yq_ R r j' m' with
  | error e=>rfl
  | ok q=>
   obtain⟨l,j2,m2⟩:=q
   simp[zh1]
open Go.RowKit
def BRes (lo bd:Nat) (s:BA) (bz:Nat) (r:Except Nat (DT×Nat×Nat)) (v:List Value) (w':World):Prop:=match r with
 | .error e0=>e0≠0/\∃ j m,j<=s.size/\m<=301/\DAt w' bd s bz j (e0:Int) m
 | .ok (d,j,m)=>j<=s.size/\m<=300/\DAt w' bd s bz j 0 m/\DVal w' (λ g=>lo<=g) d v
theorem BRes.at {lo bd:Nat}{s:BA}{bz:Nat}{r:Except Nat (DT×Nat×Nat)}{v:List Value}{w':World}(h:BRes lo bd s bz r v w'):∃ j er m,j<=s.size/\DAt w' bd s bz j er m:=by
 cases r with
 | error e0=>obtain⟨_,j,m,a,_,b⟩:=h;exact⟨j,_,m,a,b⟩
 | ok q=>obtain⟨d,j,m⟩:=q;obtain⟨a,_,b,_⟩:=h;exact⟨j,_,m,a,b⟩
theorem z0x.any {w w':World}{bd:Nat}{s:BA}{bz:Nat}{r:Except Nat (DT×Nat×Nat)}{e:Ending}(h:z0x w bd s bz r e w'):∃ (dk:Nat) (dm:Int) (dtx:BA) (a1:Option Addr) (m1 c1:Nat) (a2:Option Addr) (m2 c2:Nat),e=.returned (.agg #[.int .u8 (dk:Int),.int .i64 dm,.string dtx,.slice a1 m1 c1,.slice a2 m2 c2])/\Fr w w' (· = bd)/\
 BRes w.heap.size bd s bz r (jk_ dk dm dtx (.slice a1 m1 c1) (.slice a2 m2 c2)) w':=by
 obtain⟨dk,dm,dtx,vk,vs,rfl,⟨a1,m1,c1,rfl⟩,⟨a2,m2,c2,rfl⟩,hf,hm⟩:=h;exact⟨dk,dm,dtx,a1,m1,c1,a2,m2,c2,rfl,hf,by cases r<;>exact hm⟩
open Go.RowKit
mutual
def fewT:PT->Prop
 | .leaf _ _=>True
 | .wrap _ _ t=>fewT t
 | .alts _ l=>l.length<=300/\znj l
def znj:List PT->Prop
 | []=>True
 | t::r=>fewT t/\znj r
end
theorem zc9:∀ {l:List PT},znj l->∀ t∈l,fewT t
 | [],_,t,h=>by cases h
 | x::r,h,t,ht=>by
  unfold znj at h
  rcases an_.1 ht with rfl|ht
  ·exact h.1
  ·exact zc9 h.2 t ht
def fewE (env:Nat->Option PB):Prop:=∀ c fs,env c=some (.recd fs)->fs.length<=300/\∀ g∈fs,fewT g.ty
open Go.RowKit
theorem zhp (h:u<10):decB (u:Int)=bts [48+u]:=by
 unfold decB bts;rw[Lib.itoa_nonneg,Lib.decDigits_one h]
 rfl
theorem zwt (h:¬ u<10):decB (u:Int)=decB ((u / 10:Nat):Int)++bts [48+u % 10]:=by
 unfold decB bts;rw[Lib.itoa_nonneg,Lib.itoa_nonneg,Lib.decDigits,dif_neg h]
 apply br_
 simp
theorem zws (h:1<=u):decB (-(u:Int))=bts [45]++decB (u:Int):=by
 unfold decB bts;rw[Lib.itoa_neg u h,Lib.itoa_nonneg]
 apply br_
 simp
section
variable {w:World}
end
open Go.RowKit
inductive FitT (env:Nat->Option PB):DT->PT->Prop
 | flat {k:Nat} {n:Int} {tx:BA} {t:PT} (h:k=110\/k=116\/k=105\/k=108\/k=115\/k=102):FitT env (.mk k n tx [] []) t
 | wrap {c p:Nat} {u:PT} {ks:List BA} {ds:List DT} (h:∀ (i:Nat) (d:DT),ds[i]?=some d->FitT env d u):FitT env (.mk c 0 noB ks ds) (.wrap c p u)
 | alts {n p:Nat} {l:List PT} {u:PT} {d:DT} (hl:l[n]?=some u) (h:FitT env d u):FitT env (.mk 40 (n:Int) noB [] [d]) (.alts p l)
 | sym {c p n:Nat} {l:List (Nat×Nat)} {o:Option (Nat×Nat)} (he:env c=some (.enum l o)) (hb:¬ zu_ c=true) (hn:n<l.length):FitT env (.mk 101 (n:Int) noB [] []) (.leaf c p)
 | recd {c p:Nat} {fs:List PF} {ds:List DT} (he:env c=some (.recd fs)) (hb:¬ zu_ c=true) (hl:ds.length=fs.length) (h:∀ (i:Nat) (d:DT) (g:PF),ds[i]?=some d->fs[i]?=some g->FitT env d g.ty):FitT env (.mk 114 0 noB [] ds) (.leaf c p)
def zy7 (env:Nat->Option PB) (R:Nat->Nat->Except Nat (DT×Nat×Nat)) (t:PT):Prop:=∀ i n d j m,R i n=.ok (d,j,m)->FitT env d t/\m=n+ndT d
theorem zgn {env:Nat->Option PB}{s:BA}{R:Nat->Nat->Except Nat (DT×Nat×Nat)}{t:PT}(hR:zy7 env R t){keyed:Bool}:∀ (c:Nat) (last:Option BA) (i n:Nat) (l:List (BA×DT)) (j m:Nat),xd_ R s keyed c last i n=.ok (l,j,m)->(∀ e∈l,FitT env e.2 t)/\m=n+ndTs (l.map Prod.snd)
 | 0,last,i,n,l,j,m,h=>by
  simp only[xd_,af_,ab_] at h;obtain⟨rfl,rfl,rfl⟩:=h
  simp[ndTs]
 | c+1,last,i,n,l,j,m,h=>by
  unfold xd_ at h;split at h
  ·simp at h
  ·rename_i k i1 hk;split at h
   ·simp at h
   ·rename_i d j1 m1 hd;have h2:=hR _ _ _ _ _ hd;split at h
    ·simp at h
    ·rename_i l' j' m' he;have h3:=zgn hR c _ _ _ _ _ _ he;simp only[af_,ab_] at h;obtain⟨rfl,rfl,rfl⟩:=h;refine⟨λ e he=>?_,?_⟩
     ·rcases an_.1 he with rfl|he
      ·exact h2.1
      ·exact h3.1 e he
     ·simp only[ap_,ndTs];omega
theorem zeh {env:Nat->Option PB}{R:PT->Nat->Nat->Except Nat (DT×Nat×Nat)}(hR:∀ t,zy7 env (R t) t):∀ (fs:List PF) (i n:Nat) (l:List DT) (j m:Nat),yq_ R (fs.map PF.ty) i n=.ok (l,j,m)->l.length=fs.length/\(∀ (i:Nat) (d:DT) (g:PF),l[i]?=some d->fs[i]?=some g->FitT env d g.ty)/\m=n+ndTs l
 | [],i,n,l,j,m,h=>by
  simp only[a1_,yq_,af_,ab_] at h;obtain⟨rfl,rfl,rfl⟩:=h
  simp[ndTs]
 | f::r,i,n,l,j,m,h=>by
  simp only[ap_] at h;unfold yq_ at h;split at h
  ·simp at h
  ·rename_i d j1 m1 hd;have h2:=hR f.ty _ _ _ _ _ hd;split at h
   ·simp at h
   ·rename_i l' j' m' he;have h3:=zeh hR r _ _ _ _ _ he;simp only[af_,ab_] at h;obtain⟨rfl,rfl,rfl⟩:=h;refine⟨by simp only[ar_];omega,λ q e g h4 h5=>?_,by simp only[ndTs];omega⟩
    cases q with
    | zero=>
     simp only[aa_,ad_] at h4 h5;subst h4 h5;exact h2.1
    | succ q=>
     simp only[ac_] at h4 h5;exact h3.2.1 q e g h4 h5
theorem zoh (s:BA) (env:Nat->Option PB):∀ (f:Nat) (t:PT),zy7 env (rdB s env f t) t:=by
 intro f
 induction f with
 | zero=>intro t i n d j m h;simp[rdB] at h
 | succ f ih=>
  intro t i n d j m h;unfold rdB at h;split at h
  ·simp at h
  ·rename_i hn3;split at h
   ·rename_i c p;unfold zag at h;split at h
    ·simp only[af_,ab_] at h;obtain⟨rfl,rfl,rfl⟩:=h;exact⟨.flat (by omega),by simp[ndT,ndTs]⟩
    ·split at h
     ·split at h
      ·simp only[af_,ab_] at h;obtain⟨rfl,rfl,rfl⟩:=h;exact⟨.flat (by omega),by simp[ndT,ndTs]⟩
      ·simp at h
     ·split at h
      ·split at h
       ·simp at h
       ·simp only[af_,ab_] at h;obtain⟨rfl,rfl,rfl⟩:=h;exact⟨.flat (by omega),by simp[ndT,ndTs]⟩
      ·split at h
       ·split at h
        ·simp at h
        ·simp only[af_,ab_] at h;obtain⟨rfl,rfl,rfl⟩:=h;exact⟨.flat (by omega),by simp[ndT,ndTs]⟩
       ·split at h
        ·split at h
         ·simp at h
         ·simp only[af_,ab_] at h;obtain⟨rfl,rfl,rfl⟩:=h;exact⟨.flat (by omega),by simp[ndT,ndTs]⟩
        ·split at h
         ·simp at h
         ·rename_i pb hpb
          have hnb:¬ zu_ c=true:=by
           intro hb;simp only[zu_,au_,beq_iff_eq] at hb;omega
          unfold vv_ at h;split at h
          ·split at h
           ·simp at h
           ·rename_i ds j1 m1 he;have h3:=zeh ih _ _ _ _ _ _ he;simp only[af_,ab_] at h;obtain⟨rfl,rfl,rfl⟩:=h;exact⟨.recd hpb hnb h3.1 h3.2.1,by simp only[ndT];omega⟩
          ·split at h
           ·simp at h
           ·rename_i q j1 he;have h3:=y7_ he;simp only[af_,ab_] at h;obtain⟨rfl,rfl,rfl⟩:=h;obtain⟨k,rfl⟩:∃ k:Nat,q=(k:Int):=⟨q.toNat,by omega⟩;exact⟨.sym hpb hnb (by omega),by simp[ndT,ndTs]⟩
          ·split at h
           ·simp at h
           ·simp only[af_,ab_] at h;obtain⟨rfl,rfl,rfl⟩:=h;exact⟨.flat (by omega),by simp[ndT,ndTs]⟩
   ·rename_i c p t;unfold zdf at h;split at h
    ·simp at h
    ·rename_i q j1 he;split at h
     ·simp at h
     ·rename_i l j2 m2 hl;have h3:=zgn (ih t) _ _ _ _ _ _ _ hl;simp only[af_,ab_] at h;obtain⟨rfl,rfl,rfl⟩:=h;refine⟨.wrap (λ i d e=>?_),by simp only[ndT];omega⟩;rw[a4_] at e;obtain⟨x,hx,rfl⟩:=b9_.1 e;exact h3.1 x (ak_ hx)
   ·rename_i p ts;unfold j8_ at h;split at h
    ·simp at h
    ·rename_i q j1 he;have h1:=y7_ he;split at h
     ·simp at h
     ·rename_i t ht;split at h
      ·simp at h
      ·rename_i d1 j2 m2 hd;have h3:=ih t _ _ _ _ _ hd;simp only[af_,ab_] at h;obtain⟨rfl,rfl,rfl⟩:=h;obtain⟨k,rfl⟩:∃ k:Nat,q=(k:Int):=⟨q.toNat,by omega⟩;exact⟨.alts (by simpa using ht) h3.1,by simp only[ndT,ndTs];omega⟩
end Go.Proofs.YthmjjpkjgjklmaaGreatDoor
