import Derived.Test.YtiifagiebikmdaaGreatDoorW16
import Derived.Deep.DeepCutAuto
import Derived.Test.YtiifagiebikmdaaGreatDoorW11
import Derived.Test.YtiifagiebikmdaaGreatDoorA00
set_option maxHeartbeats 16000000
set_option maxRecDepth 100000
set_option linter.unusedSimpArgs false
open Go.Proofs.Tryz
namespace Go.Proofs.YtiifagiebikmdaaGreatDoor
open Go.RowKit
variable {i f:Nat}{o:Obj}{w5:World}{t:PT}
structure BL (w:World) (P:Nat->Prop) (bd:Nat) (s:BA) (bz j nn:Nat) (er:Int) (ts:List TR) (env:Nat->Option PB) (cx:List Value) (ct:TypeId) (b0 b1 B c:Nat) (vk vs:Value) (ks:List BA) (n:Nat) (xs:List Value) (W:World):Prop where
 M:XBM w P bd s bz j nn er ts env W
 hb:w.heap.size<b0/\b0<b1/\b1<B
 bB:B<=W.heap.size
 rx:Blk W w.heap.size cx ct
 r0:Blk W b0 zg_ 37
 r1:Blk W b1 (zb_ c 0 noB vk vs) 37
 kr:W.ownsRow B 9 1 vk ks.length (ks.map Value.string)
 vr:W.ownsRow B 37 5 vs n xs
 ap:∀ g,vk.ownBlock=some g->vs.ownBlock≠some g
section
variable {w W W':World} {P:Nat->Prop} {bd:Nat} {s:BA} {bz j j' nn nn':Nat} {er er':Int} {cx:List Value} {ct:TypeId} {ts:List TR} {env:Nat->Option PB} {b0 b1 B c:Nat} {vk vs:Value} {ks:List BA} {n:Nat} {xs:List Value} {ds:List DT}
theorem BL.call (Q:BL w P bd s bz j nn er ts env cx ct b0 b1 B c vk vs ks n xs W) (b:DAt W' bd s bz j' er' nn') (a:Fr W W' (· = bd)) (h:j'<=s.size):BL w P bd s bz j' nn' er' ts env cx ct b0 b1 B c vk vs ks n xs W':=by
 have h1:=Q.M.lt;have l:=Q.hb;exact⟨Q.M.call b a h,Q.hb,ai_ Q.bB a.size,a.blk Q.rx (by omega),a.blk Q.r0 (by omega),a.blk Q.r1 (by omega),za_ Q.kr a (λ g hg e=>by have:=Q.kr.lt g hg;omega),za_ Q.vr a (λ g hg e=>by have:=Q.vr.lt g hg;omega),Q.ap⟩
theorem BL.dts (Q:BL w P bd s bz j nn er ts env cx ct b0 b1 B c vk vs ks n xs W) (D:Dts W B vk vs ds n xs) (a:Fr W W' (· = bd)):Dts W' B vk vs ds n xs:=by
 have h1:=Q.M.lt;have b:=Q.hb;exact D.fr a (λ g hg _ _ e=>by omega)
theorem BL.still (Q:BL w P bd s bz j nn er ts env cx ct b0 b1 B c vk vs ks n xs W) (h:zd_ W W'):BL w P bd s bz j nn er ts env cx ct b0 b1 B c vk vs ks n xs W':=Q.call (Q.M.L.still h) ((Fr.refl W _).still h) Q.M.jl
theorem BL.alloc (Q:BL w P bd s bz j nn er ts env cx ct b0 b1 B c vk vs ks n xs W) (o:Obj):BL w P bd s bz j nn er ts env cx ct b0 b1 B c vk vs ks n xs (W.alloc o):=
 ⟨Q.M.alloc o,Q.hb,by have:=Q.bB;simp;omega,Q.rx.alloc o,Q.r0.alloc o,Q.r1.alloc o,World.ownsRow.alloc Q.kr o,World.ownsRow.alloc Q.vr o,Q.ap⟩
theorem BL.key (Q:BL w P bd s bz j nn er ts env cx ct b0 b1 B c vk vs ks n xs W){l:Value}{key:BA}(hg:(W.alloc o).grownBy w5 vk.ownBlock) (ho:w5.ownsRow B 9 1 l (ks.length+1) (ks.map Value.string++[.string key]))
 (hl:l.ownBlock=vk.ownBlock\/l.ownBlock=some (W.alloc o).heap.size) :
 BL w P bd s bz j nn er ts env cx ct b0 b1 B c l vs (ks++[key]) n xs (w5.setCell ⟨b1,3,none⟩ l)/\(∀ ds,Dts W B vk vs ds n xs->Dts (w5.setCell ⟨b1,3,none⟩ l) B l vs ds n xs):=by
 have hb:=Q.hb;have z:=Q.bB;have v:Fr W w5 (λ g=>vk.ownBlock=some g):=Fr.grown ((Fr.refl W _).alloc o) hg (λ k e _=>e)
 have u:∀ g,l.ownBlock=some g->B<=g/\(vk.ownBlock=some g\/W.heap.size<=g):=λ g h=>by
  rcases hl with e|e
  ·exact⟨(Q.kr.lt g (e▸h)).1,.inl (e▸h)⟩
  ·rw[e] at h;simp only[ag_] at h
   have:(W.alloc o).heap.size=W.heap.size+1:=by simp
   exact⟨by omega,.inr (by omega)⟩
 have x:Fr w5 (w5.setCell ⟨b1,3,none⟩ l) (λ g=>g=b1):=(Fr.refl w5 (λ g=>g=b1)).setCell ⟨b1,3,none⟩ l (λ _=>rfl);have p:Fr W (w5.setCell ⟨b1,3,none⟩ l) (λ g=>vk.ownBlock=some g\/g=b1):=(v.mono (λ _ _ e=>.inl e)).trans x (λ _ _ e=>.inr e);have y:=v.blk Q.r1 (λ e=>by have:=Q.kr.lt _ e;omega);refine⟨⟨Q.M.own (p.mono (λ g _ e=>?_)),Q.hb,ai_ z p.size,p.blk Q.rx (λ e=>?_),p.blk Q.r0 (λ e=>?_),y.set 3 l,?_,za_ Q.vr p (λ g h e=>?_),λ g h e=>?_⟩,λ ds D=>?_⟩
 ·rcases e with e|e
  ·have:=Q.kr.lt g e;omega
  ·omega
 ·rcases e with e|e
  ·have:=Q.kr.lt _ e;omega
  ·omega
 ·rcases e with e|e
  ·have:=Q.kr.lt _ e;omega
  ·omega
 ·rw[ah_,am_,be_,ay_,a6_];exact za_ ho x (λ g h e=>by have:=u g h;omega)
 ·rcases e with e|e
  ·exact Q.ap g e h
  ·have:=Q.vr.lt _ h;omega
 ·rcases(u g h).2 with q|q
  ·exact Q.ap g q e
  ·have:=Q.vr.lt _ e;omega
 ·obtain⟨a,X,b,c⟩:=D;refine⟨a,X,b,λ i d e=>((zi1 (c i d e)).fr p (λ g h e=>?_)).mono (λ g _ h=>⟨h.1.1,λ e=>?_,h.1.2.2⟩)⟩
  ·rcases e with e|e
   ·exact h.1.2.1 e
   ·have:=h.1.1;omega
  ·rcases(u g e).2 with q|q
   ·exact h.1.2.1 q
   ·have:=h.2;omega
theorem BL.item (Q:BL w P bd s bz j nn er ts env cx ct b0 b1 B c vk vs ks n xs W){b:Value}{v:List Value}(hg:(W.alloc o).grownBy w5 vs.ownBlock) (ho:w5.ownsRow B 37 5 b (n+1) (xs++v))
 (hl:b.ownBlock=vs.ownBlock\/b.ownBlock=some (W.alloc o).heap.size) :
 BL w P bd s bz j nn er ts env cx ct b0 b1 B c vk b ks (n+1) (xs++v) (w5.setCell ⟨b1,4,none⟩ b)/\
  (∀ ds d,Dts W B vk vs ds n xs->DVal W (λ g=>B<=g/\vk.ownBlock≠some g/\vs.ownBlock≠some g) d v->Dts (w5.setCell ⟨b1,4,none⟩ b) B vk b (ds++[d]) (n+1) (xs++v)):=by
 have hb:=Q.hb;have C:=Q.bB;have x:Fr W w5 (λ g=>vs.ownBlock=some g):=Fr.grown ((Fr.refl W _).alloc o) hg (λ k e _=>e)
 have u:∀ g,b.ownBlock=some g->B<=g/\(vs.ownBlock=some g\/W.heap.size<=g):=λ g a=>by
  rcases hl with e|e
  ·exact⟨(Q.vr.lt g (e▸a)).1,.inl (e▸a)⟩
  ·rw[e] at a;simp only[ag_] at a
   have:(W.alloc o).heap.size=W.heap.size+1:=by simp
   exact⟨by omega,.inr (by omega)⟩
 have y:Fr w5 (w5.setCell ⟨b1,4,none⟩ b) (λ g=>g=b1):=(Fr.refl w5 (λ g=>g=b1)).setCell ⟨b1,4,none⟩ b (λ _=>rfl);have l:Fr W (w5.setCell ⟨b1,4,none⟩ b) (λ g=>vs.ownBlock=some g\/g=b1):=(x.mono (λ _ _ e=>.inl e)).trans y (λ _ _ e=>.inr e);have z:=x.blk Q.r1 (λ e=>by have:=Q.vr.lt _ e;omega);refine⟨⟨Q.M.own (l.mono (λ g _ e=>?_)),Q.hb,ai_ C l.size,l.blk Q.rx (λ e=>?_),l.blk Q.r0 (λ e=>?_),z.set 4 b,za_ Q.kr l (λ g a e=>?_),za_ ho y (λ g a e=>by have:=u g a;omega),λ g a e=>?_⟩,λ ds d D hd=>?_⟩
 ·rcases e with e|e
  ·have:=Q.vr.lt g e;omega
  ·omega
 ·rcases e with e|e
  ·have:=Q.vr.lt _ e;omega
  ·omega
 ·rcases e with e|e
  ·have:=Q.vr.lt _ e;omega
  ·omega
 ·rcases e with e|e
  ·exact Q.ap g a e
  ·have:=Q.kr.lt _ a;omega
 ·rcases(u g e).2 with q|q
  ·exact Q.ap g a q
  ·have:=Q.kr.lt _ a;omega
 ·have keep:∀ {e v},DVal W (λ g=>B<=g/\vk.ownBlock≠some g/\vs.ownBlock≠some g) e v->DVal (w5.setCell ⟨b1,4,none⟩ b) (λ g=>B<=g/\vk.ownBlock≠some g/\b.ownBlock≠some g) e v:=λ he=>
   ((zi1 he).fr l (λ g a e=>by
     rcases e with e|e
     ·exact a.1.2.2 e
     ·have:=a.1.1;omega)).mono (λ g _ a=>⟨a.1.1,a.1.2.1,λ e=>by
     rcases(u g e).2 with q|q
     ·exact a.1.2.2 q
     ·have:=a.2;omega⟩)
  obtain⟨rfl,X,rfl,A⟩:=D;refine⟨by rw[ah_,am_],λ i=>if i<ds.length then X i else v,?_,λ i e he=>?_⟩
  ·rw[ah_,am_,bh_,a8_,yi_ ds.length (λ i=>if i<ds.length then X i else v) X (λ i p=>by simp[p])]
   simp
  ·by_cases p:i<ds.length
   ·rw[au_ p] at he;simp only[p,if_true];exact keep (A i e he)
   ·rw[ar_ (by omega)] at he
    have h0:i-ds.length=0:=by
     rcases bx_ (i-ds.length) with h|h
     ·exact h
     ·rw[bn_ (by simp;omega)] at he;cases he
    rw[h0] at he;simp only[aa_,ag_] at he;subst he;simp only[p,if_false];exact keep hd
theorem BL.itemCell (Q:BL w P bd s bz j nn er ts env cx ct b0 b1 B c vk vs ks n xs W)(hg:(W.alloc o).grownBy w5 vs.ownBlock):w5.cell? ⟨b1,4,none⟩=some vs/\w5.frozen? ⟨b1,4,none⟩=false:=by
 have hb:=Q.hb;have b:Fr W w5 (λ g=>vs.ownBlock=some g):=Fr.grown ((Fr.refl W _).alloc o) hg (λ k e _=>e);have a:=b.blk Q.r1 (λ e=>by have:=Q.vr.lt _ e;omega);exact⟨a.cell 4,a.thaw 4⟩
theorem BL.keyCell (Q:BL w P bd s bz j nn er ts env cx ct b0 b1 B c vk vs ks n xs W)(hg:(W.alloc o).grownBy w5 vk.ownBlock):w5.cell? ⟨b1,3,none⟩=some vk/\w5.frozen? ⟨b1,3,none⟩=false:=by
 have hb:=Q.hb;have b:Fr W w5 (λ g=>vk.ownBlock=some g):=Fr.grown ((Fr.refl W _).alloc o) hg (λ k e _=>e);have a:=b.blk Q.r1 (λ e=>by have:=Q.kr.lt _ e;omega);exact⟨a.cell 3,a.thaw 3⟩
theorem BL.dval (Q:BL w P bd s bz j nn er ts env cx ct b0 b1 B c vk vs ks n xs W) (D:Dts W B vk vs ds n xs) (k:Nat):DVal W (λ g=>B<=g) (.mk k 0 noB ks ds) (zb_ k 0 noB vk vs):=by
 obtain⟨rfl,X,rfl,a⟩:=D;exact .mk X (yq_ Q.kr) (λ g e=>(Q.kr.lt g e).1) (yq_ Q.vr) (λ g e=>(Q.vr.lt g e).1) (λ i d e=>(a i d e).mono (λ g _ hg=>hg.1))
end
open Go.RowKit
theorem zk2 {s:BA}{env:Nat->Option PB}{ts:List TR}{w:World}{P:Nat->Prop}{bd bz k n:Nat}{er:Int}(M:XBM w P bd s bz i n er ts env w) (he:er≠0) (hk:isT ts k t) :
 Calls prog 26 #[.pointer (some ⟨bd,0,none⟩),.int .i64 (k:Int)] w (λ e w'=>∃ (k:Nat) (v:Int) (tx:BA) (F:Option Addr) (O c1:Nat) (G:Option Addr) (Q c2:Nat),e=.returned (.agg (zb_ k v tx (.slice F O c1) (.slice G Q c2)).toArray)/\Fr w w' (· = bd)/\DAt w' bd s bz i er n):=by
 have a2:(er==0)=false:=by simp[he]
 obtain⟨l,hk⟩:=zid hk;obtain⟨c,hc⟩:∃ c,t.kind=c:=⟨_,rfl⟩;rw[hc] at hk;obtain⟨g,m,a1,sv,z0,a3,D,z2,ho,x⟩:=M.Z.type hk;simp only at D;refine hq_ λ a0 E=>?_;have a5:=M.lt;have a6:=zk_ z0;have a7:=zk_ D;have c3:=M.L.c3;have c2:=M.L.c2;obtain⟨p,sn,q,rfl⟩:=zn_ ho;have a:=dw_0 w c (.slice p sn q);have b:=dw_2 w c (.slice p sn q);have r0:=a.cell 0;have U:=b.cell 0;have H:=a.thaw 0;have r1:=a.cell 1;have V:=b.cell 1;have I:=a.thaw 1;have R:=a.cell 2;have t2:=b.cell 2;have J:=a.thaw 2;have S:=a.cell 3;have t3:=b.cell 3;have K:=a.thaw 3;have T:=a.cell 4;have t4:=b.cell 4;have N:=a.thaw 4;have d2:=λ X Y Z=>zl_ c2 X Y Z;simp only[dw,zg_,zb_,noB,aa_,ab_,af_] at r0 r1 R S T U V t2 t3 t4 H I J K N;clear a b
 have a4:(k:Int)<(m:Int):=by omega
 replace M:=q_ M;replace ho:=q_ ho;replace x:=q_ x;replace hk:=q_ hk
 go_in
 go_wp2_with fail
 have h:=((Blk.new w (zb_ c 0 noB (.slice none 0 0) (.slice none 0 0)).toArray 37).alloc (.cells #[.int .u8 (c:Int),.slice p sn q] 77)).alloc (.cells (zb_ c 0 noB (.slice none 0 0) (.slice none 0 0)).toArray 37);have y:=h.cell 0;have z:=h.cell 1;have A:=h.cell 2;have q3:=h.cell 3;have C:=h.cell 4;simp only[zb_,noB,aa_,ab_] at y z A q3 C;refine bodyPost_ret (v:=.agg (zb_ c 0 noB (.slice none 0 0) (.slice none 0 0)).toArray) (by simp[results,results26,go_sem,y,z,A,q3,C,zb_,noB]) rfl ?_;rw[E.o];have u:=(((M.o.alloc (.cells (zb_ c 0 noB (.slice none 0 0) (.slice none 0 0)).toArray 37)).alloc (.cells #[.int .u8 (c:Int),.slice p sn q] 77)).alloc (.cells (zb_ c 0 noB (.slice none 0 0) (.slice none 0 0)).toArray 37));exact⟨c,0,noB,none,0,0,none,0,0,rfl,u.fr,u.L⟩
theorem zy6 {s:BA}{env:Nat->Option PB}{ts:List TR}{n:Nat}(hn:300<=n):BdOK s env ts (f+1) t i n:=by
 intro w P bd bz k M a8 hk;obtain⟨l,hk⟩:=zid hk;obtain⟨c,hc⟩:∃ c,t.kind=c:=⟨_,rfl⟩;rw[hc] at hk;obtain⟨g,m,a1,sv,z0,a3,A,z2,ho,C⟩:=M.Z.type hk;simp only at A;refine hq_ λ a0 H=>?_;have z:=M.lt;have a5:=zk_ z0;have a6:=zk_ A;have c2:=M.L.c2;have c3:=M.L.c3;have c4:=M.L.c4;have a2:=M.jl;have a9:=M.sl;obtain⟨p,sn,q,rfl⟩:=zn_ ho;have I:=λ X Y Z=>zl_ c2 X Y Z;have d4:=λ X Y Z=>zl_ c4 X Y Z;have d5:=λ X Y Z=>zgm M.L 4 X Y Z
 have a4:(k:Int)<(m:Int):=by omega
 have a7:(n:Int)+1 > 300:=by omega
 have x:=q_ (zc3 M c (.slice p sn q));have E:=q_ (zgv (n:=n) z c (.slice p sn q));have B1:=q_ (zdu (n:=n) z c (.slice p sn q));have F:=q_ (zgu (n:=n) z c (.slice p sn q));replace M:=q_ M;replace ho:=q_ ho;replace C:=q_ C;have N:=q_ (λ (W:World) (j n:Nat) (er:Int) (h:DAt W bd s bz j er n)=>x7_ (e0:=7) h);have O:=q_ (show rdB s env (f+1) t i n=.error 7 by unfold rdB;rw[if_pos hn])
 go_in
 go_upto_if 39 with fail
 change Code.wp _ _ _ _ (dwn w bd n c (.slice p sn q));generalize dwn w bd n c (.slice p sn q)=W0 at *;clear c2 c3 c4 I d4 d5 z0 A z2
 go_wp2_with (go_at_call 43;refine(N.o _ _ _ _ x.o.L).mono ?_;rintro e D ⟨rfl,J,u⟩;have y:=x.o.call J u x.o.jl;have a:=u.blk E.o (by omega);have b:=u.blk F.o (by omega);have r0:=a.cell 0;have r1:=a.cell 1;have U:=a.cell 2;have V:=a.cell 3;have r4:=a.cell 4;have t0:=b.cell 0;have t1:=b.cell 1;have t2:=b.cell 2;have t3:=b.cell 3;have t4:=b.cell 4;obtain⟨g0,g1,g2,g3,g4⟩:=a.t5;simp only[zg_,zb_,aa_,ab_,af_] at r0 r1 U V r4 t0 t1 t2 t3 t4;replace y:=q_ y;replace a:=q_ a;replace b:=q_ b;replace u:=q_ u)
 have G:=Blk.five a.o (.int .u8 (c:Int)) (.int .i64 0) (.string noB) (.slice none 0 0) (.slice none 0 0);obtain⟨Q,R,S,q3,T⟩:=G.d5;have K:=Fr.five D (w.heap.size) (.int .u8 (c:Int)) (.int .i64 0) (.string noB) (.slice none 0 0) (.slice none 0 0);generalize (World.setCell (World.setCell (World.setCell (World.setCell (World.setCell D ⟨w.heap.size,0,none⟩ (.int .u8 (c:Int))) ⟨w.heap.size,1,none⟩ (.int .i64 0)) ⟨w.heap.size,2,none⟩ (.string noB)) ⟨w.heap.size,3,none⟩ (.slice none 0 0)) ⟨w.heap.size,4,none⟩ (.slice none 0 0))=W5 at *;refine bodyPost_ret (v:=.agg (zb_ c 0 noB (.slice none 0 0) (.slice none 0 0)).toArray) (by simp[results,results26,go_sem,Q,R,S,q3,T,zb_]) rfl ?_;rw[H.o];rw[O.o];exact zc9 (by decide) y.o (by omega) ⟨_,_,_,rfl⟩ ⟨_,_,_,rfl⟩ K rfl
theorem zpi {w:World}{bd:Nat}{s:BA}{bz n:Nat}(h:DAt w bd s bz i 0 n) (hs:s.size<=4000) (D:i<=s.size) :
 Calls prog 46 #[.pointer (some ⟨bd,0,none⟩)] w λ e w1=>∃ v,e=.returned (.int .i64 v)/\Fr w w1 (· = bd)/\(∃ j er,j<=s.size/\DAt w1 bd s bz j er n)/\
  Calls prog 47 #[.pointer (some ⟨bd,0,none⟩),.int .i64 v] w1 λ e p=>∃ key j er,e=.returned (.string key)/\Fr w1 p (· = bd)/\j<=s.size/\key.size<=4000/\DAt p bd s bz j er n/\((er=0/\x1_ s i=some (key,j))\/(er=6/\x1_ s i=none)):=by
 refine(zf2 h hs D).mono ?_;rintro e w1 ⟨A,g⟩
 cases hb:jw_ s i with
 | none=>
  rw[hb] at g;obtain⟨v,j,rfl,E,a,h1⟩:=g;refine⟨v,rfl,A,⟨j,6,a,h1⟩,(zkt h1 (by decide)).mono ?_⟩;rintro e p ⟨rfl,rfl⟩;exact⟨noB,j,6,rfl,Fr.refl _ _,a,ak_ _,h1,.inr ⟨rfl,by unfold x1_;rw[hb]⟩⟩
 | some q=>
  obtain⟨v,j⟩:=q;rw[hb] at g;obtain⟨rfl,F,G,a,h1⟩:=g;obtain⟨m,rfl⟩:∃ m:Nat,v=(m:Int):=⟨v.toNat,by omega⟩;refine⟨_,rfl,A,⟨j,0,a,h1⟩,(zf1 h1 hs a (by omega)).mono ?_⟩;rintro e p ⟨C,l⟩
  have z:x1_ s i=vt_ s j m:=by unfold x1_;rw[hb];simp only[bm_]
  cases b:vt_ s j m with
  | none=>
   rw[b] at l;obtain⟨rfl,y,x,u⟩:=l;exact⟨noB,y,6,rfl,C,x,ak_ _,u,.inr ⟨rfl,by rw[z,b]⟩⟩
  | some q=>
   obtain⟨tx,y⟩:=q;rw[b] at l;obtain⟨rfl,x,u⟩:=l;have:=zbx a b;exact⟨tx,y,0,rfl,C,x,by omega,u,.inl ⟨rfl,by rw[z,b]⟩⟩
theorem BL.datum {w W:World}{P:Nat->Prop}{bd:Nat}{s:BA}{bz j nn:Nat}{er:Int}{ts:List TR}{env:Nat->Option PB}{cx:List Value}{ct:TypeId}{b0 b1 B c:Nat}{vk vs:Value}{ks:List BA}{n:Nat}{xs:List Value}{k:Nat}
 (Q:BL w P bd s bz j nn er ts env cx ct b0 b1 B c vk vs ks n xs W) (hn:nn<=301) (x:er=0->nn<=300) (hk:isT ts k t) (hB:er=0->BdOK s env ts f t j nn) :
 Calls prog 26 #[.pointer (some ⟨bd,0,none⟩),.int .i64 (k:Int)] W λ e W'=>∃ (k:Nat) (m:Int) (tx:BA) (a:Option Addr) (l c1:Nat) (b:Option Addr) (p c2:Nat) (j' nn':Nat) (er':Int),e=.returned (.agg #[.int .u8 (k:Int),.int .i64 m,.string tx,.slice a l c1,.slice b p c2])/\BL w P bd s bz j' nn' er' ts env cx ct b0 b1 B c vk vs ks n xs W'/\Fr W W' (· = bd)/\nn'<=301/\
  H_ ((er=0/\∃ d,rdB s env f t j nn=.ok (d,j',nn')/\er'=0/\DVal W' (λ g=>B<=g/\vk.ownBlock≠some g/\vs.ownBlock≠some g) d (zb_ k m tx (.slice a l c1) (.slice b p c2)))\/(er=0/\∃ u:Nat,rdB s env f t j nn=.error u/\er'=(u:Int)/\u≠0)\/(er≠0/\er'=er)):=by
 by_cases he:er=0
 ·subst he;refine(hB rfl W P bd bz k Q.M.here (x rfl) hk).mono ?_;rintro e W' ⟨z,m,tx,F,G,rfl,⟨a,l,c1,rfl⟩,⟨b,p,c2,rfl⟩,h,y⟩;have E:=Q.bB
  cases C:rdB s env f t j nn with
  | error u=>
   rw[C] at y;obtain⟨h0,j',nn',h1,A,x⟩:=y;exact⟨z,m,tx,a,l,c1,b,p,c2,j',nn',u,rfl,Q.call x h h1,h,A,q_ (.inr (.inl ⟨rfl,u,rfl,rfl,h0⟩))⟩
  | ok q=>
   obtain⟨d,j',nn'⟩:=q;rw[C] at y;obtain⟨h1,A,x,D⟩:=y;refine⟨z,m,tx,a,l,c1,b,p,c2,j',nn',0,rfl,Q.call x h h1,h,by omega,q_ (.inl ⟨rfl,d,rfl,rfl,D.mono (λ g _ hg=>⟨by omega,λ e=>?_,λ e=>?_⟩)⟩)⟩
   ·have:=Q.kr.lt g e;omega
   ·have:=Q.vr.lt g e;omega
 ·refine(zk2 Q.M.here he hk).mono ?_;rintro e W' ⟨z,v,tx,a,l,c1,b,p,c2,rfl,h,h1⟩;exact⟨z,v,tx,a,l,c1,b,p,c2,j,nn,er,rfl,Q.call h1 h Q.M.jl,h,hn,q_ (.inr (.inr ⟨he,rfl⟩))⟩
open Go.RowKit
section
variable {w W W':World} {P:Nat->Prop} {bd:Nat} {s:BA} {bz j m b0:Nat} {er:Int} {ts:List TR} {env:Nat->Option PB} {k:Nat} {n:Int} {tx:BA} {vk vs:Value} {d:DT} {r:Except Nat (DT×Nat×Nat)}
theorem zaf (M:XBM w P bd s bz j m 0 ts env W) (u:m<=300) (hb:w.heap.size<=b0) (p:DVal W (λ g=>b0<g) d (zb_ k n tx vk vs)) (h1:∃ a m c,vk=.slice a m c) (l:∃ a m c,vs=.slice a m c) (h:Fr W W' (λ g=>g=b0)) (v:r=.ok (d,j,m)) :
 jd_ w bd s bz r (.returned (.agg (zb_ k n tx vk vs).toArray)) W':=by
 have b:=M.own (h.mono (λ _ _ e=>by omega));have q:=(p.fr h (λ g hg=>by omega)).mono (Q:=λ g=>w.heap.size<=g) (λ g _ hg=>by omega);refine⟨k,n,tx,vk,vs,rfl,h1,l,b.fr,?_⟩;subst v;exact⟨M.jl,u,b.L,q⟩
theorem vk_ {e0:Nat}(h0:e0≠0) (M:XBM w P bd s bz j m (e0:Int) ts env W) (p:m<=301) (hb:w.heap.size<=b0) (h1:∃ a m c,vk=.slice a m c) (h:∃ a m c,vs=.slice a m c) (l:Fr W W' (λ g=>g=b0)) (q:r=.error e0) :
 jd_ w bd s bz r (.returned (.agg (zb_ k n tx vk vs).toArray)) W':=by
 have b:=M.own (l.mono (λ _ _ e=>by omega));refine⟨k,n,tx,vk,vs,rfl,h1,h,b.fr,?_⟩;subst q;exact⟨h0,j,m,M.jl,p,b.L⟩
end
theorem znv {w:World}{P:Nat->Prop}{bd:Nat}{s:BA}{bz n:Nat}{er:Int}{ts:List TR}{env:Nat->Option PB}(M:XBM w P bd s bz i n er ts env w) (cx:Array Value) (ct:TypeId) (c:Nat) :
 BL w P bd s bz i n er ts env cx.toList ct (w.heap.size+1) (w.heap.size+2) (w.heap.size+3) c (.slice none 0 0) (.slice none 0 0) [] 0 [] (((w.alloc (.cells cx ct)).alloc (.cells zg_.toArray 37)).alloc (.cells (zb_ c 0 noB (.slice none 0 0) (.slice none 0 0)).toArray 37)):=by
 refine⟨((M.alloc _).alloc _).alloc _,by omega,by simp,((Blk.new w _ _).alloc _).alloc _,?_,?_,World.ownsRow_nil _ _ _ _,World.ownsRow_nil _ _ _ _,λ g hg=>by simp[Value.ownBlock] at hg⟩
 ·have:=(Blk.new (w.alloc (.cells cx ct)) zg_.toArray 37).alloc (.cells (zb_ c 0 noB (.slice none 0 0) (.slice none 0 0)).toArray 37)
  have e:(w.alloc (.cells cx ct)).heap.size=w.heap.size+1:=by simp
  rw[e] at this;exact this
 ·have:=Blk.new ((w.alloc (.cells cx ct)).alloc (.cells zg_.toArray 37)) (zb_ c 0 noB (.slice none 0 0) (.slice none 0 0)).toArray 37
  have e:((w.alloc (.cells cx ct)).alloc (.cells zg_.toArray 37)).heap.size=w.heap.size+2:=by simp
  rw[e] at this;exact this
def zb2 (acc:List (BA×DT)):Except Nat (List (BA×DT)×Nat×Nat)->Except Nat (List (BA×DT)×Nat×Nat)
 | .error e=>.error e
 | .ok (l,j,m)=>.ok (acc++l,j,m)
theorem zd3 (x:Except Nat (List (BA×DT)×Nat×Nat)):zb2 [] x=x:=by
 cases x with
 | error e=>rfl
 | ok q=>obtain⟨l,j,m⟩:=q;rfl
def zkg (R:Nat->Nat->Except Nat (DT×Nat×Nat)) (s:BA) (keyed:Bool) (c:Nat) (acc:List (BA×DT)) (k:BA) (j m:Nat):Except Nat (List (BA×DT)×Nat×Nat):=
 match R j m with
 | .error e=>.error e
 | .ok (d,j',m')=>zb2 (acc++[(k,d)]) (xk_ R s keyed c (some k) j' m')
theorem zch (R:Nat->Nat->Except Nat (DT×Nat×Nat)) (s:BA) (keyed:Bool) (c:Nat) (b:List (BA×DT)) (last:Option BA) (j m:Nat):zb2 b (xk_ R s keyed (c+1) last j m) =
 match bKey s keyed last j with
 | none=>.error 6
 | some (k,a)=>zkg R s keyed c b k a m:=by
 rw[xk_]
 cases bKey s keyed last j with
 | none=>rfl
 | some q=>
  obtain⟨k,a⟩:=q;simp only[zkg]
  cases R a m with
  | error e=>rfl
  | ok q=>
   obtain⟨d,j',g⟩:=q;simp only
   cases xk_ R s keyed c (some k) j' g with
   | error e=>rfl
   | ok q=>
    obtain⟨l,h,p⟩:=q
    simp[zb2]
def zyb (c:Nat):Except Nat (List (BA×DT)×Nat×Nat)->Except Nat (DT×Nat×Nat)
 | .error e=>.error e
 | .ok (l,j,m)=>.ok (.mk c 0 noB (v7_ (c==123) l) (l.map Prod.snd),j,m)
theorem zip (R:Nat->Nat->Except Nat (DT×Nat×Nat)) (s:BA) (c i n:Nat):zce R s c i n=match jw_ s i with|none=>.error 6|some (q,j)=>zyb c (xk_ R s (c==123) q.toNat none j n):=by
 unfold zce
 cases jw_ s i with
 | none=>rfl
 | some q=>
  obtain⟨v,j⟩:=q;simp only
  cases xk_ R s (c==123) v.toNat none j n with
  | error e=>rfl
  | ok q=>rfl
def MInv (R_:Except Nat (List (BA×DT)×Nat×Nat)) (R:Nat->Nat->Except Nat (DT×Nat×Nat)) (cnt:Nat) (w:World) (P:Nat->Prop) (bd:Nat) (s:BA) (bz n:Nat) (ts:List TR) (env:Nat->Option PB) (cx:List Value) (c:Nat) (q:Nat) (v7:Value) (W:World):Prop:=
 ∃ (kk:Nat) (vk vs:Value) (ks:List BA) (xs:List Value),v7=.int .i64 (kk:Int)/\kk<=301/\ks.length<=5000/\
  ((∃ acc j nn,kk=acc.length/\kk<=cnt/\n+kk<=nn/\nn<=300/\302<=q+nn/\H_ (BL w P bd s bz j nn 0 ts env cx 77 (w.heap.size+1) (w.heap.size+2) (w.heap.size+3) c vk vs ks kk xs W/\Dts W (w.heap.size+3) vk vs (acc.map Prod.snd) kk xs)/\ks=v7_ (c==123) acc/\R_=zb2 acc (xk_ R s (c==123) (cnt-kk) (jc_ acc) j nn))\/
   (∃ j nn nr,∃ e0:Nat,H_ (BL w P bd s bz j nn (e0:Int) ts env cx 77 (w.heap.size+1) (w.heap.size+2) (w.heap.size+3) c vk vs ks nr xs W)/\nn<=301/\e0≠0/\R_=.error e0))
theorem zrn {w:World}{P:Nat->Prop}{bd:Nat}{s:BA}{bz n:Nat}{ts:List TR}{env:Nat->Option PB}{k c:Nat}{za:Option Addr}{zn Q:Nat}(M:XBM w P bd s bz i n 0 ts env w) (hn:n<=300) (hc:c=91\/c=123) (hk:isT ts k t) (ho:w.ownsRow 0 3 1 (.slice za zn Q) 1 [.int .i64 (k:Int)]) (e2:∀ g,(Value.slice za zn Q).ownBlock=some g->P g)
 (hR:∀ j nn,n<=nn->nn<=300->j<=s.size->BdOK s env ts f t j nn) :
 Calls prog 48 #[.pointer (some ⟨bd,0,none⟩),.agg #[.int .u8 (c:Int),.slice za zn Q]] w (jd_ w bd s bz (zce (rdB s env f t) s c i n)):=by
 have f8:=M.sl;have i7:=M.jl;have k3:=M.lt;refine hq_ λ j5 U=>?_;rw[zip] at U;obtain⟨Z,k9,f9⟩:=zh_ ho (by decide);simp only[Value.slice.injEq] at f9;obtain⟨rfl,rfl,rfl⟩:=f9;have Q0:=znv M #[.int .u8 (c:Int),.slice (some ⟨Z,0,none⟩) 1 Q] 77 c;have J:=zf2 Q0.M.L f8 i7
 have hz:∀ (W:World) (j nn:Nat) (er:Int) (b0 b1 B:Nat) (vk vs:Value) (ks:List BA) (q:Nat) (xs:List Value),BL w P bd s bz j nn er ts env [.int .u8 (c:Int),.slice (some ⟨Z,0,none⟩) 1 Q] 77 b0 b1 B c vk vs ks q xs W->W.cell? ⟨Z,0,none⟩=some (.int .i64 (k:Int))/\W.cell? ⟨w.heap.size,0,none⟩=some (.int .u8 (c:Int))/\W.cell? ⟨w.heap.size,1,none⟩=some (.slice (some ⟨Z,0,none⟩) 1 Q):=by
  intro W j nn er b0 b1 B vk vs ks q xs a;have h1:=zp_ (za_ ho a.M.fr (λ g e h=>M.nP (h▸e2 g e))) rfl (show[Value.int .i64 (k:Int)][0]?=some (.int .i64 (k:Int)) from rfl);exact⟨h1,by rw[a.rx.cell 0];rfl,by rw[a.rx.cell 1];rfl⟩
 replace Q0:=q_ Q0;replace hz:=q_ hz;replace ho:=q_ ho;replace e2:=q_ e2;replace hR:=q_ hR;replace hk:=q_ hk;replace M:=q_ M
 cases hb:jw_ s i with
 | none=>
  rw[hb] at J U;replace J:=q_ J;clear hc hb
  go_in
  go_wp2_with (go_at_call 46;refine J.o.mono ?_;rintro e w1 ⟨y,v,j,rfl,hv,hj,h1⟩;have p:=q_ (Q0.o.call h1 y hj);clear y h1)
  go_loopg [7,8,9] 0 (λ _ v7 v8 v9 W=>v7=.int .i64 0/\w1=W)
  case atStart=>exact⟨rfl,rfl⟩
  case round=>
   obtain⟨rfl,j4⟩:=hrel;subst j4
   have k4:¬ (0:Int)<v:=by omega
   have r0:=p.o.r0.cell 0;have r1:=p.o.r0.cell 1;have r2:=p.o.r0.cell 2;have r3:=p.o.r0.cell 3;have r4:=p.o.r0.cell 4;have t0:=p.o.r1.cell 0;have t1:=p.o.r1.cell 1;have t2:=p.o.r1.cell 2;have t3:=p.o.r1.cell 3;have t4:=p.o.r1.cell 4;obtain⟨g0,g1,g2,g3,g4⟩:=p.o.r0.t5;simp only[zg_,zb_,aa_,ab_,af_] at r0 r1 r2 r3 r4 t0 t1 t2 t3 t4
   go_wp2_with fail
   have L5:=Blk.five p.o.r0 (.int .u8 (c:Int)) (.int .i64 0) (.string noB) (.slice none 0 0) (.slice none 0 0);obtain⟨q0,q1,q2,q3,q4⟩:=L5.d5;have hF:=Fr.five w1 (w.heap.size+1) (.int .u8 (c:Int)) (.int .i64 0) (.string noB) (.slice none 0 0) (.slice none 0 0);generalize (World.setCell (World.setCell (World.setCell (World.setCell (World.setCell w1 ⟨w.heap.size+1,0,none⟩ (.int .u8 (c:Int))) ⟨w.heap.size+1,1,none⟩ (.int .i64 0)) ⟨w.heap.size+1,2,none⟩ (.string noB)) ⟨w.heap.size+1,3,none⟩ (.slice none 0 0)) ⟨w.heap.size+1,4,none⟩ (.slice none 0 0))=W5 at *;refine bodyPost_ret (v:=.agg (zb_ c 0 noB (.slice none 0 0) (.slice none 0 0)).toArray) (by simp[results,results48,go_sem,q0,q1,q2,q3,q4,zb_]) rfl ?_;rw[U.o];exact vk_ (e0:=6) (by decide) p.o.M (by omega) (by omega) ⟨_,_,_,rfl⟩ ⟨_,_,_,rfl⟩ hF rfl
 | some q=>
  obtain⟨v,j0⟩:=q;have hg:=y2_ hb;rw[hb] at J U;obtain⟨F,rfl⟩:∃ m:Nat,v=(m:Int):=⟨v.toNat,by omega⟩;simp only[bm_] at U;obtain⟨R_,a7⟩:∃ r,r=xk_ (rdB s env f t) s (c==123) F none j0 n:=⟨_,rfl⟩;rw[<- a7] at U;obtain⟨R,a8⟩:∃ R,R=rdB s env f t:=⟨_,rfl⟩;rw[<- a8] at a7;replace a8:=q_ a8;replace J:=q_ J;have g8:H_ (∀ w1,DAt w1 bd s bz j0 0 n->Fr _ w1 (· = bd)->MInv R_ R F w P bd s bz n ts env [.int .u8 (c:Int),.slice (some ⟨Z,0,none⟩) 1 Q] c 302 (.int .i64 0) w1):=q_ (λ w1 h1 y=>⟨0,_,_,[],[],rfl,by omega,by simp,.inl ⟨[],j0,n,rfl,by omega,by omega,hn,by omega,q_ ⟨Q0.o.call h1 y hg.2.1,Dts.nil _ _ _ _⟩,by simp[v7_],by rw[zd3,a7];rfl⟩⟩);replace a7:=q_ a7;have j8:(F:Int)<=9223372036854775807:=hg.2.2.2.1;clear hb
  go_in
  go_wp2_with (go_at_call 46;refine J.o.mono ?_;rintro e w1 ⟨y,rfl,k5,k6,hj,h1⟩;have g9:=q_ (g8.o w1 h1 y);clear y h1)
  go_loopg [7,8,9] 302 (λ q v7 v8 v9 W=>MInv R_ R F w P bd s bz n ts env [.int .u8 (c:Int),.slice (some ⟨Z,0,none⟩) 1 Q] c q v7 W)
  case atStart=>exact g9.o
  case round=>
   clear g8 g9 J Q0;obtain⟨l,vk,vs,ks,xs,rfl,k1,i9,h5⟩:=hrel
   rcases h5 with⟨z,j,nn,a5,k0,f2,d2,hq,e6,H,u⟩|⟨j,nn,nr,e0,hQ,f2,d7,u⟩
   ·obtain⟨a,D⟩:=e6.o;clear e6;obtain⟨O,A,rfl⟩:=zo_ a.kr;obtain⟨C,E,rfl⟩:=zo_ a.vr;have c2:=a.M.L.c2;have i8:=a.M.jl
    by_cases i1:l=F
    ·have e9:¬ (l:Int)<(F:Int):=by omega
     have hr:=q_ (show R_=.ok (z,j,nn) by rw[u,show F-l=0 by omega];simp[xk_,zb2]);have r0:=a.r0.cell 0;have r1:=a.r0.cell 1;have r2:=a.r0.cell 2;have r3:=a.r0.cell 3;have r4:=a.r0.cell 4;have t0:=a.r1.cell 0;have t1:=a.r1.cell 1;have t2:=a.r1.cell 2;have t3:=a.r1.cell 3;have t4:=a.r1.cell 4;obtain⟨g0,g1,g2,g3,g4⟩:=a.r0.t5;simp only[zg_,zb_,aa_,ab_,af_] at r0 r1 r2 r3 r4 t0 t1 t2 t3 t4;replace a:=q_ a;replace D:=q_ D;replace H:=q_ H;replace a5:=q_ a5;clear u i1
     go_wp2_with fail
     have L5:=Blk.five a.o.r0 (.int .u8 (c:Int)) (.int .i64 0) (.string noB) (.slice O ks.length A) (.slice C l E);obtain⟨q0,q1,q2,q3,q4⟩:=L5.d5;have hF:=Fr.five wr (w.heap.size+1) (.int .u8 (c:Int)) (.int .i64 0) (.string noB) (.slice O ks.length A) (.slice C l E);generalize (World.setCell (World.setCell (World.setCell (World.setCell (World.setCell wr ⟨w.heap.size+1,0,none⟩ (.int .u8 (c:Int))) ⟨w.heap.size+1,1,none⟩ (.int .i64 0)) ⟨w.heap.size+1,2,none⟩ (.string noB)) ⟨w.heap.size+1,3,none⟩ (.slice O ks.length A)) ⟨w.heap.size+1,4,none⟩ (.slice C l E))=W5 at *;refine bodyPost_ret (v:=.agg (zb_ c 0 noB (.slice O ks.length A) (.slice C l E)).toArray) (by simp[results,results48,go_sem,q0,q1,q2,q3,q4,zb_]) rfl ?_;rw[U.o];rw[hr.o];exact zaf a.o.M d2 (by omega) ((a.o.dval D.o c).mono (λ g _ hg=>by omega)) ⟨_,_,_,rfl⟩ ⟨_,_,_,rfl⟩ hF (by unfold zyb;rw[H.o])
    ·have e9:(l:Int)<(F:Int):=by omega
     obtain⟨cn,h9⟩:∃ cn,F-l=cn+1:=⟨F-l-1,by omega⟩;rw[h9,zch] at u;obtain⟨z1,z2,z3⟩:=hz.o _ _ _ _ _ _ _ _ _ _ _ _ a;replace a:=q_ a;replace D:=q_ D;replace H:=q_ H;replace a5:=q_ a5;replace u:=q_ u
     go_upto_if 30 with fail
     go_cut [] (λ W=>∃ j' er' g6 g7 b4 key,BL w P bd s bz j' nn er' ts env [.int .u8 (c:Int),.slice (some ⟨Z,0,none⟩) 1 Q] 77 (w.heap.size+1) (w.heap.size+2) (w.heap.size+3) c (.slice g6 b4.length g7) (.slice C l E) b4 l xs W/\Dts W (w.heap.size+3) (.slice g6 b4.length g7) (.slice C l E) (z.map Prod.snd) l xs/\b4.length<=5000/\H_ ((er'=0/\(∀ d,b4=v7_ (c==123) (z++[(key,d)]))/\R_=zkg R s (c==123) cn z key j' nn)\/(er'=6/\R_=.error 6)))
     case first=>
      rcases hc with rfl|rfl
      ·go_wp2_with fail
       go_meet
       case rel=>exact⟨j,0,O,A,ks,noB,a.o,D.o,i9,q_ (.inl ⟨rfl,λ d=>by rw[H.o];rfl,by rw[u.o];simp[bKey]⟩)⟩
      ·obtain⟨si,f3,f4,f6,f7⟩:=info_parts zyw;have hS:=q_ (zpi a.o.M.L f8 i8)
       have d1:ks.length=l:=by rw[H.o,a5.o];simp[v7_]
       have j7:=a.o.bB
       rcases List.eq_nil_or_concat ks with S|⟨q,kl,S⟩
       ·have d0:=q_ ((zbq H.o).1 S)
        obtain rfl:l=0:=by rw[<- d1,S];rfl
        have j2:=q_ d1;clear d1 S
        go_wp2_with (first
         |(go_at_call 46;refine hS.o.mono ?_;rintro e w1 ⟨v,rfl,y,⟨j1,h3,d8,h1⟩,V⟩;have p:=q_ (a.o.call h1 y d8);have D1:=q_ (a.o.dts D.o y);replace V:=q_ V;clear y h1)
         |(go_at_call 47;refine V.o.mono ?_;rintro e w2 ⟨key,Y,b8,rfl,F2,a3,hx,h2,G⟩;have b:=p.o.call h2 F2 a3;have x:=p.o.dts D1.o F2;have b9:=b.bB;have a4:=b.r1.cell 3;simp only[zb_,aa_,ab_] at a4;replace b:=q_ b;replace x:=q_ x;replace G:=q_ G;clear F2 h2)
         |(at_builtin;go_must (refine wpList_append_own_at _ rfl _ _ 34 rfl (w.heap.size+3) 9 si _ 1 16 zm1 f3 f4 f6 f7 rfl (by decide) (.slice O ks.length A) ks.length (ks.map Value.string) rfl ?hown _ 1 1 [.string key] rfl rfl (z7_ _ #[.string key] _ _ ?nn) ?one ?b1 ?b2 ?b3 ?_)
           case hown=>exact World.ownsRow.alloc b.o.kr _
           case nn=>simp
           case one=>simp[Value.oneCell']
           case b1=>unfold maxLen;omega
           case b2=>omega
           case b3=>simp;omega
           intro v5 w5 N K a9 X
           have I:=b.o.key K N X
           obtain⟨e5,f5⟩:=b.o.keyCell K
           obtain⟨g5,b6,rfl⟩:=zh_ N (by omega)
           clear K X a9 N
           replace I:=q_ I))
        go_meet
        case rel=>
         obtain⟨Q5,a6⟩:=I.o
         have el:(ks++[key]).length=ks.length+1:=by simp
         refine⟨Y,b8,some ⟨g5,0,none⟩,b6,ks++[key],key,by rw[el];exact Q5,by rw[el];exact a6 _ x.o,by have:=j2.o;omega,?_⟩
         rcases G.o with⟨rfl,hb⟩|⟨rfl,hb⟩
         ·exact q_ (.inl ⟨rfl,λ d=>by rw[H.o];simp[v7_],by
           have d9:bKey s true (jc_ z) j=some (key,Y):=by unfold bKey;rw[if_pos rfl,hb];rw[d0.o];simp[zgo]
           rw[u.o]
           show(match bKey s true (jc_ z) j with|none=>_|some (k,j1)=>_)=_
           rw[d9]⟩)
         ·exact q_ (.inr ⟨rfl,by
           have d9:bKey s true (jc_ z) j=none:=by unfold bKey;rw[if_pos rfl,hb]
           rw[u.o]
           show(match bKey s true (jc_ z) j with|none=>_|some (k,j1)=>_)=_
           rw[d9]⟩)
       ·have d0:=q_ ((zbq H.o).2 q kl (by simpa using S))
        have hm:ks.length=q.length+1:=by rw[S];simp
        obtain rfl:l=q.length+1:=by omega
        have h8:=q_ (show(ks.map Value.string)[q.length]?=some (.string kl) by rw[S];simp);obtain⟨gk,ck,e7⟩:=zh_ a.o.kr (by omega);simp only[Value.slice.injEq,true_and] at e7;obtain⟨rfl,rfl⟩:=e7;replace S:=q_ S;have f0:H_ (ks.length=q.length+1):=q_ hm;have h7:=q_ (λ (W:World) (j n:Nat) (er:Int) (h:DAt W bd s bz j er n)=>x7_ (e0:=6) h);clear hm d1
        go_upto_if 47 with(first
         |(go_at_call 46;refine hS.o.mono ?_;rintro e w1 ⟨v,rfl,y,⟨j1,h3,d8,h1⟩,V⟩;have p:=q_ (a.o.call h1 y d8);have D1:=q_ (a.o.dts D.o y);replace V:=q_ V;clear y h1)
         |(go_at_call 47;refine V.o.mono ?_;rintro e w2 ⟨key,Y,b8,rfl,F2,a3,hx,h2,G⟩;have b:=p.o.call h2 F2 a3;have x:=p.o.dts D1.o F2;have b9:=b.bB;have a4:=b.r1.cell 3;simp only[zb_,aa_,ab_] at a4;rw[f0.o] at a4;have k2:=zp_ b.kr rfl h8.o;replace b:=q_ b;replace x:=q_ x;replace G:=q_ G;clear F2 h2))
        go_cut [9] (λ v W=>∃ key j' er',v=.string key/\BL w P bd s bz j' nn er' ts env [.int .u8 (123:Int),.slice (some ⟨Z,0,none⟩) 1 Q] 77 (w.heap.size+1) (w.heap.size+2) (w.heap.size+3) 123 (.slice (some ⟨gk,0,none⟩) ks.length A) (.slice C (q.length+1) E) ks (q.length+1) xs W/\Dts W (w.heap.size+3) (.slice (some ⟨gk,0,none⟩) ks.length A) (.slice C (q.length+1) E) (z.map Prod.snd) (q.length+1) xs/\key.size<=4000/\H_ ((er'=0/\bKey s true (jc_ z) j=some (key,j'))\/(er'=6/\bKey s true (jc_ z) j=none)))
        case first=>
         cases hb:Op.bytesLess kl.toList key.toList
         ·go_wp2_with (go_at_call 43;refine(h7.o _ _ _ _ b.o.M.L).mono ?_;rintro e w4 ⟨rfl,h4,F4⟩;have T:=q_ (b.o.call h4 F4 a3);have D4:=q_ (b.o.dts x.o F4);clear h4 F4)
          go_meet
          case rel=>
           refine⟨key,Y,_,rfl,T.o,D4.o,hx,q_ (.inr ⟨?_,?_⟩)⟩
           ·rcases G.o with⟨rfl,_⟩|⟨rfl,_⟩<;>rfl
           ·unfold bKey;rw[if_pos rfl]
            rcases G.o with⟨rfl,a0⟩|⟨rfl,a0⟩
            ·rw[a0];simp only;rw[if_neg (by rw[d0.o];show ¬ (Op.bytesLess kl.toList key.toList=true);rw[hb];decide)]
            ·rw[a0]
         ·go_wp2_with fail
          go_meet
          case rel=>
           refine⟨key,Y,b8,rfl,b.o,x.o,hx,q_ ?_⟩;unfold bKey;rw[if_pos rfl]
           rcases G.o with⟨rfl,a0⟩|⟨rfl,a0⟩
           ·refine .inl ⟨rfl,?_⟩;rw[a0];simp only;rw[if_pos (by rw[d0.o];exact hb)]
           ·exact .inr ⟨rfl,by rw[a0]⟩
        case rest=>
         clear a4 b x b9 G hS V;obtain⟨key,j3,e4,rfl,b,x,hx,G⟩:=hcut;have b9:=b.bB;have a4:=b.r1.cell 3;simp only[zb_,aa_,ab_] at a4;replace b:=q_ b;replace x:=q_ x
         go_wp2_with (first
          |(at_builtin;go_must (refine wpList_append_own_at _ rfl _ _ 34 rfl (w.heap.size+3) 9 si _ 1 16 zm1 f3 f4 f6 f7 rfl (by decide) (.slice (some ⟨gk,0,none⟩) ks.length A) ks.length (ks.map Value.string) rfl ?hown _ 1 1 [.string key] rfl rfl (z7_ _ #[.string key] _ _ ?nn) ?one ?b1 ?b2 ?b3 ?_)
            case hown=>exact World.ownsRow.alloc b.o.kr _
            case nn=>simp
            case one=>simp[Value.oneCell']
            case b1=>unfold maxLen;omega
            case b2=>omega
            case b3=>simp;omega
            intro v5 w5 N K a9 X
            have I:=b.o.key K N X
            obtain⟨e5,f5⟩:=b.o.keyCell K
            obtain⟨g5,b6,rfl⟩:=zh_ N (by omega)
            clear K X a9 N
            replace I:=q_ I))
         go_meet
         case rel=>
          obtain⟨Q5,a6⟩:=I.o
          have el:(ks++[key]).length=ks.length+1:=by simp
          refine⟨j3,e4,some ⟨g5,0,none⟩,b6,ks++[key],key,by rw[el];exact Q5,by rw[el];exact a6 _ x.o,by have:=f0.o;omega,?_⟩
          rcases G.o with⟨rfl,hb⟩|⟨rfl,hb⟩
          ·exact q_ (.inl ⟨rfl,λ d=>by rw[H.o];simp[v7_],by rw[u.o];show(match bKey s true (jc_ z) j with|none=>_|some (k,j1)=>_)=_;rw[hb]⟩)
          ·exact q_ (.inr ⟨rfl,by rw[u.o];show(match bKey s true (jc_ z) j with|none=>_|some (k,j1)=>_)=_;rw[hb]⟩)
     case rest=>
      clear a D c2 z1 z2 z3;obtain⟨Y,b8,k7,k8,e3,key,Q2,D2,e1,o2⟩:=hcut;obtain⟨z1,z2,z3⟩:=hz.o _ _ _ _ _ _ _ _ _ _ _ _ Q2;obtain⟨ti,i3,i4,i5,i6⟩:=info_parts zif;have a3:=Q2.M.jl;have J:=q_ (Q2.datum (f:=f) (by omega) (λ _=>d2) hk.o (λ _=>hR.o Y nn (by omega) d2 a3));have j6:=Q2.bB;replace Q2:=q_ Q2;replace D2:=q_ D2;clear H u
      go_wp2_with (first
       |(go_at_call 26;refine J.o.mono ?_;rintro e w3 ⟨dk,dm,b7,a1,m1,c1,a2,m2,c2,j3,b5,e4,rfl,b,F3,f1,hJ⟩;have x:=Q2.o.dts D2.o F3;have T:=b.alloc (.cells (zb_ dk dm b7 (.slice a1 m1 c1) (.slice a2 m2 c2)).toArray 37);have D4:=x.alloc (.cells (zb_ dk dm b7 (.slice a1 m1 c1) (.slice a2 m2 c2)).toArray 37);have t4:=T.r1.cell 4;simp only[zb_,aa_,ab_] at t4;have b9:=b.bB;replace b:=q_ b;replace x:=q_ x;replace T:=q_ T;replace D4:=q_ D4)
       |(at_builtin;go_must (refine wpList_append_own_at _ rfl _ _ 35 rfl (w.heap.size+3) 37 ti _ 5 80 zhm i3 i4 i5 i6 rfl (by decide) (.slice C l E) l xs rfl ?hown _ 1 1 (zb_ dk dm b7 (.slice a1 m1 c1) (.slice a2 m2 c2)) rfl rfl (z7_ _ (zb_ dk dm b7 (.slice a1 m1 c1) (.slice a2 m2 c2)).toArray _ _ ?nn) ?one ?b1 ?b2 ?b3 ?_)
         case hown=>exact World.ownsRow.alloc T.o.vr _
         case nn=>simp
         case one=>simp[zb_,Value.oneCell']
         case b1=>unfold maxLen;omega
         case b2=>omega
         case b3=>simp;omega
         intro v5 w5 N K a9 X
         have I:=T.o.item K N X
         obtain⟨e5,f5⟩:=T.o.itemCell K
         obtain⟨g5,b6,rfl⟩:=zh_ N (by omega)
         clear K X a9 N
         replace I:=q_ I))
      obtain⟨Q5,a6⟩:=I.o
      rcases hJ.o with⟨he,d,d6,rfl,i0⟩|⟨he,e0,d6,rfl,d7⟩|⟨he,rfl⟩
      ·subst he
       rcases o2.o with⟨_,e8,u⟩|⟨h6,_⟩
       ·have D5:=a6 _ d D4.o (i0.fr ((Fr.refl w3 (λ _=>False)).alloc _) u_);have i2:=j0_ s env f t Y nn d j3 b5 a3 d2 d6
        go_roundg (302-b5)
        case measure=>omega
        case rel=>
         refine⟨l+1,_,_,e3,_,by simp,by omega,e1,.inl ⟨z++[(key,d)],j3,b5,by rw[ah_,am_,<- a5.o],by omega,by omega,i2.2.2.2,by omega,q_ ⟨Q5,by rw[be_];exact D5⟩,e8 d,?_⟩⟩;rw[u,zkg,a8.o,d6,show F-(l+1)=cn by omega]
         have:jc_ (z++[(key,d)])=some key:=by simp[jc_]
         rw[this]
       ·cases h6
      ·subst he
       rcases o2.o with⟨_,e8,u⟩|⟨h6,_⟩
       ·go_roundg 0
        case measure=>omega
        case rel=>exact⟨l+1,_,_,e3,_,by simp,by omega,e1,.inr ⟨j3,b5,l+1,e0,q_ Q5,f1,d7,by rw[u,zkg,a8.o,d6]⟩⟩
       ·cases h6
      ·rcases o2.o with⟨h0,_⟩|⟨rfl,u⟩
       ·exact absurd h0 he
       ·go_roundg 0
        case measure=>omega
        case rel=>exact⟨l+1,_,_,e3,_,by simp,by omega,e1,.inr ⟨j3,b5,l+1,6,q_ Q5,f1,by decide,u⟩⟩
   ·have a:=hQ.o;obtain⟨O,A,rfl⟩:=zo_ a.kr;obtain⟨C,E,rfl⟩:=zo_ a.vr;have c2:=a.M.L.c2
    have j9:((e0:Int)==0)=false:=by simp;omega
    have r0:=a.r0.cell 0;have r1:=a.r0.cell 1;have r2:=a.r0.cell 2;have r3:=a.r0.cell 3;have r4:=a.r0.cell 4;have t0:=a.r1.cell 0;have t1:=a.r1.cell 1;have t2:=a.r1.cell 2;have t3:=a.r1.cell 3;have t4:=a.r1.cell 4;obtain⟨g0,g1,g2,g3,g4⟩:=a.r0.t5;simp only[zg_,zb_,aa_,ab_,af_] at r0 r1 r2 r3 r4 t0 t1 t2 t3 t4;clear a
    by_cases e9:(l:Int)<(F:Int)
    all_goals
     go_wp2_with fail
     have L5:=Blk.five hQ.o.r0 (.int .u8 (c:Int)) (.int .i64 0) (.string noB) (.slice O ks.length A) (.slice C nr E);obtain⟨q0,q1,q2,q3,q4⟩:=L5.d5;have hF:=Fr.five wr (w.heap.size+1) (.int .u8 (c:Int)) (.int .i64 0) (.string noB) (.slice O ks.length A) (.slice C nr E);generalize (World.setCell (World.setCell (World.setCell (World.setCell (World.setCell wr ⟨w.heap.size+1,0,none⟩ (.int .u8 (c:Int))) ⟨w.heap.size+1,1,none⟩ (.int .i64 0)) ⟨w.heap.size+1,2,none⟩ (.string noB)) ⟨w.heap.size+1,3,none⟩ (.slice O ks.length A)) ⟨w.heap.size+1,4,none⟩ (.slice C nr E))=W5 at *;refine bodyPost_ret (v:=.agg (zb_ c 0 noB (.slice O ks.length A) (.slice C nr E)).toArray) (by simp[results,results48,go_sem,q0,q1,q2,q3,q4,zb_]) rfl ?_;rw[U.o];rw[u];exact vk_ d7 hQ.o.M f2 (by omega) ⟨_,_,_,rfl⟩ ⟨_,_,_,rfl⟩ hF rfl
open Go.RowKit
def NbOK (s:BA) (env:Nat->Option PB) (ts:List TR) (f:Nat) (pb:PB) (i n:Nat):Prop:=
 ∀ (w:World) (P:Nat->Prop) (bd bz:Nat) (so:Int) (fv:Value) (sb:BA) (o z:Int),XBM w P bd s bz i n 0 ts env w->n<=300->zci w P ts pb so fv sb z->
  Calls prog 49 #[.pointer (some ⟨bd,0,none⟩),.agg #[.int .u8 so,fv,.string sb,.int .i64 o,.int .i64 z]] w (jd_ w bd s bz (xa_ (rdB s env f) s pb i n))
theorem zym {w:World}{P:Nat->Prop}{bd:Nat}{s:BA}{bz n:Nat}{er:Int}{ts:List TR}{env:Nat->Option PB}(M:XBM w P bd s bz i n er ts env w) (c:Nat) (fv:Value) (sb:BA) (o z:Int):XBM w P bd s bz i n er ts env (nw w c fv sb o z):=((M.alloc _).alloc _).alloc _
theorem zt8 {s:BA}{env:Nat->Option PB}{ts:List TR}{n:Nat}{m:Nat}(hm:m<=9):NbOK s env ts f (.bytes m) i n:=by
 intro w P bd bz so fv sb o z M hn H;obtain⟨⟨A,D,C,rfl⟩,a0,rfl,H⟩:=H;refine hq_ λ a3 Q_=>?_;have a4:=M.lt;have a1:=M.jl;have a2:=M.sl;have F:=q_ (zym M 102 (.slice A D C) sb o z);have Z:=q_ (nw_0 w 102 (.slice A D C) sb o z);have B1:=q_ (nw_1 w 102 (.slice A D C) sb o z);have B2:=q_ (nw_2 w 102 (.slice A D C) sb o z);replace M:=q_ M;replace a0:=q_ a0;subst H;have h:=zf1 (m:=m) F.o.L a2 a1 (by omega)
 cases hb:vt_ s i m with
 | none=>
  rw[hb] at h;have J:=q_ (show xa_ (rdB s env f) s (.bytes m) i n=.error 6 by unfold xa_;simp only;rw[hb]);replace h:=q_ h;clear hb
  go_in
  go_wp2_with (go_at_call 47;refine h.o.mono ?_;rintro e w1 ⟨b,rfl,j,I,h1⟩;have u:=F.o.call h1 b I;have l:=b.blk Z.o (by omega);have p:=b.blk B1.o (by omega);have g:=b.blk B2.o (by omega);have K:=g.cell 2;have p2:=g.thaw 2;simp only[zb_,aa_,ab_] at K;have x:=u.put ⟨w.heap.size+1+1,2,none⟩ (.string noB) (by simp;omega);have E2:=Blk.set g 2 (.string noB);have E1:=Blk.other p (a:=⟨w.heap.size+2,2,none⟩) (.string noB) (by simp);have y:=Blk.other l (a:=⟨w.heap.size+2,2,none⟩) (.string noB) (by simp);have r0:=E1.cell 0;have r1:=E1.cell 1;have S:=E1.cell 2;have T:=E1.cell 3;have U:=E1.cell 4;have V:=E2.cell 0;have X:=E2.cell 1;have Y:=E2.cell 2;have t3:=E2.cell 3;have t4:=E2.cell 4;obtain⟨g0,g1,g2,g3,g4⟩:=E1.t5;simp only[zg_,zb_,aa_,ab_,aj_,al_,af_] at r0 r1 S T U V X Y t3 t4;replace u:=q_ u;replace x:=q_ x;replace l:=q_ l;replace p:=q_ p;replace g:=q_ g;replace y:=q_ y;replace E1:=q_ E1;replace E2:=q_ E2;replace b:=q_ b)
  have E:=Blk.five E1.o (.int .u8 102) (.int .i64 0) (.string noB) (.slice none 0 0) (.slice none 0 0);obtain⟨N,O,Q,q3,R⟩:=E.d5;have G:=Fr.five (w1.setCell ⟨w.heap.size+1+1,2,none⟩ (.string noB)) (w.heap.size+1) (.int .u8 102) (.int .i64 0) (.string noB) (.slice none 0 0) (.slice none 0 0);generalize (World.setCell (World.setCell (World.setCell (World.setCell (World.setCell (w1.setCell ⟨w.heap.size+1+1,2,none⟩ (.string noB)) ⟨w.heap.size+1,0,none⟩ (.int .u8 102)) ⟨w.heap.size+1,1,none⟩ (.int .i64 0)) ⟨w.heap.size+1,2,none⟩ (.string noB)) ⟨w.heap.size+1,3,none⟩ (.slice none 0 0)) ⟨w.heap.size+1,4,none⟩ (.slice none 0 0))=W5 at *;refine bodyPost_ret (v:=.agg (zb_ 102 0 noB (.slice none 0 0) (.slice none 0 0)).toArray) (by simp[results,results49,go_sem,N,O,Q,q3,R,zb_]) rfl ?_;rw[Q_.o];rw[J.o];exact vk_ (e0:=6) (by decide) x.o (by omega) (by omega) ⟨_,_,_,rfl⟩ ⟨_,_,_,rfl⟩ G rfl
 | some q=>
  obtain⟨tx,j⟩:=q;rw[hb] at h;have J:=q_ (show xa_ (rdB s env f) s (.bytes m) i n=.ok (.mk 102 0 tx [] [],j,n) by unfold xa_;simp only;rw[hb]);replace h:=q_ h;clear hb
  go_in
  go_wp2_with (go_at_call 47;refine h.o.mono ?_;rintro e w1 ⟨b,rfl,I,h1⟩;have u:=F.o.call h1 b I;have l:=b.blk Z.o (by omega);have p:=b.blk B1.o (by omega);have g:=b.blk B2.o (by omega);have K:=g.cell 2;have p2:=g.thaw 2;simp only[zb_,aa_,ab_] at K;have x:=u.put ⟨w.heap.size+1+1,2,none⟩ (.string tx) (by simp;omega);have E2:=Blk.set g 2 (.string tx);have E1:=Blk.other p (a:=⟨w.heap.size+2,2,none⟩) (.string tx) (by simp);have y:=Blk.other l (a:=⟨w.heap.size+2,2,none⟩) (.string tx) (by simp);have r0:=E1.cell 0;have r1:=E1.cell 1;have S:=E1.cell 2;have T:=E1.cell 3;have U:=E1.cell 4;have V:=E2.cell 0;have X:=E2.cell 1;have Y:=E2.cell 2;have t3:=E2.cell 3;have t4:=E2.cell 4;obtain⟨g0,g1,g2,g3,g4⟩:=E1.t5;simp only[zg_,zb_,aa_,ab_,aj_,al_,af_] at r0 r1 S T U V X Y t3 t4;replace u:=q_ u;replace x:=q_ x;replace l:=q_ l;replace p:=q_ p;replace g:=q_ g;replace y:=q_ y;replace E1:=q_ E1;replace E2:=q_ E2;replace b:=q_ b)
  have E:=Blk.five E1.o (.int .u8 102) (.int .i64 0) (.string tx) (.slice none 0 0) (.slice none 0 0);obtain⟨N,O,Q,q3,R⟩:=E.d5;have G:=Fr.five (w1.setCell ⟨w.heap.size+1+1,2,none⟩ (.string tx)) (w.heap.size+1) (.int .u8 102) (.int .i64 0) (.string tx) (.slice none 0 0) (.slice none 0 0);generalize (World.setCell (World.setCell (World.setCell (World.setCell (World.setCell (w1.setCell ⟨w.heap.size+1+1,2,none⟩ (.string tx)) ⟨w.heap.size+1,0,none⟩ (.int .u8 102)) ⟨w.heap.size+1,1,none⟩ (.int .i64 0)) ⟨w.heap.size+1,2,none⟩ (.string tx)) ⟨w.heap.size+1,3,none⟩ (.slice none 0 0)) ⟨w.heap.size+1,4,none⟩ (.slice none 0 0))=W5 at *;refine bodyPost_ret (v:=.agg (zb_ 102 0 tx (.slice none 0 0) (.slice none 0 0)).toArray) (by simp[results,results49,go_sem,N,O,Q,q3,R,zb_]) rfl ?_;rw[Q_.o];rw[J.o];exact zaf x.o hn (by omega) (DVal.bare _ _ 102 0 tx) ⟨_,_,_,rfl⟩ ⟨_,_,_,rfl⟩ G rfl
theorem zws {s:BA}{env:Nat->Option PB}{ts:List TR}{n:Nat}{l:List (Nat×Nat)}{a1:Option (Nat×Nat)}(b5:l.length<=300):NbOK s env ts f (.enum l a1) i n:=by
 intro w P bd bz so fv sb o z M hn hN;obtain⟨⟨fa,fn,fc,rfl⟩,a3,rfl,hN⟩:=hN;refine hq_ λ a9 Q_=>?_;have b4:=M.lt;have a4:=M.jl;have a5:=M.sl;have M0:=q_ (zym M 101 (.slice fa fn fc) sb o z);have B0:=q_ (nw_0 w 101 (.slice fa fn fc) sb o z);have B1:=q_ (nw_1 w 101 (.slice fa fn fc) sb o z);have B2:=q_ (nw_2 w 101 (.slice fa fn fc) sb o z);replace M:=q_ M;replace a3:=q_ a3;have a2:=q_ (λ (W:World) (j n:Nat) (er:Int) (h:DAt W bd s bz j er n)=>x7_ (e0:=6) h)
 have a0:sb.size=l.length:=by
  have:=congrArg List.length hN;rw[bf_,bf_] at this
  have e:sb.size=sb.data.toList.length:=by rw[Array.length_toList];rfl
  omega
 have b6:sb.size<=300:=by omega
 replace a0:=q_ a0;clear hN;have E:=jp_ M0.o.L a5 a4
 cases hb:bL s i with
 | none=>
  rw[hb] at E;have Z:=q_ (show xa_ (rdB s env f) s (.enum l a1) i n=.error 6 by unfold xa_ bNum;simp only;rw[hb]);replace E:=q_ E;clear hb
  by_cases hz:sb.size=0
  ·have a8:(0:Int)≥(sb.size:Int):=by omega
   go_in
   go_wp2_with (first
    |(go_at_call 45;refine E.o.mono ?_;rintro e w1 ⟨b,rfl,j,K,h1⟩;have D:=M0.o.call h1 b K;have x:=b.blk B0.o (by omega);have y:=b.blk B1.o (by omega);have g:=b.blk B2.o (by omega);have N:=g.cell 1;have p2:=g.thaw 1;simp only[zb_,aa_,ab_] at N;have u:=D.put ⟨w.heap.size+1+1,1,none⟩ (.int .i64 0) (by simp;omega);have E2:=Blk.set g 1 (.int .i64 0);have E1:=Blk.other y (a:=⟨w.heap.size+2,1,none⟩) (.int .i64 0) (by simp);have A:=Blk.other x (a:=⟨w.heap.size+2,1,none⟩) (.int .i64 0) (by simp);have G:=E2.cell 1;have v2:=A.cell 2;simp only[zb_,aa_,ab_,aj_,al_,af_] at G v2;replace D:=q_ D;replace u:=q_ u;replace x:=q_ x;replace y:=q_ y;replace g:=q_ g;replace A:=q_ A;replace E1:=q_ E1;replace E2:=q_ E2;replace b:=q_ b)
    |(go_at_call 43;refine(a2.o _ _ _ _ u.o.L).mono ?_;rintro e w2 ⟨rfl,h2,F⟩;have I:=u.o.call h2 F u.o.jl;have p:=F.blk E1.o (by omega);have C:=F.blk E2.o (by omega);have r0:=p.cell 0;have r1:=p.cell 1;have T:=p.cell 2;have U:=p.cell 3;have V:=p.cell 4;have X:=C.cell 0;have G:=C.cell 1;have Y:=C.cell 2;have t3:=C.cell 3;have t4:=C.cell 4;obtain⟨g0,g1,g2,g3,g4⟩:=p.t5;simp only[zg_,zb_,aa_,ab_,aj_,al_,af_] at r0 r1 T U V X G Y t3 t4;replace I:=q_ I;replace p:=q_ p;replace C:=q_ C;replace F:=q_ F))
   have H:=Blk.five p.o (.int .u8 101) (.int .i64 0) (.string noB) (.slice none 0 0) (.slice none 0 0);obtain⟨O,Q,R,q3,S⟩:=H.d5;have J:=Fr.five w2 (w.heap.size+1) (.int .u8 101) (.int .i64 0) (.string noB) (.slice none 0 0) (.slice none 0 0);generalize (World.setCell (World.setCell (World.setCell (World.setCell (World.setCell w2 ⟨w.heap.size+1,0,none⟩ (.int .u8 101)) ⟨w.heap.size+1,1,none⟩ (.int .i64 0)) ⟨w.heap.size+1,2,none⟩ (.string noB)) ⟨w.heap.size+1,3,none⟩ (.slice none 0 0)) ⟨w.heap.size+1,4,none⟩ (.slice none 0 0))=W5 at *;refine bodyPost_ret (v:=.agg (zb_ 101 0 noB (.slice none 0 0) (.slice none 0 0)).toArray) (by simp[results,results49,go_sem,O,Q,R,q3,S,zb_]) rfl ?_;rw[Q_.o];rw[Z.o];exact vk_ (e0:=6) (by decide) I.o (by omega) (by omega) ⟨_,_,_,rfl⟩ ⟨_,_,_,rfl⟩ J rfl
  ·have a8:¬ (0:Int)≥(sb.size:Int):=by omega
   go_in
   go_wp2_with (go_at_call 45;refine E.o.mono ?_;rintro e w1 ⟨b,rfl,j,K,h1⟩;have D:=M0.o.call h1 b K;have x:=b.blk B0.o (by omega);have y:=b.blk B1.o (by omega);have g:=b.blk B2.o (by omega);have N:=g.cell 1;have p2:=g.thaw 1;simp only[zb_,aa_,ab_] at N;have u:=D.put ⟨w.heap.size+1+1,1,none⟩ (.int .i64 0) (by simp;omega);have E2:=Blk.set g 1 (.int .i64 0);have E1:=Blk.other y (a:=⟨w.heap.size+2,1,none⟩) (.int .i64 0) (by simp);have A:=Blk.other x (a:=⟨w.heap.size+2,1,none⟩) (.int .i64 0) (by simp);have v2:=A.c2;have r0:=E1.cell 0;have r1:=E1.cell 1;have T:=E1.cell 2;have U:=E1.cell 3;have V:=E1.cell 4;have X:=E2.cell 0;have G:=E2.cell 1;have Y:=E2.cell 2;have t3:=E2.cell 3;have t4:=E2.cell 4;obtain⟨g0,g1,g2,g3,g4⟩:=E1.t5;simp only[zg_,zb_,aa_,ab_,aj_,al_,af_] at r0 r1 T U V X G Y t3 t4;replace D:=q_ D;replace u:=q_ u;replace x:=q_ x;replace y:=q_ y;replace g:=q_ g;replace A:=q_ A;replace E1:=q_ E1;replace E2:=q_ E2;replace b:=q_ b)
   have H:=Blk.five E1.o (.int .u8 101) (.int .i64 0) (.string noB) (.slice none 0 0) (.slice none 0 0);obtain⟨O,Q,R,q3,S⟩:=H.d5;have J:=Fr.five (w1.setCell ⟨w.heap.size+1+1,1,none⟩ (.int .i64 0)) (w.heap.size+1) (.int .u8 101) (.int .i64 0) (.string noB) (.slice none 0 0) (.slice none 0 0);generalize (World.setCell (World.setCell (World.setCell (World.setCell (World.setCell (w1.setCell ⟨w.heap.size+1+1,1,none⟩ (.int .i64 0)) ⟨w.heap.size+1,0,none⟩ (.int .u8 101)) ⟨w.heap.size+1,1,none⟩ (.int .i64 0)) ⟨w.heap.size+1,2,none⟩ (.string noB)) ⟨w.heap.size+1,3,none⟩ (.slice none 0 0)) ⟨w.heap.size+1,4,none⟩ (.slice none 0 0))=W5 at *;refine bodyPost_ret (v:=.agg (zb_ 101 0 noB (.slice none 0 0) (.slice none 0 0)).toArray) (by simp[results,results49,go_sem,O,Q,R,q3,S,zb_]) rfl ?_;rw[Q_.o];rw[Z.o];exact vk_ (e0:=6) (by decide) u.o (by omega) (by omega) ⟨_,_,_,rfl⟩ ⟨_,_,_,rfl⟩ J rfl
 | some q=>
  obtain⟨v,j⟩:=q;rw[hb] at E
  by_cases hv:0<=v/\v<=(l.length:Int)-1
  ·have Z:=q_ (show xa_ (rdB s env f) s (.enum l a1) i n=.ok (.mk 101 v noB [] [],j,n) by unfold xa_ bNum;simp only;rw[hb];simp only;rw[if_pos hv])
   have a6:¬ v<0:=by omega
   have a7:¬ v≥(sb.size:Int):=by have:=a0.o;omega
   replace E:=q_ E;clear hb
   go_in
   go_wp2_with (go_at_call 45;refine E.o.mono ?_;rintro e w1 ⟨b,rfl,K,h1⟩;have D:=M0.o.call h1 b K;have x:=b.blk B0.o (by omega);have y:=b.blk B1.o (by omega);have g:=b.blk B2.o (by omega);have N:=g.cell 1;have p2:=g.thaw 1;simp only[zb_,aa_,ab_] at N;have u:=D.put ⟨w.heap.size+1+1,1,none⟩ (.int .i64 v) (by simp;omega);have E2:=Blk.set g 1 (.int .i64 v);have E1:=Blk.other y (a:=⟨w.heap.size+2,1,none⟩) (.int .i64 v) (by simp);have A:=Blk.other x (a:=⟨w.heap.size+2,1,none⟩) (.int .i64 v) (by simp);have v2:=A.c2;have r0:=E1.cell 0;have r1:=E1.cell 1;have T:=E1.cell 2;have U:=E1.cell 3;have V:=E1.cell 4;have X:=E2.cell 0;have G:=E2.cell 1;have Y:=E2.cell 2;have t3:=E2.cell 3;have t4:=E2.cell 4;obtain⟨g0,g1,g2,g3,g4⟩:=E1.t5;simp only[zg_,zb_,aa_,ab_,aj_,al_,af_] at r0 r1 T U V X G Y t3 t4;replace D:=q_ D;replace u:=q_ u;replace x:=q_ x;replace y:=q_ y;replace g:=q_ g;replace A:=q_ A;replace E1:=q_ E1;replace E2:=q_ E2;replace b:=q_ b)
   have H:=Blk.five E1.o (.int .u8 101) (.int .i64 v) (.string noB) (.slice none 0 0) (.slice none 0 0);obtain⟨O,Q,R,q3,S⟩:=H.d5;have J:=Fr.five (w1.setCell ⟨w.heap.size+1+1,1,none⟩ (.int .i64 v)) (w.heap.size+1) (.int .u8 101) (.int .i64 v) (.string noB) (.slice none 0 0) (.slice none 0 0);generalize (World.setCell (World.setCell (World.setCell (World.setCell (World.setCell (w1.setCell ⟨w.heap.size+1+1,1,none⟩ (.int .i64 v)) ⟨w.heap.size+1,0,none⟩ (.int .u8 101)) ⟨w.heap.size+1,1,none⟩ (.int .i64 v)) ⟨w.heap.size+1,2,none⟩ (.string noB)) ⟨w.heap.size+1,3,none⟩ (.slice none 0 0)) ⟨w.heap.size+1,4,none⟩ (.slice none 0 0))=W5 at *;refine bodyPost_ret (v:=.agg (zb_ 101 v noB (.slice none 0 0) (.slice none 0 0)).toArray) (by simp[results,results49,go_sem,O,Q,R,q3,S,zb_]) rfl ?_;rw[Q_.o];rw[Z.o];exact zaf u.o hn (by omega) (DVal.bare _ _ 101 v noB) ⟨_,_,_,rfl⟩ ⟨_,_,_,rfl⟩ J rfl
  ·have Z:=q_ (show xa_ (rdB s env f) s (.enum l a1) i n=.error 6 by unfold xa_ bNum;simp only;rw[hb];simp only;rw[if_neg hv]);replace E:=q_ E;clear hb
   by_cases a6:v<0
   all_goals (try have a7:v≥(sb.size:Int):=by have:=a0.o;omega)
   all_goals
    go_in
    go_wp2_with (first
     |(go_at_call 45;refine E.o.mono ?_;rintro e w1 ⟨b,rfl,K,h1⟩;have D:=M0.o.call h1 b K;have x:=b.blk B0.o (by omega);have y:=b.blk B1.o (by omega);have g:=b.blk B2.o (by omega);have N:=g.cell 1;have p2:=g.thaw 1;simp only[zb_,aa_,ab_] at N;have u:=D.put ⟨w.heap.size+1+1,1,none⟩ (.int .i64 v) (by simp;omega);have E2:=Blk.set g 1 (.int .i64 v);have E1:=Blk.other y (a:=⟨w.heap.size+2,1,none⟩) (.int .i64 v) (by simp);have A:=Blk.other x (a:=⟨w.heap.size+2,1,none⟩) (.int .i64 v) (by simp);have G:=E2.cell 1;have v2:=A.cell 2;simp only[zb_,aa_,ab_,aj_,al_,af_] at G v2;replace D:=q_ D;replace u:=q_ u;replace x:=q_ x;replace y:=q_ y;replace g:=q_ g;replace A:=q_ A;replace E1:=q_ E1;replace E2:=q_ E2;replace b:=q_ b)
     |(go_at_call 43;refine(a2.o _ _ _ _ u.o.L).mono ?_;rintro e w2 ⟨rfl,h2,F⟩;have I:=u.o.call h2 F u.o.jl;have p:=F.blk E1.o (by omega);have C:=F.blk E2.o (by omega);have r0:=p.cell 0;have r1:=p.cell 1;have T:=p.cell 2;have U:=p.cell 3;have V:=p.cell 4;have X:=C.cell 0;have G:=C.cell 1;have Y:=C.cell 2;have t3:=C.cell 3;have t4:=C.cell 4;obtain⟨g0,g1,g2,g3,g4⟩:=p.t5;simp only[zg_,zb_,aa_,ab_,aj_,al_,af_] at r0 r1 T U V X G Y t3 t4;replace I:=q_ I;replace p:=q_ p;replace C:=q_ C;replace F:=q_ F))
    have H:=Blk.five p.o (.int .u8 101) (.int .i64 v) (.string noB) (.slice none 0 0) (.slice none 0 0);obtain⟨O,Q,R,q3,S⟩:=H.d5;have J:=Fr.five w2 (w.heap.size+1) (.int .u8 101) (.int .i64 v) (.string noB) (.slice none 0 0) (.slice none 0 0);generalize (World.setCell (World.setCell (World.setCell (World.setCell (World.setCell w2 ⟨w.heap.size+1,0,none⟩ (.int .u8 101)) ⟨w.heap.size+1,1,none⟩ (.int .i64 v)) ⟨w.heap.size+1,2,none⟩ (.string noB)) ⟨w.heap.size+1,3,none⟩ (.slice none 0 0)) ⟨w.heap.size+1,4,none⟩ (.slice none 0 0))=W5 at *;refine bodyPost_ret (v:=.agg (zb_ 101 v noB (.slice none 0 0) (.slice none 0 0)).toArray) (by simp[results,results49,go_sem,O,Q,R,q3,S,zb_]) rfl ?_;rw[Q_.o];rw[Z.o];exact vk_ (e0:=6) (by decide) I.o (by omega) (by omega) ⟨_,_,_,rfl⟩ ⟨_,_,_,rfl⟩ J rfl
def zej (ds:List DT):Except Nat (List DT×Nat×Nat)->Except Nat (List DT×Nat×Nat)
 | .error e=>.error e
 | .ok (l,j,m)=>.ok (ds++l,j,m)
theorem zhf (x:Except Nat (List DT×Nat×Nat)):zej [] x=x:=by
 cases x with
 | error e=>rfl
 | ok q=>obtain⟨l,j,m⟩:=q;rfl
theorem zgj (R:PT->Nat->Nat->Except Nat (DT×Nat×Nat)) (ds:List DT) (t:PT) (r:List PT) (j m:Nat):zej ds (yu_ R (t::r) j m)=match R t j m with | .error e=>.error e | .ok (d,j',a)=>zej (ds++[d]) (yu_ R r j' a):=by
 rw[yu_]
 cases R t j m with
 | error e=>rfl
 | ok q=>
  obtain⟨d,j',a⟩:=q;simp only
  cases yu_ R r j' a with
  | error e=>rfl
  | ok q=>
   obtain⟨l,b,g⟩:=q
   simp[zej]
def recB:Except Nat (List DT×Nat×Nat)->Except Nat (DT×Nat×Nat)
 | .error e=>.error e
 | .ok (ds,j,m)=>.ok (.mk 114 0 noB [] ds,j,m)
theorem zmr (R:PT->Nat->Nat->Except Nat (DT×Nat×Nat)) (s:BA) (fs:List PF) (i n:Nat):xa_ R s (.recd fs) i n=recB (yu_ R (fs.map PF.ty) i n):=by
 unfold xa_;simp only
 cases yu_ R (fs.map PF.ty) i n with
 | error e=>rfl
 | ok q=>rfl
def RInv (R_:Except Nat (List DT×Nat×Nat)) (R:PT->Nat->Nat->Except Nat (DT×Nat×Nat)) (fs:List PF) (w:World) (P:Nat->Prop) (bd:Nat) (s:BA) (bz n:Nat) (ts:List TR) (env:Nat->Option PB) (cx:List Value) (q:Nat) (v6:Value) (W:World):Prop:=
 ∃ (kk:Nat) (vs:Value) (xs:List Value),v6=.int .i64 (kk:Int)/\kk<=301/\
  ((∃ ds j nn,kk=ds.length/\kk<=fs.length/\n+kk<=nn/\nn<=300/\302<=q+nn/\H_ (BL w P bd s bz j nn 0 ts env cx 44 (w.heap.size+1) (w.heap.size+2) (w.heap.size+3) 114 (.slice none 0 0) vs [] kk xs W/\Dts W (w.heap.size+3) (.slice none 0 0) vs ds kk xs)/\R_=zej ds (yu_ R ((fs.map PF.ty).drop kk) j nn))\/
   (∃ j nn nr,∃ e0:Nat,H_ (BL w P bd s bz j nn (e0:Int) ts env cx 44 (w.heap.size+1) (w.heap.size+2) (w.heap.size+3) 114 (.slice none 0 0) vs [] nr xs W)/\nn<=301/\e0≠0/\R_=.error e0))
theorem zwr {s:BA}{env:Nat->Option PB}{ts:List TR}{n:Nat}{fs:List PF}(hR:∀ g∈fs,∀ j nn,n<=nn->nn<=300->j<=s.size->BdOK s env ts f g.ty j nn) (f8:fs.length<=4000):NbOK s env ts f (.recd fs) i n:=by
 intro w P bd bz so fv sb o z M hn hN;obtain⟨⟨x,fn,y,rfl⟩,a2,rfl,f3,hown,a3⟩:=hN;have d8:=zl4 hown;subst d8;refine hq_ λ f0 H=>?_;rw[zmr] at H;obtain⟨R_,D⟩:∃ r,r=yu_ (rdB s env f) (fs.map PF.ty) i n:=⟨_,rfl⟩;rw[<- D] at H;obtain⟨R,E⟩:∃ R,R=rdB s env f:=⟨_,rfl⟩;rw[<- E] at D;replace E:=q_ E;have g8:=M.lt;have f9:=M.jl;have g9:=M.sl;have Q0:=znv M #[.int .u8 (114:Nat),.slice x fs.length y,.string sb,.int .i64 o,.int .i64 z] 44 114;have d0:H_ (RInv R_ R fs w P bd s bz n ts env [.int .u8 (114:Nat),.slice x fs.length y,.string sb,.int .i64 o,.int .i64 z] 302 (.int .i64 0) (nw w 114 (.slice x fs.length y) sb o z)):=q_ ⟨0,_,[],rfl,by omega,.inl ⟨[],i,n,rfl,by omega,by omega,hn,by omega,q_ ⟨Q0,Dts.nil _ _ _ _⟩,by rw[zhf,D];rfl⟩⟩
 have I:∀ (W:World) (j nn:Nat) (er:Int) (vs:Value) (q:Nat) (xs:List Value),BL w P bd s bz j nn er ts env [.int .u8 (114:Nat),.slice x fs.length y,.string sb,.int .i64 o,.int .i64 z] 44 (w.heap.size+1) (w.heap.size+2) (w.heap.size+3) 114 (.slice none 0 0) vs [] q xs W->W.cell? ⟨w.heap.size,1,none⟩=some (.slice x fs.length y):=λ W j nn er vs q xs b=>by rw[b.rx.cell 1];rfl
 replace I:=q_ I;have e9:=q_ M.nP;replace a2:=q_ a2;replace hown:=q_ hown;replace a3:=q_ a3;replace D:=q_ D;replace hR:=q_ hR;clear M Q0
 go_in
 go_wp2_with fail
 change Code.wp _ _ _ _ (nw w 114 (.slice x fs.length y) sb o z);generalize nw w 114 (.slice x fs.length y) sb o z=W0 at *
 go_loopg [6] 302 (λ q v6 W=>RInv R_ R fs w P bd s bz n ts env [.int .u8 (114:Nat),.slice x fs.length y,.string sb,.int .i64 o,.int .i64 z] q v6 W)
 case atStart=>exact d0.o
 case round=>
  clear d0;obtain⟨h,vs,xs,rfl,g7,d2⟩:=hrel
  rcases d2 with⟨ds,j,nn,a0,g6,b8,S,hq,a9,u⟩|⟨j,nn,Y,e0,hQ,b8,a1,u⟩
  ·obtain⟨a,A⟩:=a9.o;clear a9;obtain⟨l,p,rfl⟩:=zo_ a.vr;have c2:=a.M.L.c2;have b6:=a.M.jl;have x1:=I.o _ _ _ _ _ _ _ a;replace a0:=q_ a0
   by_cases F:h<fs.length
   ·have e6:(h:Int)<(fs.length:Int):=by omega
    obtain⟨g,hg⟩:∃ g,fs[h]?=some g:=⟨_,an_ F⟩;have a5:g∈fs:=aw_ hg;obtain⟨num,a7,a6⟩:=a3.o h g hg;obtain⟨gf,cf,b5⟩:=zh_ hown.o (by omega);simp only[Value.slice.injEq,true_and] at b5;obtain⟨rfl,rfl⟩:=b5
    have b4:(fs.map PF.ty).drop h=g.ty::(fs.map PF.ty).drop (h+1):=by
     rw[a7_ (by simpa using F)]
     congr 1
     rw[List.getElem_map]
     congr 1
     exact(as_.1 hg).2
    rw[b4,zgj,E.o] at u;have b9:=za_ hown.o a.M.fr (λ g hg e=>e9.o (e▸a2.o g hg));have d1:=zp_ b9 rfl a7;rw[a2_] at d1;obtain⟨ti,e1,e2,e3,e4⟩:=info_parts zif;have hC:=q_ (a.datum (f:=f) (by omega) (λ _=>S) a6 (λ _=>hR.o g a5 j nn (by omega) S b6));have f4:=a.bB;replace a:=q_ a;replace A:=q_ A;replace u:=q_ u;replace a7:=q_ a7;replace a6:=q_ a6;replace a5:=q_ a5;clear b4 hg F b9
    go_wp2_with (first
     |(go_at_call 26;refine hC.o.mono ?_;rintro e w3 ⟨N,O,Q,J,U,c1,K,V,c2,j3,X,f2,rfl,G,F3,e7,hJ⟩;have Z:=a.o.dts A.o F3;have C:=G.alloc (.cells (zb_ N O Q (.slice J U c1) (.slice K V c2)).toArray 37);have D4:=Z.alloc (.cells (zb_ N O Q (.slice J U c1) (.slice K V c2)).toArray 37);have t4:=C.r1.cell 4;simp only[zb_,aa_,ab_] at t4;have f6:=G.bB;replace G:=q_ G;replace Z:=q_ Z;replace C:=q_ C;replace D4:=q_ D4)
     |(at_builtin;go_must (refine wpList_append_own_at _ rfl _ _ 35 rfl (w.heap.size+3) 37 ti _ 5 80 zhm e1 e2 e3 e4 rfl (by decide) (.slice l h p) h xs rfl ?hown _ 1 1 (zb_ N O Q (.slice J U c1) (.slice K V c2)) rfl rfl (z7_ _ (zb_ N O Q (.slice J U c1) (.slice K V c2)).toArray _ _ ?nn) ?one ?b1 ?b2 ?b3 ?_)
       case hown=>exact World.ownsRow.alloc C.o.vr _
       case nn=>simp
       case one=>simp[zb_,Value.oneCell']
       case b1=>unfold maxLen;omega
       case b2=>omega
       case b3=>simp;omega
       intro v5 w5 a8 a4 e8 b7
       have I5:=C.o.item a4 a8 b7
       obtain⟨e5,f5⟩:=C.o.itemCell a4
       obtain⟨g5,f1,rfl⟩:=zh_ a8 (by omega)
       clear a4 b7 e8 a8
       replace I5:=q_ I5))
    obtain⟨Q5,d6⟩:=I5.o
    rcases hJ.o with⟨_,d,T,rfl,d7⟩|⟨_,e0,T,rfl,a1⟩|⟨he,rfl⟩
    ·have D5:=d6 _ d D4.o (d7.fr ((Fr.refl w3 (λ _=>False)).alloc _) u_);have d9:=j0_ s env f g.ty j nn d j3 X b6 S T
     go_roundg (302-X)
     case measure=>omega
     case rel=>
      refine⟨h+1,_,_,by simp,by omega,.inl ⟨ds++[d],j3,X,by rw[ah_,am_,<- a0.o],by omega,by omega,d9.2.2.2,by omega,q_ ⟨Q5,D5⟩,?_⟩⟩;rw[u.o,T,E.o]
    ·go_roundg 0
     case measure=>omega
     case rel=>exact⟨h+1,_,_,by simp,by omega,.inr ⟨j3,X,h+1,e0,q_ Q5,e7,a1,by rw[u.o,T]⟩⟩
    ·exact absurd rfl he
   ·have e6:¬ (h:Int)<(fs.length:Int):=by omega
    have hr:=q_ (show R_=.ok (ds,j,nn) by rw[u,List.drop_of_length_le (by simp;omega)];simp[yu_,zej]);have r0:=a.r0.cell 0;have r1:=a.r0.cell 1;have r2:=a.r0.cell 2;have r3:=a.r0.cell 3;have r4:=a.r0.cell 4;have t0:=a.r1.cell 0;have t1:=a.r1.cell 1;have t2:=a.r1.cell 2;have t3:=a.r1.cell 3;have t4:=a.r1.cell 4;obtain⟨g0,g1,g2,g3,g4⟩:=a.r0.t5;simp only[zg_,zb_,aa_,ab_,af_] at r0 r1 r2 r3 r4 t0 t1 t2 t3 t4;replace a:=q_ a;replace A:=q_ A;clear u F
    go_wp2_with fail
    have L5:=Blk.five a.o.r0 (.int .u8 114) (.int .i64 0) (.string noB) (.slice none 0 0) (.slice l h p);obtain⟨q0,q1,q2,q3,q4⟩:=L5.d5;have hF:=Fr.five wr (w.heap.size+1) (.int .u8 114) (.int .i64 0) (.string noB) (.slice none 0 0) (.slice l h p);generalize (World.setCell (World.setCell (World.setCell (World.setCell (World.setCell wr ⟨w.heap.size+1,0,none⟩ (.int .u8 114)) ⟨w.heap.size+1,1,none⟩ (.int .i64 0)) ⟨w.heap.size+1,2,none⟩ (.string noB)) ⟨w.heap.size+1,3,none⟩ (.slice none 0 0)) ⟨w.heap.size+1,4,none⟩ (.slice l h p))=W5 at *;refine bodyPost_ret (v:=.agg (zb_ 114 0 noB (.slice none 0 0) (.slice l h p)).toArray) (by simp[results,results49,go_sem,q0,q1,q2,q3,q4,zb_]) rfl ?_;rw[H.o];rw[hr.o];exact zaf a.o.M S (by omega) ((a.o.dval A.o 114).mono (λ g _ hg=>by omega)) ⟨_,_,_,rfl⟩ ⟨_,_,_,rfl⟩ hF rfl
  ·have b:=hQ.o;obtain⟨l,p,rfl⟩:=zo_ b.vr;have c2:=b.M.L.c2
   have f7:((e0:Int)==0)=false:=by simp;omega
   have x1:=I.o _ _ _ _ _ _ _ b;have r0:=b.r0.cell 0;have r1:=b.r0.cell 1;have r2:=b.r0.cell 2;have r3:=b.r0.cell 3;have r4:=b.r0.cell 4;have t0:=b.r1.cell 0;have t1:=b.r1.cell 1;have t2:=b.r1.cell 2;have t3:=b.r1.cell 3;have t4:=b.r1.cell 4;obtain⟨g0,g1,g2,g3,g4⟩:=b.r0.t5;simp only[zg_,zb_,aa_,ab_,af_] at r0 r1 r2 r3 r4 t0 t1 t2 t3 t4;clear b
   by_cases F:(h:Int)<(fs.length:Int)
   all_goals
    go_wp2_with fail
    have L5:=Blk.five hQ.o.r0 (.int .u8 114) (.int .i64 0) (.string noB) (.slice none 0 0) (.slice l Y p);obtain⟨q0,q1,q2,q3,q4⟩:=L5.d5;have hF:=Fr.five wr (w.heap.size+1) (.int .u8 114) (.int .i64 0) (.string noB) (.slice none 0 0) (.slice l Y p);generalize (World.setCell (World.setCell (World.setCell (World.setCell (World.setCell wr ⟨w.heap.size+1,0,none⟩ (.int .u8 114)) ⟨w.heap.size+1,1,none⟩ (.int .i64 0)) ⟨w.heap.size+1,2,none⟩ (.string noB)) ⟨w.heap.size+1,3,none⟩ (.slice none 0 0)) ⟨w.heap.size+1,4,none⟩ (.slice l Y p))=W5 at *;refine bodyPost_ret (v:=.agg (zb_ 114 0 noB (.slice none 0 0) (.slice l Y p)).toArray) (by simp[results,results49,go_sem,q0,q1,q2,q3,q4,zb_]) rfl ?_;rw[H.o];rw[u];exact vk_ a1 hQ.o.M b8 (by omega) ⟨_,_,_,rfl⟩ ⟨_,_,_,rfl⟩ hF rfl
end Go.Proofs.YtiifagiebikmdaaGreatDoor
