import Derived.Test.YthmjjpkjgjklmaaGreatDoorW02
import Derived.Deep.DeepCutAuto
import Derived.Test.YthmjjpkjgjklmaaGreatDoorW00
import Derived.Test.YthmjjpkjgjklmaaGreatDoorA00
set_option maxHeartbeats 16000000
set_option maxRecDepth 100000
set_option linter.unusedSimpArgs false
namespace Go.Proofs.YthmjjpkjgjklmaaGreatDoor
open Go.RowKit
open Go.RowKit
structure SM (w:World) (X:Nat->Prop) (br bz B:Nat) (s:BA) (j:Nat) (bad:Bool) (wg MX:Int) (TS:List TR) (US:List (Nat×Nat)) (zs:List Value) (tv u:Value) (cs:List Value) (W:World):Prop where
 R:Rep W (λ g=>X g\/g=w.heap.size\/g=w.heap.size+1) br bz B s j bad wg MX TS US zs tv u
 b2:Blk W w.heap.size zrc 39
 b3:Blk W (w.heap.size+1) cs 39
 st:Step w W br bz tv u tv u
section
variable {w W W':World} {X:Nat->Prop} {br bz B:Nat} {s:BA} {j:Nat} {bad:Bool} {wg MX:Int} {TS:List TR} {US:List (Nat×Nat)} {zs:List Value} {tv u:Value} {cs:List Value}
theorem SM.call (M:SM w X br bz B s j bad wg MX TS US zs tv u cs W){j':Nat}{bad':Bool}{wg':Int}(R':Rep W' (λ g=>X g\/g=w.heap.size\/g=w.heap.size+1) br bz B s j' bad' wg' MX TS US zs tv u) (st:Step W W' br bz tv u tv u):SM w X br bz B s j' bad' wg' MX TS US zs tv u cs W':=
 ⟨R',st.fr.blk M.b2 (M.R.offS (.inr (.inl rfl))),st.fr.blk M.b3 (M.R.offS (.inr (.inr rfl))),M.st.trans st⟩
theorem SM.still (M:SM w X br bz B s j bad wg MX TS US zs tv u cs W) (h:ze_ W W'):SM w X br bz B s j bad wg MX TS US zs tv u cs W':=M.call (M.R.still h) (Step.ofStill h)
theorem SM.inc (M:SM w X br bz B s j bad wg MX TS US zs tv u cs W) (h:j<s.size):SM w X br bz B s (j+1) bad wg MX TS US zs tv u cs (W.setCell ⟨br,1,none⟩ (.int .i64 ((j:Int)+1))):=M.call (M.R.inc h).1 (M.R.inc h).2
theorem SM.alloc (M:SM w X br bz B s j bad wg MX TS US zs tv u cs W) (o:Obj):SM w X br bz B s j bad wg MX TS US zs tv u cs (W.alloc o):=M.call (M.R.alloc o).1 (M.R.alloc o).2
theorem SM.put (M:SM w X br bz B s j bad wg MX TS US zs tv u cs W) (o:Nat) (v:Value):SM w X br bz B s j bad wg MX TS US zs tv u (cs.set o v) (W.setCell ⟨w.heap.size+1,o,none⟩ v):=by
 have hF:Fr W (W.setCell ⟨w.heap.size+1,o,none⟩ v) (λ g=>g=w.heap.size+1):=(Fr.refl W (λ g=>g=w.heap.size+1)).setCell ⟨w.heap.size+1,o,none⟩ v (λ _=>rfl);exact⟨(M.R.o (hF.mono (λ _ _ e=>.inr (.inr e)))).fewer (λ _ h=>.inl h),hF.blk M.b2 (by omega),M.b3.set o v,M.st.o hF (λ g hg=>by omega)⟩
end
def wrS (seen:List Nat):List (Nat×Nat)->Int->Int
 | [],m=>m
 | f::r,m=>wrS (seen++[f.1]) r (if f.1∈seen then yn_ f.2 m else m)
def wrE (l:List (Nat×Nat)) (o:Option (Nat×Nat)) (m:Int):Int:=
 match o with
 | none=>wrS [] l m
 | some (c,at_)=>if c∈l.map Prod.fst then wrS [] l m else yn_ at_ (wrS [] l m)
open Go.RowKit
open Go.RowKit
def PB.wr:PB->Int->Int
 | .recd ds,m=>wrF [] ds m
 | .enum l o,m=>wrE l o m
 | .bytes _,m=>m
def PB.mx:PB->Int->Int
 | .recd ds,m=>mixF ds m
 | .enum _ _,m=>m
 | .bytes _,m=>m
def PB.ts (b:Nat):PB->List TR
 | .recd ds=>zyg b (ds.map PF.ty)
 | .enum _ _=>[]
 | .bytes _=>[]
def PB.us:PB->List (Nat×Nat)
 | .recd ds=>xf_ (ds.map PF.ty)
 | .enum _ _=>[]
 | .bytes _=>[]
def z0a (so:Int) (fv:Value) (sb:BA) (o n:Int):List Value:=[.int .u8 so,fv,.string sb,.int .i64 o,.int .i64 n]
def zw1 (s:BA) (b:Nat) (pb:PB) (so:Int) (cnt:Nat) (xs:List Value) (sb:BA) (o n:Int):Prop:=
 match pb with
 | .recd ds=>so=114/\cnt=ds.length/\xs=zvi s b ds/\o = -1/\n=0
 | .enum l unk=>so=101/\cnt=0/\sb.data.toList.map UInt8.toNat=l.map Prod.fst/\o=(match unk with|none=>-1|some (c,_)=>plc sb c)/\n=0
 | .bytes k=>so=102/\cnt=0/\o = -1/\n=(k:Int)
theorem zsg {s:BA}{i:Nat}(h:bt s i=114):v8_ s i=match xy_ s (i+1) with | .error k=>.error k | .ok (ds,j)=>.ok (.recd ds,j):=by
 unfold v8_;rw[if_pos h];rfl
theorem zpx {s:BA}{i:Nat}(h:bt s i=101):v8_ s i=match za0 s (i+1) with | .error k=>.error k | .ok ((l,o),j)=>.ok (.enum l o,j):=by
 unfold v8_;rw[if_neg (by omega),if_pos h];rfl
theorem zmv {s:BA}{i:Nat}(h:bt s i=102):v8_ s i=if 48<=bt s (i+1)/\bt s (i+1)<=57 then .ok (.bytes (bt s (i+1)-48),i+2) else .error (i+1):=by
 unfold v8_;rw[if_neg (by omega),if_neg (by omega),if_pos h]
theorem zsi {s:BA}{i:Nat}(h1:bt s i≠114) (h2:bt s i≠101) (h3:bt s i≠102):v8_ s i=.error i:=by
 unfold v8_;rw[if_neg h1,if_neg h2,if_neg h3]
section
variable {w W W':World} {X:Nat->Prop} {br bz B:Nat} {s:BA} {i:Nat} {wr mx:Int} {ts:List TR} {us:List (Nat×Nat)} {zs:List Value} {tv u:Value}
end
open Go.RowKit
def accW (seen:List Nat):List PD->Int->Int
 | [],m=>m
 | d::r,m=>accW (seen++[d.letter]) r (if d.letter∈seen then yn_ d.place (d.body.wr m) else d.body.wr m)
def accM (ds:List PD) (m:Int):Int:=ds.foldl (λ m d=>d.body.mx m) m
def accT (b:Nat):List PD->List TR
 | []=>[]
 | d::r=>d.body.ts b++accT (b+(d.body.ts b).length) r
def accU:List PD->List (Nat×Nat)
 | []=>[]
 | d::r=>d.body.us++accU r
def look (b c:Nat):List PD->Option (PB×Nat)
 | []=>none
 | d::r=>if d.letter=c then some (d.body,b) else look (b+(d.body.ts b).length) c r
theorem zky (b c:Nat) (ds:List PD) (d:PD):look b c (ds++[d])=match look b c ds with|some x=>some x|none=>if d.letter=c then some (d.body,b+(accT b ds).length) else none:=by
 induction ds generalizing b with
 | nil=>simp[look,accT]
 | cons x r ih=>
  simp only[bn_,look]
  by_cases h:x.letter=c
  ·rw[if_pos h,if_pos h]
  ·rw[if_neg h,if_neg h,ih];simp only[accT,al_,a0_]
theorem ztc (b c:Nat) (ds:List PD):look b c ds=none↔c∉ds.map PD.letter:=by
 induction ds generalizing b with
 | nil=>simp[look]
 | cons x r ih=>
  simp only[look]
  by_cases h:x.letter=c
  ·rw[if_pos h];simp[h]
  ·rw[if_neg h,ih];simp[Ne.symm h]
def zgz (W:World) (X:Nat->Prop) (B:Nat) (s:BA) (zs:List Value) (ds:List PD):Prop:=
 zs.length=31/\∀ k,k<6->∃ (so:Int) (fv:Value) (sb:BA) (o n:Int) (cnt:Nat) (xs:List Value),(∀ p,p<5->zs[5*k+p]?=(z0a so fv sb o n)[p]?)/\W.ownsRow B 69 10 fv cnt xs/\(∀ g,fv.ownBlock=some g->X g)/\
  match look 0 (65+k) ds with
  | none=>so=0/\cnt=0
  | some (pb,b)=>zw1 s b pb so cnt xs sb o n
theorem zw1.sort {s:BA}{b:Nat}{pb:PB}{so:Int}{cnt:Nat}{xs:List Value}{sb:BA}{o n:Int}(h:zw1 s b pb so cnt xs sb o n):so≠0:=by
 cases pb with
 | recd ds=>have:=h.1;omega
 | enum l u=>have:=h.1;omega
 | bytes k=>have:=h.1;omega
theorem zgz.step {W W':World}{X:Nat->Prop}{br bz B:Nat}{s:BA}{zs:List Value}{ds:List PD}{j:Nat}{bad:Bool}{wr mx:Int}{ts:List TR}{us:List (Nat×Nat)}{zs':List Value}{tv u tv' u':Value}
 (h:zgz W X B s zs ds) (R:Rep W X br bz B s j bad wr mx ts us zs' tv u) (st:Step W W' br bz tv u tv' u'):zgz W' X B s zs ds:=by
 refine⟨h.1,λ k hk=>?_⟩;obtain⟨so,fv,sb,o,n,cnt,xs,h1,h2,h3,h4⟩:=h.2 k hk;exact⟨so,fv,sb,o,n,cnt,xs,h1,zb_ h2 st.fr (λ g hg=>R.offS (h3 g hg)),h3,h4⟩
def set5 (zs:List Value) (o:Nat) (v0 v1 v2 v3 v4:Value):List Value:=((((zs.set o v0).set (o+1) v1).set (o+2) v2).set (o+3) v3).set (o+4) v4
theorem zxu {zs:List Value}{o:Nat}(h:o+5<=zs.length) (v0 v1 v2 v3 v4:Value) (p:Nat) (hp:p<5):(set5 zs o v0 v1 v2 v3 v4)[o+p]?=[v0,v1,v2,v3,v4][p]?:=by
 unfold set5
 match p,hp with
 | 0,_=>simp[List.getElem?_set];omega
 | 1,_=>simp[List.getElem?_set];omega
 | 2,_=>simp[List.getElem?_set];omega
 | 3,_=>simp[List.getElem?_set];omega
 | 4,_=>simp[List.getElem?_set];omega
theorem zvc {zs:List Value}{o q:Nat}(v0 v1 v2 v3 v4:Value) (hq:q<o\/o+5<=q):(set5 zs o v0 v1 v2 v3 v4)[q]?=zs[q]?:=by
 unfold set5;rw[b7_ (by omega),b7_ (by omega),b7_ (by omega),b7_ (by omega),b7_ (by omega)]
theorem zmg (zs:List Value) (o:Nat) (v0 v1 v2 v3 v4:Value):(set5 zs o v0 v1 v2 v3 v4).length=zs.length:=by simp[set5]
theorem zgz.add {W:World}{X Y:Nat->Prop}{B:Nat}{s:BA}{zs:List Value}{ds:List PD}{d:PD}{k:Nat}{so:Int}{fv:Value}{sb:BA}{o n:Int}{cnt:Nat}{xs:List Value}
 (h:zgz W X B s zs ds) (hk:k<6) (hd:d.letter=65+k) (hnew:look 0 (65+k) ds=none) (hXY:∀ g,X g->Y g) (own:W.ownsRow B 69 10 fv cnt xs) (hfv:∀ g,fv.ownBlock=some g->Y g)
 (hI:zw1 s (accT 0 ds).length d.body so cnt xs sb o n):zgz W Y B s (set5 zs (5*k) (.int .u8 so) fv (.string sb) (.int .i64 o) (.int .i64 n)) (ds++[d]):=by
 refine⟨by rw[zmg];exact h.1,λ k' hk'=>?_⟩
 by_cases e:k'=k
 ·subst e;refine⟨so,fv,sb,o,n,cnt,xs,λ p hp=>zxu (by rw[h.1];omega) _ _ _ _ _ p hp,own,hfv,?_⟩;rw[zky,hnew];simp only[hd,if_true,bg_];exact hI
 ·obtain⟨so',fv',sb',o',n',cnt',xs',h1,h2,h3,h4⟩:=h.2 k' hk';refine⟨so',fv',sb',o',n',cnt',xs',λ p hp=>by rw[zvc _ _ _ _ _ (by omega)];exact h1 p hp,h2,λ g hg=>hXY g (h3 g hg),?_⟩;rw[zky]
  cases hl:look 0 (65+k') ds with
  | some x=>rw[hl] at h4;exact h4
  | none=>
   rw[hl] at h4;rw[if_neg (by omega)];exact h4
theorem Rep.setZ {w:World}{X:Nat->Prop}{br bz B:Nat}{s:BA}{i:Nat}{bad:Bool}{wr mx:Int}{ts:List TR}{us:List (Nat×Nat)}{zs:List Value}{tv u:Value}(R:Rep w X br bz B s i bad wr mx ts us zs tv u) (o:Nat) (v:Value) :
 Rep (w.setCell ⟨bz,o+1,none⟩ v) X br bz B s i bad wr mx ts us (zs.set o v) tv u/\Step w (w.setCell ⟨bz,o+1,none⟩ v) br bz tv u tv u:=by
 have hf:Fr w (w.setCell ⟨bz,o+1,none⟩ v) (λ g=>g=bz):=(Fr.refl w (λ g=>g=bz)).setCell ⟨bz,o+1,none⟩ v (λ _=>rfl);have hS:Step w (w.setCell ⟨bz,o+1,none⟩ v) br bz tv u tv u:=⟨hf.mono (λ _ _ e=>.inr (.inl e)),.inl rfl,.inl rfl⟩;have hz:Blk (w.setCell ⟨bz,o+1,none⟩ v) bz (tv::zs.set o v) 42:=Blk.set R.z (o+1) v;refine⟨⟨hf.blk R.here R.rz,hz,?_,zb_ R.uses hf (λ g hg e=>zoo R.uses R.zB (e▸hg)),R.apart,R.rB,R.zB,ah_ R.hB hf.size,R.rz,R.il,R.sl,R.tl,R.ul,λ g hg=>⟨bl_ (R.av g hg).1 hf.size,(R.av g hg).2⟩⟩,hS⟩;obtain⟨xs,hx,hk⟩:=R.tys;refine⟨xs,zb_ hx hf (λ g hg e=>zoo hx R.zB (e▸hg)),λ k t ht=>?_⟩;obtain⟨sv,a,b,c,d⟩:=hk k t ht;exact⟨sv,a,b,hS.subs c R.rB R.zB,d⟩
theorem Rep.setDef {w:World}{X:Nat->Prop}{br bz B:Nat}{s:BA}{i:Nat}{bad:Bool}{wr mx:Int}{ts:List TR}{us:List (Nat×Nat)}{zs:List Value}{tv u:Value}(R:Rep w X br bz B s i bad wr mx ts us zs tv u) (o:Nat) (v0 v1 v2 v3 v4:Value) :
 Rep (((((w.setCell ⟨bz,o+1,none⟩ v0).setCell ⟨bz,o+1+1,none⟩ v1).setCell ⟨bz,o+2+1,none⟩ v2).setCell ⟨bz,o+3+1,none⟩ v3).setCell ⟨bz,o+4+1,none⟩ v4) X br bz B s i bad wr mx ts us (set5 zs o v0 v1 v2 v3 v4) tv u/\
  Step w (((((w.setCell ⟨bz,o+1,none⟩ v0).setCell ⟨bz,o+1+1,none⟩ v1).setCell ⟨bz,o+2+1,none⟩ v2).setCell ⟨bz,o+3+1,none⟩ v3).setCell ⟨bz,o+4+1,none⟩ v4) br bz tv u tv u:=by
 have h0:=R.setZ o v0;have h1:=h0.1.setZ (o+1) v1;have h2:=h1.1.setZ (o+2) v2;have h3:=h2.1.setZ (o+3) v3;have h4:=h3.1.setZ (o+4) v4;exact⟨h4.1,(((h0.2.trans h1.2).trans h2.2).trans h3.2).trans h4.2⟩
open Go.RowKit
structure WM (w:World) (X:Nat->Prop) (br bz B:Nat) (s:BA) (tv0 u0:Value) (ds:List PD) (j:Nat) (bad:Bool) (wg MX:Int) (TS:List TR) (US:List (Nat×Nat)) (Xk:Nat->Prop) (zs:List Value) (tv u:Value) (W:World):Prop where
 R:Rep W Xk br bz B s j bad wg MX TS US zs tv u
 D:zgz W Xk B s zs ds
 XX:∀ g,X g->Xk g
 st:Step w W br bz tv0 u0 tv u
theorem WM.still {w:World}{X Xk:Nat->Prop}{br bz B:Nat}{s:BA}{tv0 u0 tv u:Value}{ds:List PD}{j:Nat}{bad:Bool}{wg MX:Int}{TS:List TR}{US:List (Nat×Nat)}{zs:List Value}{W W':World}(M:WM w X br bz B s tv0 u0 ds j bad wg MX TS US Xk zs tv u W) (h:ze_ W W'):WM w X br bz B s tv0 u0 ds j bad wg MX TS US Xk zs tv u W':=
 ⟨M.R.still h,M.D.step M.R (Step.ofStill h),M.XX,M.st.still h⟩
theorem WM.call {w:World}{X Xk:Nat->Prop}{br bz B:Nat}{s:BA}{tv0 u0 tv u tv' u':Value}{ds:List PD}{j j':Nat}{bad bad':Bool}{wg MX wg' MX':Int}{TS TS':List TR}{US US':List (Nat×Nat)}{zs:List Value}{W W':World}(M:WM w X br bz B s tv0 u0 ds j bad wg MX TS US Xk zs tv u W)
 (R':Rep W' Xk br bz B s j' bad' wg' MX' TS' US' zs tv' u') (st:Step W W' br bz tv u tv' u'):WM w X br bz B s tv0 u0 ds j' bad' wg' MX' TS' US' Xk zs tv' u' W':=
 ⟨R',M.D.step M.R st,M.XX,M.st.trans st⟩
def laid (W:World) (bz k:Nat) (v0 v1 v2 v3 v4:Value):World:=
 ((((W.setCell ⟨bz,1+k*5,none⟩ v0).setCell ⟨bz,1+k*5+1,none⟩ v1).setCell ⟨bz,1+k*5+2,none⟩ v2).setCell ⟨bz,1+k*5+3,none⟩ v3).setCell ⟨bz,1+k*5+4,none⟩ v4
theorem Rep.laid {w:World}{X:Nat->Prop}{br bz B:Nat}{s:BA}{i:Nat}{bad:Bool}{wr mx:Int}{ts:List TR}{us:List (Nat×Nat)}{zs:List Value}{tv u:Value}(R:Rep w X br bz B s i bad wr mx ts us zs tv u) (k:Nat) (v0 v1 v2 v3 v4:Value) :
 Rep (laid w bz k v0 v1 v2 v3 v4) X br bz B s i bad wr mx ts us (set5 zs (5*k) v0 v1 v2 v3 v4) tv u/\Step w (Go.Proofs.YthmjjpkjgjklmaaGreatDoor.laid w bz k v0 v1 v2 v3 v4) br bz tv u tv u:=by
 have h:=R.setDef (5*k) v0 v1 v2 v3 v4;unfold Go.Proofs.YthmjjpkjgjklmaaGreatDoor.laid;rw[show 1+k*5=5*k+1 by omega,show 5*k+1+2=5*k+2+1 by omega,show 5*k+1+3=5*k+3+1 by omega,show 5*k+1+4=5*k+4+1 by omega];exact h
section
variable {w W:World} {X Xk:Nat->Prop} {br bz B:Nat} {s:BA} {wr mx:Int} {tv0 u0 tv u:Value} {ds:List PD} {j j6 e2 c k n:Nat} {bad6:Bool} {pb:PB} {zs:List Value}
end
end Go.Proofs.YthmjjpkjgjklmaaGreatDoor
