import Derived.Test.YtiifagiebikmdaaGreatDoorW04
namespace Go.Proofs.YtiifagiebikmdaaGreatDoor
open Go.RowKit
theorem hide {p:Prop}(h:p):Hid p:=h
def zeroDef:List Value:=[.int .u8 0,.slice none 0 0,.string ⟨#[]⟩,.int .i64 0,.int .i64 0]
def recDef (fv:Value):List Value:=[.int .u8 114,fv,.string ⟨#[]⟩,.int .i64 (-1),.int .i64 0]
def RX (w:World) (X:Nat→Prop) (fv:Value) (Y:Nat→Prop):Nat→Prop:=fun g=>X g∨g=w.heap.size∨g=w.heap.size+1∨fv.ownBlock=some g∨Y g
structure RM (w:World) (X:Nat→Prop) (br bz B:Nat) (s:ByteArray) (j:Nat) (bad:Bool) (wg MX:Int) (TS:List TR) (US:List (Nat×Nat)) (zs:List Value) (tv u tv2 u2 fv:Value) (n:Nat) (xs:List Value) (Y:Nat→Prop) (W:World):Prop where
 R:Rep W (RX w X fv Y) br bz B s j bad wg MX TS US zs tv2 u2
 b2:Blk W w.heap.size zeroDef 44
 b3:Blk W (w.heap.size+1) (recDef fv) 44
 own:W.ownsRow B 80 10 fv n xs
 sn:∀ g,fv.ownBlock=some g→w.heap.size+2≤g
 yn:∀ g,Y g→w.heap.size+2≤g∧fv.ownBlock≠some g
 st:Step w W br bz tv u tv2 u2
section
variable {w W W':World} {X Y:Nat→Prop} {br bz B:Nat} {s:ByteArray} {j:Nat} {bad:Bool} {wg MX:Int} {TS:List TR} {US:List (Nat×Nat)} {zs:List Value} {tv u tv2 u2 fv:Value} {n:Nat} {xs:List Value}
theorem RM.call (M:RM w X br bz B s j bad wg MX TS US zs tv u tv2 u2 fv n xs Y W){j':Nat}{bad':Bool}{wg' MX':Int}{TS':List TR}{US':List (Nat×Nat)}{tv3 u3:Value}
 (R':Rep W' (RX w X fv Y) br bz B s j' bad' wg' MX' TS' US' zs tv3 u3) (st:Step W W' br bz tv2 u2 tv3 u3):RM w X br bz B s j' bad' wg' MX' TS' US' zs tv u tv3 u3 fv n xs Y W':=
 ⟨R',st.fr.blk M.b2 (M.R.offS (.inr (.inl rfl))),st.fr.blk M.b3 (M.R.offS (.inr (.inr (.inl rfl)))),ownsRow_fr M.own st.fr (fun _ hg=>M.R.offS (.inr (.inr (.inr (.inl hg))))),M.sn,M.yn,M.st.trans st⟩
theorem RM.keep (M:RM w X br bz B s j bad wg MX TS US zs tv u tv2 u2 fv n xs Y W){tv3 u3:Value}(st:Step W W' br bz tv2 u2 tv3 u3){g t:Nat}{cs:List Value}(hg:Y g) (hb:Blk W g cs t):Blk W' g cs t:=
 st.fr.blk hb (M.R.offS (.inr (.inr (.inr (.inr hg)))))
theorem RM.still (M:RM w X br bz B s j bad wg MX TS US zs tv u tv2 u2 fv n xs Y W) (h:Still W W'):RM w X br bz B s j bad wg MX TS US zs tv u tv2 u2 fv n xs Y W':=M.call (M.R.still h) (Step.ofStill h)
theorem RM.inc (M:RM w X br bz B s j bad wg MX TS US zs tv u tv2 u2 fv n xs Y W) (h:j<s.size):RM w X br bz B s (j+1) bad wg MX TS US zs tv u tv2 u2 fv n xs Y (W.setCell ⟨br,1,none⟩ (.int .i64 ((j:Int)+1))):=M.call (M.R.inc h).1 (M.R.inc h).2
theorem RM.out (M:RM w X br bz B s j bad wg MX TS US zs tv u tv2 u2 fv n xs Y W) (hf:Fr W W' Y):RM w X br bz B s j bad wg MX TS US zs tv u tv2 u2 fv n xs (fun g=>Y g∨(W.heap.size≤g∧g<W'.heap.size)) W':=by
 have l3:=M.b3.lt
 have hX:Fr W W' (RX w X fv Y):=hf.mono (fun _ _ h=>.inr (.inr (.inr (.inr h))))
 refine⟨(M.R.out hX).fewer (fun g hg=>?_),hf.blk M.b2 (fun h=>by have:=M.yn _ h;omega),hf.blk M.b3 (fun h=>by have:=M.yn _ h;omega),ownsRow_fr M.own hf (fun g hg h=>(M.yn g h).2 hg),M.sn,fun g hg=>?_,M.st.out hf (fun g hg=>by have:=M.yn g hg;omega)⟩
 ·rcases hg with h|h|h|h|h|h
  ·exact .inl (.inl h)
  ·exact .inl (.inr (.inl h))
  ·exact .inl (.inr (.inr (.inl h)))
  ·exact .inl (.inr (.inr (.inr (.inl h))))
  ·exact .inl (.inr (.inr (.inr (.inr h))))
  ·exact .inr h
 ·rcases hg with h|h
  ·exact M.yn g h
  ·exact⟨by omega,fun e=>by have:=M.own.lt g e;omega⟩
theorem RM.less (M:RM w X br bz B s j bad wg MX TS US zs tv u tv2 u2 fv n xs Y W){Z:Nat→Prop}(hZ:∀ g,Z g→Y g):RM w X br bz B s j bad wg MX TS US zs tv u tv2 u2 fv n xs Z W:=
 ⟨M.R.fewer (fun g hg=>by
  rcases hg with h|h|h|h|h
  ·exact .inl h
  ·exact .inr (.inl h)
  ·exact .inr (.inr (.inl h))
  ·exact .inr (.inr (.inr (.inl h)))
  ·exact .inr (.inr (.inr (.inr (hZ g h))))),M.b2,M.b3,M.own,M.sn,fun g hg=>M.yn g (hZ g hg),M.st⟩
theorem RM.alloc (M:RM w X br bz B s j bad wg MX TS US zs tv u tv2 u2 fv n xs Y W) (o:Obj):RM w X br bz B s j bad wg MX TS US zs tv u tv2 u2 fv n xs Y (W.alloc o):=(M.out ((Fr.refl W Y).alloc o)).less (fun _ h=>.inl h)
theorem RM.mine (M:RM w X br bz B s j bad wg MX TS US zs tv u tv2 u2 fv n xs (fun _=>False) W) (o:Obj):RM w X br bz B s j bad wg MX TS US zs tv u tv2 u2 fv n xs (fun g=>g=W.heap.size) (W.alloc o):=
 (M.out ((Fr.refl W _).alloc o)).less (fun g h=>.inr ⟨by omega,by simp;omega⟩)
theorem RM.put (M:RM w X br bz B s j bad wg MX TS US zs tv u tv2 u2 fv n xs Y W) (g o:Nat) (v:Value) (hg:Y g):RM w X br bz B s j bad wg MX TS US zs tv u tv2 u2 fv n xs Y (W.setCell ⟨g,o,none⟩ v):=
 (M.out ((Fr.refl W Y).setCell ⟨g,o,none⟩ v (fun _=>hg))).less (fun _ h=>.inl h)
theorem RM.grow (M:RM w X br bz B s j bad wg MX TS US zs tv u tv2 u2 fv n xs Y W){b:Obj}{w5:World}{v5:Value}{ys:List Value}(hg:(W.alloc b).grownBy w5 fv.ownBlock)
 (ho:w5.ownsRow B 80 10 v5 (n+1) ys) (hl:v5.ownBlock=fv.ownBlock∨v5.ownBlock=some (W.alloc b).heap.size) :
 RM w X br bz B s j bad wg MX TS US zs tv u tv2 u2 v5 (n+1) ys (fun _=>False) (w5.setCell ⟨w.heap.size+1,1,none⟩ v5):=by
 have hF:Fr W w5 (fun g=>fv.ownBlock=some g):=Fr.grown ((Fr.refl W _).alloc b) hg (fun k e _=>e)
 have l2:=M.b2.lt
 have l3:=M.b3.lt
 have hv:∀ g,v5.ownBlock=some g→w.heap.size+2≤g∧(fv.ownBlock=some g∨W.heap.size≤g):=fun g hg'=>by
  rcases hl with e|e
  ·exact⟨M.sn g (e▸hg'),.inl (e▸hg')⟩
  ·rw[e] at hg'
   simp only[Option.some.injEq] at hg'
   have:(W.alloc b).heap.size=W.heap.size+1:=by simp
   exact⟨by omega,.inr (by omega)⟩
 have B2:=hF.blk M.b2 (fun e=>by have:=M.sn _ e;omega)
 have B3:=hF.blk M.b3 (fun e=>by have:=M.sn _ e;omega)
 have hG:Fr w5 (w5.setCell ⟨w.heap.size+1,1,none⟩ v5) (fun g=>g=w.heap.size+1):=(Fr.refl w5 (fun g=>g=w.heap.size+1)).setCell ⟨w.heap.size+1,1,none⟩ v5 (fun _=>rfl)
 have B2':=hG.blk B2 (by omega)
 have B3':Blk (w5.setCell ⟨w.heap.size+1,1,none⟩ v5) (w.heap.size+1) (recDef v5) 44:=B3.set 1 v5
 have ho':=ownsRow_fr ho hG (fun g hg' e=>by have:=hv g hg';omega)
 have hH:Fr W (w5.setCell ⟨w.heap.size+1,1,none⟩ v5) (RX w X fv Y):=(hF.mono (fun _ _ e=>.inr (.inr (.inr (.inl e))))).trans hG (fun _ _ e=>.inr (.inr (.inl e)))
 have hst:Fr W (w5.setCell ⟨w.heap.size+1,1,none⟩ v5) (fun g=>fv.ownBlock=some g∨g=w.heap.size+1):=(hF.mono (fun _ _ e=>.inl e)).trans hG (fun _ _ e=>.inr e)
 refine⟨(M.R.out hH).fewer (fun g hg'=>?_),B2',B3',ho',fun g hg'=>(hv g hg').1,fun g hg'=>hg'.elim,M.st.out hst (fun g hg'=>?_)⟩
 ·rcases hg' with e|e|e|e|e
  ·exact .inl (.inl e)
  ·exact .inl (.inr (.inl e))
  ·exact .inl (.inr (.inr (.inl e)))
  ·rcases(hv g e).2 with q|q
   ·exact .inl (.inr (.inr (.inr (.inl q))))
   ·exact .inr ⟨q,(ho'.lt g e).2⟩
  ·exact e.elim
 ·rcases hg' with e|e
  ·have:=M.sn g e;omega
  ·omega
theorem RM.growCell (M:RM w X br bz B s j bad wg MX TS US zs tv u tv2 u2 fv n xs Y W){b:Obj}{w5:World}(hg:(W.alloc b).grownBy w5 fv.ownBlock):w5.cell? ⟨w.heap.size+1,1,none⟩=some fv∧w5.frozen? ⟨w.heap.size+1,1,none⟩=false:=by
 have hF:Fr W w5 (fun g=>fv.ownBlock=some g):=Fr.grown ((Fr.refl W _).alloc b) hg (fun k e _=>e)
 have B3:=hF.blk M.b3 (fun e=>by have:=M.sn _ e;omega)
 exact⟨B3.cell 1,B3.thaw 1⟩
end
def Fc (l num:Int) (h:Bool) (a:Int) (t:ByteArray):List Value:=
 [.int .u8 l,.int .i64 num,.bool h,.int .i64 a,.string t,.int .u8 0,.int .i64 0,.string ⟨#[]⟩,.slice none 0 0,.slice none 0 0]
theorem SmallRep.any {w:World}{X:Nat→Prop}{br bz B:Nat}{s:ByteArray}{i:Nat}{wr mx:Int}{ts:List TR}{us:List (Nat×Nat)}{zs:List Value}{tv u:Value}{w':World}(h:SmallRep w X br bz B s i wr mx ts us zs tv u w') :
 ∃ j bad,Rep w' X br bz B s j bad wr mx ts us zs tv u∧Step w w' br bz tv u tv u∧Hid ((isSmall (bt s i)=true∧j=i+1∧bad=false)∨(isSmall (bt s i)=false∧j=i∧bad=true)):=by
 obtain⟨h1,h2⟩:=h
 cases hs:isSmall (bt s i) with
 | true=>rw[if_pos hs] at h1;exact⟨_,_,h1,h2,.inl ⟨rfl,rfl,rfl⟩⟩
 | false=>rw[if_neg (by rw[hs];decide)] at h1;exact⟨_,_,h1,h2,.inr ⟨rfl,rfl,rfl⟩⟩
theorem peek_pk {w:World}{X:Nat→Prop}{br bz B:Nat}{s:ByteArray}{i:Nat}{bad:Bool}{wr mx:Int}{ts:List TR}{us:List (Nat×Nat)}{zs:List Value}{tv u:Value}(R:Rep w X br bz B s i bad wr mx ts us zs tv u) :
 Calls Tryz.prog 39 #[.pointer (some ⟨br,0,none⟩)] w fun e w'=>e=.returned (.int .u8 (pk s i bad))∧Still w w':=by
 have h1:=R.il
 have h2:=R.sl
 exact peek_any R.here R.sl (by simp only;omega)
def OutC (s:ByteArray) (p j:Nat) (bad:Bool):Prop:=
 (bad=true∧pField s p=.error j)∨(bad=false∧isSmall (bt s p)=true∧bt s (p+1)=58∧j=p+2)
def OutD (s:ByteArray) (p:Nat) (MX0:Int) (TS0:List TR) (US0:List (Nat×Nat)) (j:Nat) (bad:Bool) (MX:Int) (TS:List TR) (US:List (Nat×Nat)) (num:Int):Prop:=
 (bad=true∧pField s p=.error j)∨
 (bad=false∧isSmall (bt s p)=true∧bt s (p+1)=58∧∃ ty,pT s (p+2)=.ok (ty,j)∧MX=mix ty MX0∧TS=TS0++flat TS0.length ty∧US=US0++usesOf ty∧num=((TS0.length+(flat TS0.length ty).length-1:Nat):Int))
def OutE (s:ByteArray) (p:Nat) (MX0:Int) (TS0:List TR) (US0:List (Nat×Nat)) (l:Nat) (j:Nat) (bad:Bool) (MX:Int) (TS:List TR) (US:List (Nat×Nat)) (num:Int) (h:Bool) (a:Int) (t:ByteArray):Prop:=
 (bad=true∧pField s p=.error j)∨
 (bad=false∧∃ f,pField s p=.ok (f,j)∧f.letter=bt s p∧f.place=p∧l=bt s p∧MX=mix f.ty MX0∧TS=TS0++flat TS0.length f.ty∧US=US0++usesOf f.ty∧Fc (bt s p) num h a t=fcells s f (TS0.length+(flat TS0.length f.ty).length-1))
theorem outC_bad {s:ByteArray}{p j:Nat}{bad:Bool}(h:(isSmall (bt s p)=true∧j=p+1∧bad=false)∨(isSmall (bt s p)=false∧j=p∧bad=true)) (hb:bad=true):OutC s p j true:=by
 rcases h with⟨_,_,h⟩|⟨h1,rfl,_⟩
 ·rw[hb] at h;cases h
 ·exact .inl ⟨rfl,by unfold pField;rw[if_neg (by rw[h1];decide)]⟩
theorem outC_good {s:ByteArray}{p j:Nat}{bad:Bool}(h:(isSmall (bt s p)=true∧j=p+1∧bad=false)∨(isSmall (bt s p)=false∧j=p∧bad=true)) (hb:bad=false) :
 (bt s j=58→OutC s p (j+1) false)∧(bt s j≠58→OutC s p j true):=by
 rcases h with⟨h1,rfl,_⟩|⟨_,_,h⟩
 ·exact⟨fun h2=>.inr ⟨rfl,h1,h2,rfl⟩,fun h2=>.inl ⟨rfl,by unfold pField;rw[if_pos h1,if_neg h2]⟩⟩
 ·rw[hb] at h;cases h
theorem outD_bad {s:ByteArray}{p j:Nat}{MX0 MX:Int}{TS0 TS:List TR}{US0 US:List (Nat×Nat)}{num:Int}(h:OutC s p j true):OutD s p MX0 TS0 US0 j true MX TS US num:=by
 rcases h with h|⟨h,_⟩
 ·exact .inl h
 ·cases h
theorem outD_good {s:ByteArray}{p j:Nat}(h:OutC s p j false):j=p+2∧isSmall (bt s p)=true∧bt s (p+1)=58:=by
 rcases h with⟨h,_⟩|⟨_,h1,h2,h3⟩
 ·cases h
 ·exact⟨h3,h1,h2⟩
theorem pField_err {s:ByteArray}{p k:Nat}(h1:isSmall (bt s p)=true) (h2:bt s (p+1)=58) (h:pT s (p+2)=.error k):pField s p=.error k:=by
 unfold pField;rw[if_pos h1,if_pos h2,h]
theorem pField_plain {s:ByteArray}{p j:Nat}{ty:PT}(h1:isSmall (bt s p)=true) (h2:bt s (p+1)=58) (h:pT s (p+2)=.ok (ty,j)) (h3:bt s j≠61):pField s p=.ok (⟨bt s p,p,ty,none⟩,j):=by
 unfold pField;rw[if_pos h1,if_pos h2,h];simp only;rw[if_neg h3]
theorem pField_dflt {s:ByteArray}{p j e:Nat}{ty:PT}(h1:isSmall (bt s p)=true) (h2:bt s (p+1)=58) (h:pT s (p+2)=.ok (ty,j)) (h3:bt s j=61) (h4:pD s (j+1) 0=some e):pField s p=.ok (⟨bt s p,p,ty,some (j+1,e)⟩,e):=by
 unfold pField;rw[if_pos h1,if_pos h2,h];simp only;rw[if_pos h3,h4]
theorem pField_open {s:ByteArray}{p j:Nat}{ty:PT}(h1:isSmall (bt s p)=true) (h2:bt s (p+1)=58) (h:pT s (p+2)=.ok (ty,j)) (h3:bt s j=61) (h4:pD s (j+1) 0=none):pField s p=.error s.size:=by
 unfold pField;rw[if_pos h1,if_pos h2,h];simp only;rw[if_pos h3,h4]
def recRes (s:ByteArray) (i:Nat):Except Nat (List PF×Nat):=if bt s i=41 then .ok ([],i+1) else pFields s i
def RecPost (w:World) (X:Nat→Prop) (br bz B:Nat) (s:ByteArray) (i:Nat) (wr mx:Int) (ts:List TR) (us:List (Nat×Nat)) (zs:List Value) (tv u:Value) (e:Ending) (w':World):Prop:=
 ∃ fv n xs tv' u',e=.returned (.agg (recDef fv).toArray)∧Step w w' br bz tv u tv' u'∧w'.ownsRow B 80 10 fv n xs∧(∀ g,fv.ownBlock=some g→w.heap.size≤g∧tv'.ownBlock≠some g∧u'.ownBlock≠some g)∧
 match pRecord s i with
 | .ok (ds,j)=>n=ds.length∧xs=recCells s ts.length ds∧Rep w' (fun g=>X g∨fv.ownBlock=some g) br bz B s j false (wrF [] ds wr) (mixF ds mx) (ts++flats ts.length (ds.map PF.ty)) (us++usesAll (ds.map PF.ty)) zs tv' u'
 | .error k=>∃ wr' mx' ts' us',Rep w' (fun g=>X g∨fv.ownBlock=some g) br bz B s k true wr' mx' ts' us' zs tv' u'
def RecInv (RES:Except Nat (List PF×Nat)) (w:World) (X:Nat→Prop) (br bz B:Nat) (s:ByteArray) (i:Nat) (wr mx:Int) (ts:List TR) (us:List (Nat×Nat)) (zs:List Value) (tv u:Value) (m:Nat) (kv:Value) (W:World):Prop:=
 ∃ (kb:ByteArray) (fv tv' u':Value),kv=.string kb∧kb.size≤300∧
  ((∃ (ds:List PF) (j:Nat),RM w X br bz B s j false (wrF [] ds wr) (mixF ds mx) (ts++flats ts.length (ds.map PF.ty)) (us++usesAll (ds.map PF.ty)) zs tv u tv' u' fv ds.length (recCells s ts.length ds) (fun _=>False) W∧
   kb.data.toList.map UInt8.toNat=ds.map PF.letter∧i+ds.length≤j∧s.size+2-j≤m∧((ds=[]∧j=i∧RES=recRes s i)∨(ds≠[]∧RES=contF s ds j)))∨
   (∃ k n xs wg MX TS US,RM w X br bz B s k true wg MX TS US zs tv u tv' u' fv n xs (fun _=>False) W∧RES=.error k))
theorem pField_small {s:ByteArray}{p:Nat}{f:PF}{j:Nat}(h:pField s p=.ok (f,j)):isSmall (bt s p)=true:=by
 unfold pField at h
 split at h
 ·assumption
 ·cases h
theorem pk_61 {s:ByteArray}{j:Nat}{bad:Bool}(h:pk s j bad=61):bad=false∧bt s j=61:=by
 cases bad with
 | true=>simp[pk] at h
 | false=>rw[pk_bt] at h;exact⟨rfl,by omega⟩
theorem Blk.still {w w':World}{b t:Nat}{cs:List Value}(h:Blk w b cs t) (hw:Still w w'):Blk w' b cs t:=by
 obtain⟨n,rfl⟩:=hw;exact h
theorem outE_plain {s:ByteArray}{p l j:Nat}{bad:Bool}{MX0 MX:Int}{TS0 TS:List TR}{US0 US:List (Nat×Nat)}{num:Int}(h:OutD s p MX0 TS0 US0 j bad MX TS US num) (hl:l=if isSmall (bt s p)=true then bt s p else 0) (h61:pk s j bad≠61):OutE s p MX0 TS0 US0 l j bad MX TS US num false 0 ⟨#[]⟩:=by
 rcases h with h|⟨rfl,h1,h2,ty,h3,h4,h5,h6,h7⟩
 ·exact .inl h
 ·rw[pk_bt] at h61
  rw[if_pos h1] at hl
  exact .inr ⟨rfl,_,pField_plain h1 h2 h3 (by omega),rfl,rfl,hl,h4,h5,h6,by rw[h7];rfl⟩
theorem outE_open {s:ByteArray}{p l j:Nat}{MX0 MX:Int}{TS0 TS:List TR}{US0 US:List (Nat×Nat)}{num:Int}(h:OutD s p MX0 TS0 US0 j false MX TS US num) (h61:bt s j=61) (hd:pD s (j+1) 0=none) (b:Bool) (a:Int) (t:ByteArray):OutE s p MX0 TS0 US0 l s.size true MX TS US num b a t:=by
 rcases h with⟨h,_⟩|⟨_,h1,h2,ty,h3,_⟩
 ·cases h
 ·exact .inl ⟨rfl,pField_open h1 h2 h3 h61 hd⟩
theorem outE_dflt {s:ByteArray}{p l j e:Nat}{MX0 MX:Int}{TS0 TS:List TR}{US0 US:List (Nat×Nat)}{num:Int}(h:OutD s p MX0 TS0 US0 j false MX TS US num) (hl:l=if isSmall (bt s p)=true then bt s p else 0) (h61:bt s j=61) (hd:pD s (j+1) 0=some e):OutE s p MX0 TS0 US0 l e false MX TS US num true ((j:Int)+1) (s.extract (j+1) e):=by
 rcases h with⟨h,_⟩|⟨_,h1,h2,ty,h3,h4,h5,h6,h7⟩
 ·cases h
 ·rw[if_pos h1] at hl
  exact .inr ⟨rfl,_,pField_dflt h1 h2 h3 h61 hd,rfl,rfl,hl,h4,h5,h6,by rw[h7];rfl⟩
theorem rec_good {RES:Except Nat (List PF×Nat)}{w W:World}{X:Nat→Prop}{br bz B:Nat}{s:ByteArray}{i p j3 j6 l:Nat}{bad3 D:Bool}{wg mx wg5 MX num a:Int}{ts TS:List TR}{us US:List (Nat×Nat)}{zs:List Value}{tv u tv5 u5 v5:Value}{ds:List PF}{kb t:ByteArray}{h:Bool}(n:Nat)
 (hres:RES=aheadF ds (pFields s p)) (hp:p≤s.size) (hs:s.size≤300) (hip:i+ds.length≤p) (hkb:kb.data.toList.map UInt8.toNat=ds.map PF.letter)
 (o:OutE s p (mixF ds mx) (ts++flats ts.length (ds.map PF.ty)) (us++usesAll (ds.map PF.ty)) l j6 false MX TS US num h a t)
 (hwg:wg5=if D=true then firstOf p (wrF [] ds wg) else wrF [] ds wg) (hD:D=(decide (0≤plc kb l) && !bad3))
 (h3:(isSmall (bt s p)=true∧j3=p+1∧bad3=false)∨(isSmall (bt s p)=false∧j3=p∧bad3=true))
 (M:RM w X br bz B s j6 false wg5 MX TS US zs tv u tv5 u5 v5 (ds.length+1) (recCells s ts.length ds++Fc l num h a t) (fun _=>False) W) (hn:s.size+2-j6≤n) :
 RecInv RES w X br bz B s i wg mx ts us zs tv u n (.string (kb++⟨#[UInt8.ofNat l]⟩)) W:=by
 rcases o with⟨h0,_⟩|⟨_,f,hf,hl,hpl,hlb,hMX,hTS,hUS,hc⟩
 ·cases h0
 ·have hsm:=pField_small hf
  have hb3:bad3=false:=by
   rcases h3 with⟨_,_,h⟩|⟨h,_⟩
   ·exact h
   ·rw[hsm] at h;cases h
  have hbd:=(pField_bounds hp).1 f j6 hf
  have hl256:l<256:=by rw[hlb];exact bt_lt _ _
  have hwr:wrF [] (ds++[f]) wg=wg5:=by
   rw[wrF_snoc,hwg,hD,hb3,hpl]
   have hm:f.letter∈[]++ds.map PF.letter↔0≤plc kb l:=by rw[plc_mem,hkb,hl,hlb];simp
   by_cases hq:0≤plc kb l
   ·rw[if_pos (hm.2 hq),if_pos (by simp[hq])]
   ·rw[if_neg (fun x=>hq (hm.1 x)),if_neg (by simp[hq])]
  have hsz:=congrArg List.length hkb
  simp only[List.length_map,Array.length_toList] at hsz
  have hsz':kb.size=kb.data.size:=rfl
  refine⟨_,v5,tv5,u5,rfl,?_,.inl ⟨ds++[f],j6,?_,?_,?_,hn,.inr ⟨by simp,?_⟩⟩⟩
  ·rw[ByteArray.size_append]
   have:(⟨#[UInt8.ofNat l]⟩:ByteArray).size=1:=rfl
   omega
  ·rw[hwr,mixF_snoc,List.map_append,List.map_cons,List.map_nil,flats_snoc,usesAll_snoc,recCells_snoc,← List.append_assoc,← List.append_assoc,List.length_append,List.length_cons,List.length_nil]
   rw[List.length_append] at hTS hc
   rw[← hMX,← hTS,← hUS,← hc,← hlb]
   exact M
  ·rw[kb_snoc hkb hl256,List.map_append,hlb,← hl];rfl
  ·rw[List.length_append,List.length_cons,List.length_nil];omega
  ·rw[hres,ahead_pFields s ds p hp,hf]
theorem kb_size {kb:ByteArray}{ds:List PF}(h:kb.data.toList.map UInt8.toNat=ds.map PF.letter) (x:UInt8):(kb++⟨#[x]⟩:ByteArray).size=ds.length+1:=by
 have hsz:=congrArg List.length h
 simp only[List.length_map,Array.length_toList] at hsz
 have hsz':kb.size=kb.data.size:=rfl
 rw[ByteArray.size_append]
 have:(⟨#[x]⟩:ByteArray).size=1:=rfl
 omega
theorem rec_bad {RES:Except Nat (List PF×Nat)}{w W:World}{X:Nat→Prop}{br bz B:Nat}{s:ByteArray}{i p j6 l:Nat}{wg mx MX0 wg5 MX num a:Int}{ts TS TS0:List TR}{us US US0:List (Nat×Nat)}{zs:List Value}{tv u tv5 u5 v5:Value}{ds:List PF}{kb t:ByteArray}{h:Bool}{m:Nat}{xs:List Value}(n:Nat)
 (hres:RES=aheadF ds (pFields s p)) (hp:p≤s.size) (hkbs:(kb++⟨#[UInt8.ofNat l]⟩:ByteArray).size≤300)
 (o:OutE s p MX0 TS0 US0 l j6 true MX TS US num h a t) (M:RM w X br bz B s j6 true wg5 MX TS US zs tv u tv5 u5 v5 m xs (fun _=>False) W) :
 RecInv RES w X br bz B s i wg mx ts us zs tv u n (.string (kb++⟨#[UInt8.ofNat l]⟩)) W:=by
 rcases o with⟨_,he⟩|⟨h0,_⟩
 ·refine⟨_,v5,tv5,u5,rfl,hkbs,.inr ⟨j6,_,_,_,_,_,_,M,?_⟩⟩
  rw[hres,ahead_pFields s ds p hp,he]
 ·cases h0
end Go.Proofs.YtiifagiebikmdaaGreatDoor
