import Derived.Test.YtiifagiebikmdaaGreatDoorW07
import Derived.Test.YtiifagiebikmdaaGreatDoorW00
namespace Go.Proofs.YtiifagiebikmdaaGreatDoor
open Go.RowKit
def PB.wr:PB→Int→Int
 | .recd ds,m=>wrF [] ds m
 | .enum l o,m=>wrE l o m
 | .bytes _,m=>m
def PB.mx:PB→Int→Int
 | .recd ds,m=>mixF ds m
 | .enum _ _,m=>m
 | .bytes _,m=>m
def PB.ts (b:Nat):PB→List TR
 | .recd ds=>flats b (ds.map PF.ty)
 | .enum _ _=>[]
 | .bytes _=>[]
def PB.us:PB→List (Nat×Nat)
 | .recd ds=>usesAll (ds.map PF.ty)
 | .enum _ _=>[]
 | .bytes _=>[]
def dcells (so:Int) (fv:Value) (sb:ByteArray) (o n:Int):List Value:=[.int .u8 so,fv,.string sb,.int .i64 o,.int .i64 n]
def DefIs (s:ByteArray) (b:Nat) (pb:PB) (so:Int) (cnt:Nat) (xs:List Value) (sb:ByteArray) (o n:Int):Prop:=
 match pb with
 | .recd ds=>so=114∧cnt=ds.length∧xs=recCells s b ds∧o = -1∧n=0
 | .enum l unk=>so=101∧cnt=0∧sb.data.toList.map UInt8.toNat=l.map Prod.fst∧o=(match unk with|none=>-1|some (c,_)=>plc sb c)∧n=0
 | .bytes k=>so=102∧cnt=0∧o = -1∧n=(k:Int)
def DefnPost (w:World) (X:Nat→Prop) (br bz B:Nat) (s:ByteArray) (i:Nat) (wr mx:Int) (ts:List TR) (us:List (Nat×Nat)) (zs:List Value) (tv u:Value) (e:Ending) (w':World):Prop:=
 ∃ so fv sb o n cnt xs tv' u',e=.returned (.agg (dcells so fv sb o n).toArray)∧Step w w' br bz tv u tv' u'∧w'.ownsRow B 80 10 fv cnt xs∧(∀ g,fv.ownBlock=some g→w.heap.size≤g∧tv'.ownBlock≠some g∧u'.ownBlock≠some g)∧
 match pDefn s i with
 | .ok (pb,j)=>DefIs s ts.length pb so cnt xs sb o n∧Rep w' (fun g=>X g∨fv.ownBlock=some g) br bz B s j false (pb.wr wr) (pb.mx mx) (ts++pb.ts ts.length) (us++pb.us) zs tv' u'
 | .error k=>∃ wr' mx' ts' us',Rep w' (fun g=>X g∨fv.ownBlock=some g) br bz B s k true wr' mx' ts' us' zs tv' u'
theorem pDefn_rec {s:ByteArray}{i:Nat}(h:bt s i=114):pDefn s i=match pRecord s (i+1) with | .error k=>.error k | .ok (ds,j)=>.ok (.recd ds,j):=by
 unfold pDefn;rw[if_pos h];rfl
theorem pDefn_enum {s:ByteArray}{i:Nat}(h:bt s i=101):pDefn s i=match pEnum s (i+1) with | .error k=>.error k | .ok ((l,o),j)=>.ok (.enum l o,j):=by
 unfold pDefn;rw[if_neg (by omega),if_pos h];rfl
theorem pDefn_bytes {s:ByteArray}{i:Nat}(h:bt s i=102):pDefn s i=if 48≤bt s (i+1)∧bt s (i+1)≤57 then .ok (.bytes (bt s (i+1)-48),i+2) else .error (i+1):=by
 unfold pDefn;rw[if_neg (by omega),if_neg (by omega),if_pos h]
theorem pDefn_bad {s:ByteArray}{i:Nat}(h1:bt s i≠114) (h2:bt s i≠101) (h3:bt s i≠102):pDefn s i=.error i:=by
 unfold pDefn;rw[if_neg h1,if_neg h2,if_neg h3]
section
variable {w W W':World} {X:Nat→Prop} {br bz B:Nat} {s:ByteArray} {i:Nat} {wr mx:Int} {ts:List TR} {us:List (Nat×Nat)} {zs:List Value} {tv u:Value}
theorem defn_plain (R:Rep w X br bz B s i false wr mx ts us zs tv u){so:Int}{sb:ByteArray}{o n:Int}{j:Nat}{bad:Bool}
 (R':Rep W (fun g=>X g∨g=w.heap.size) br bz B s j bad wr mx ts us zs tv u) (st:Step w W br bz tv u tv u) (hF:Fr W W' (fun g=>g=w.heap.size))
 (h:(bad=true∧pDefn s i=.error j)∨(∃ k,bad=false∧pDefn s i=.ok (.bytes k,j)∧so=102∧o = -1∧n=(k:Int))) :
 DefnPost w X br bz B s i wr mx ts us zs tv u (.returned (.agg (dcells so (.slice none 0 0) sb o n).toArray)) W':=by
 have _:=R.il
 have hR:=(R'.out (hF.mono (fun _ _ e=>.inr e))).fewer (Y:=fun g=>X g∨(Value.slice none 0 0).ownBlock=some g) (fun g hg=>by
  rcases hg with e|e
  ·exact .inl (.inl e)
  ·simp[Value.ownBlock] at e)
 refine⟨so,_,sb,o,n,0,[],tv,u,rfl,st.out hF (fun g hg=>by omega),World.ownsRow_nil _ _ _ _,fun g hg=>by simp[Value.ownBlock] at hg,?_⟩
 rcases h with⟨rfl,h⟩|⟨k,rfl,h,rfl,rfl,rfl⟩
 ·rw[h];exact⟨_,_,_,_,hR⟩
 ·rw[h]
  refine⟨⟨rfl,rfl,rfl,rfl⟩,?_⟩
  simpa[PB.wr,PB.mx,PB.ts,PB.us] using hR
theorem defn_rec {w1:World}{fv tv' u':Value}{cnt:Nat}{xs:List Value}(hlt:w.heap.size<w1.heap.size) (h114:bt s i=114) (st1:Step w w1 br bz tv u tv u) (st:Step w1 W br bz tv u tv' u') (own:W.ownsRow B 80 10 fv cnt xs)
 (av:∀ g,fv.ownBlock=some g→w1.heap.size≤g∧tv'.ownBlock≠some g∧u'.ownBlock≠some g) (hF:Fr W W' (fun g=>g=w.heap.size))
 (hm:match pRecord s (i+1) with
  | .ok (ds,j)=>cnt=ds.length∧xs=recCells s ts.length ds∧Rep W (fun g=>(X g∨g=w.heap.size)∨fv.ownBlock=some g) br bz B s j false (wrF [] ds wr) (mixF ds mx) (ts++flats ts.length (ds.map PF.ty)) (us++usesAll (ds.map PF.ty)) zs tv' u'
  | .error k=>∃ wr' mx' ts' us',Rep W (fun g=>(X g∨g=w.heap.size)∨fv.ownBlock=some g) br bz B s k true wr' mx' ts' us' zs tv' u') :
 DefnPost w X br bz B s i wr mx ts us zs tv u (.returned (.agg (dcells 114 fv ⟨#[]⟩ (-1) 0).toArray)) W':=by
 refine⟨114,fv,_,-1,0,cnt,xs,tv',u',rfl,(st1.trans st).out hF (fun g hg=>by omega),ownsRow_fr own hF (fun g hg e=>by have:=(av g hg).1;omega),fun g hg=>⟨by have:=(av g hg).1;omega,(av g hg).2⟩,?_⟩
 rw[pDefn_rec h114]
 have hX:∀ {j:Nat} {bad:Bool} {wr' mx':Int} {ts':List TR} {us':List (Nat×Nat)},Rep W (fun g=>(X g∨g=w.heap.size)∨fv.ownBlock=some g) br bz B s j bad wr' mx' ts' us' zs tv' u'→Rep W' (fun g=>X g∨fv.ownBlock=some g) br bz B s j bad wr' mx' ts' us' zs tv' u':=fun hR=>
  (hR.out (hF.mono (fun _ _ e=>.inl (.inr e)))).fewer (fun g hg=>by
   rcases hg with e|e
   ·exact .inl (.inl (.inl e))
   ·exact .inl (.inr e))
 cases hp:pRecord s (i+1) with
 | error k=>
  rw[hp] at hm
  obtain⟨_,_,_,_,hR⟩:=hm
  exact⟨_,_,_,_,hX hR⟩
 | ok q=>
  obtain⟨ds,j⟩:=q
  rw[hp] at hm
  obtain⟨h1,h2,hR⟩:=hm
  exact⟨⟨rfl,h1,h2,rfl,rfl⟩,hX hR⟩
theorem defn_enum {w1:World}{sb:ByteArray}{o:Int}(h101:bt s i=101) (st1:Step w w1 br bz tv u tv u) (st:Step w1 W br bz tv u tv u) (hF:Fr W W' (fun g=>g=w.heap.size))
 (hm:match pEnum s (i+1) with
  | .ok ((l,unk),j)=>sb.data.toList.map UInt8.toNat=l.map Prod.fst∧o=(match unk with|none=>-1|some (c,_)=>plc sb c)∧Rep W (fun g=>X g∨g=w.heap.size) br bz B s j false (wrE l unk wr) mx ts us zs tv u
  | .error k=>∃ wr',Rep W (fun g=>X g∨g=w.heap.size) br bz B s k true wr' mx ts us zs tv u) :
 DefnPost w X br bz B s i wr mx ts us zs tv u (.returned (.agg (dcells 101 (.slice none 0 0) sb o 0).toArray)) W':=by
 refine⟨101,_,sb,o,0,0,[],tv,u,rfl,(st1.trans st).out hF (fun g hg=>by omega),World.ownsRow_nil _ _ _ _,fun g hg=>by simp[Value.ownBlock] at hg,?_⟩
 rw[pDefn_enum h101]
 have hX:∀ {j:Nat} {bad:Bool} {wr':Int},Rep W (fun g=>X g∨g=w.heap.size) br bz B s j bad wr' mx ts us zs tv u→Rep W' (fun g=>X g∨(Value.slice none 0 0).ownBlock=some g) br bz B s j bad wr' mx ts us zs tv u:=fun hR=>
  (hR.out (hF.mono (fun _ _ e=>.inr e))).fewer (fun g hg=>by
   rcases hg with e|e
   ·exact .inl (.inl e)
   ·simp[Value.ownBlock] at e)
 cases hp:pEnum s (i+1) with
 | error k=>
  rw[hp] at hm
  obtain⟨_,hR⟩:=hm
  exact⟨_,_,_,_,hX hR⟩
 | ok q=>
  obtain⟨⟨l,unk⟩,j⟩:=q
  rw[hp] at hm
  obtain⟨h1,h2,hR⟩:=hm
  refine⟨⟨rfl,rfl,h1,h2,rfl⟩,?_⟩
  simpa[PB.wr,PB.mx,PB.ts,PB.us] using hX hR
end
set_option maxHeartbeats 4000000 in
set_option maxRecDepth 100000 in
theorem definition_rep {w:World}{X:Nat→Prop}{br bz B:Nat}{s:ByteArray}{i:Nat}{wg mx:Int}{ts:List TR}{us:List (Nat×Nat)}{zs:List Value}{tv u:Value}(R:Rep w X br bz B s i false wg mx ts us zs tv u) :
 Calls Tryz.prog 41 #[.pointer (some ⟨br,0,none⟩)] w (DefnPost w X br bz B s i wg mx ts us zs tv u):=by
 have hsl:=R.sl
 have hil:=R.il
 have R1:Rep (w.alloc (.cells zeroDef.toArray 44)) (fun g=>X g∨g=w.heap.size) br bz B s i false wg mx ts us zs tv u:=(R.out ((Fr.refl w X).alloc (.cells zeroDef.toArray 44))).fewer (fun g hg=>by
  rcases hg with e|e
  ·exact .inl e
  ·exact .inr (by simp;omega))
 have st1:Step w (w.alloc (.cells zeroDef.toArray 44)) br bz tv u tv u:=⟨(Fr.refl w _).alloc _,.inl rfl,.inl rfl⟩
 have b1:=hide (Blk.new w zeroDef.toArray 44)
 replace R1:=hide R1
 replace st1:=hide st1
 obtain⟨c,hc⟩:∃ c,bt s i=c:=⟨_,rfl⟩
 replace hc:=hide hc
 obtain⟨POST,hPOST⟩:∃ P,Hid (P=DefnPost w X br bz B s i wg mx ts us zs tv u):=⟨_,rfl⟩
 rw[← hPOST.out]
 by_cases h114:c=114
 ·have hb:=hide (hc.out.trans h114)
  have his:i<s.size:=bt_pos (by rw[hb.out];decide)
  subst h114
  go_enter Tryz.func41,Tryz.ntmps41
  go_wp2_with (first
   |(go_at_call 39;refine(peek_rep R1.out hc.out).mono ?_;rintro e w2 ⟨rfl,hw2⟩;have R2:=R1.out.still hw2;have S2:=(st1.out.still hw2);have B2:=Blk.still b1.out hw2;have c1:=R2.here.c1;have f1:=R2.here.thaw 1;have f2:=R2.here.thaw 2;have c2:=R2.here.c2;skip;replace R2:=hide R2;replace S2:=hide S2;replace B2:=hide B2)
   |(go_at_call 68;refine(record_rep (R2.out.inc his).1).mono ?_;rintro e w3 ⟨fv,cnt,xs,tv',u',rfl,st3,own3,av3,hm3⟩;simp only[recDef];have B3:=st3.fr.blk ((R2.out.inc his).2.fr.blk B2.out (R2.out.offS (.inr rfl))) ((R2.out.inc his).1.offS (.inr rfl));have r0:=B3.cell 0;have r1:=B3.cell 1;have r2:=B3.cell 2;have r3:=B3.cell 3;have r4:=B3.cell 4;have g0:=B3.thaw 0;have g1:=B3.thaw 1;have g2:=B3.thaw 2;have g3:=B3.thaw 3;have g4:=B3.thaw 4;simp only[zeroDef,List.getElem?_cons_zero,List.getElem?_cons_succ] at r0 r1 r2 r3 r4;obtain⟨sa,sn,sc,rfl⟩:=own_slice own3;replace B3:=hide B3;replace st3:=hide st3;replace own3:=hide own3;replace av3:=hide av3;replace hm3:=hide hm3))
  have L:=Blk.five B3.out (.int .u8 114) (.slice sa sn sc) (.string ⟨#[]⟩) (.int .i64 (-1)) (.int .i64 0)
  have q0:=L.cell 0
  have q1:=L.cell 1
  have q2:=L.cell 2
  have q3:=L.cell 3
  have q4:=L.cell 4
  simp only[List.getElem?_cons_zero,List.getElem?_cons_succ] at q0 q1 q2 q3 q4
  have hF:=Fr.five w3 w.heap.size (.int .u8 114) (.slice sa sn sc) (.string ⟨#[]⟩) (.int .i64 (-1)) (.int .i64 0)
  generalize (((((World.setCell w3 ⟨w.heap.size,0,none⟩ (.int .u8 114)).setCell ⟨w.heap.size,1,none⟩ (.slice sa sn sc)).setCell ⟨w.heap.size,2,none⟩ (.string ⟨#[]⟩)).setCell ⟨w.heap.size,3,none⟩ (.int .i64 (-1))).setCell ⟨w.heap.size,4,none⟩ (.int .i64 0))=W5 at *
  refine bodyPost_ret (v:=.agg (dcells 114 (.slice sa sn sc) ⟨#[]⟩ (-1) 0).toArray) (by simp[results,Tryz.results41,go_sem,q0,q1,q2,q3,q4,dcells]) rfl ?_
  rw[hPOST.out]
  exact defn_rec (by have:=Blk.lt B2.out;simp[World.setCell];omega) hb.out (S2.out.trans (R2.out.inc his).2) st3.out own3.out av3.out hF hm3.out
 ·by_cases h101:c=101
  ·have hb:=hide (hc.out.trans h101)
   have his:i<s.size:=bt_pos (by rw[hb.out];decide)
   subst h101
   go_enter Tryz.func41,Tryz.ntmps41
   go_wp2_with (first
    |(go_at_call 39;refine(peek_rep R1.out hc.out).mono ?_;rintro e w2 ⟨rfl,hw2⟩;have R2:=R1.out.still hw2;have S2:=(st1.out.still hw2);have B2:=Blk.still b1.out hw2;have c1:=R2.here.c1;have f1:=R2.here.thaw 1;have f2:=R2.here.thaw 2;have c2:=R2.here.c2;skip;replace R2:=hide R2;replace S2:=hide S2;replace B2:=hide B2)
    |(go_at_call 69;refine(symbols_rep (R2.out.inc his).1).mono ?_;rintro e w3 ⟨sb,o,rfl,st3,hm3⟩;simp only[enumDef];have B3:=st3.fr.blk ((R2.out.inc his).2.fr.blk B2.out (R2.out.offS (.inr rfl))) ((R2.out.inc his).1.offS (.inr rfl));have r0:=B3.cell 0;have r1:=B3.cell 1;have r2:=B3.cell 2;have r3:=B3.cell 3;have r4:=B3.cell 4;have g0:=B3.thaw 0;have g1:=B3.thaw 1;have g2:=B3.thaw 2;have g3:=B3.thaw 3;have g4:=B3.thaw 4;simp only[zeroDef,List.getElem?_cons_zero,List.getElem?_cons_succ] at r0 r1 r2 r3 r4;replace B3:=hide B3;replace st3:=hide st3;replace hm3:=hide hm3))
   have L:=Blk.five B3.out (.int .u8 101) (.slice none 0 0) (.string sb) (.int .i64 o) (.int .i64 0)
   have q0:=L.cell 0
   have q1:=L.cell 1
   have q2:=L.cell 2
   have q3:=L.cell 3
   have q4:=L.cell 4
   simp only[List.getElem?_cons_zero,List.getElem?_cons_succ] at q0 q1 q2 q3 q4
   have hF:=Fr.five w3 w.heap.size (.int .u8 101) (.slice none 0 0) (.string sb) (.int .i64 o) (.int .i64 0)
   generalize (((((World.setCell w3 ⟨w.heap.size,0,none⟩ (.int .u8 101)).setCell ⟨w.heap.size,1,none⟩ (.slice none 0 0)).setCell ⟨w.heap.size,2,none⟩ (.string sb)).setCell ⟨w.heap.size,3,none⟩ (.int .i64 o)).setCell ⟨w.heap.size,4,none⟩ (.int .i64 0))=W5 at *
   refine bodyPost_ret (v:=.agg (dcells 101 (.slice none 0 0) sb o 0).toArray) (by simp[results,Tryz.results41,go_sem,q0,q1,q2,q3,q4,dcells]) rfl ?_
   rw[hPOST.out]
   exact defn_enum hb.out (S2.out.trans (R2.out.inc his).2) st3.out hF hm3.out
  ·by_cases h102:c=102
   ·have hb:=hide (hc.out.trans h102)
    have his:i<s.size:=bt_pos (by rw[hb.out];decide)
    subst h102
    obtain⟨d,hd⟩:∃ c,bt s (i+1)=c:=⟨_,rfl⟩
    replace hd:=hide hd
    by_cases hdig:48≤d∧d≤57
    ·have n9:(decide ((48:Int)≤(d:Int))&&decide ((d:Int)≤57))=true:=by simp;omega
     obtain⟨i1,hi1⟩:∃ k,k=i+1:=⟨_,rfl⟩
     have his1:i1<s.size:=by rw[hi1];exact bt_pos (by rw[hd.out];omega)
     replace hi1:=hide hi1
     have hr:=hide (show pDefn s i=.ok (.bytes (d-48),i+2) by rw[pDefn_bytes hb.out,hd.out,if_pos hdig])
     have hdd:Hid ((d:Int)-48=((d-48:Nat):Int)):=by show(d:Int)-48=((d-48:Nat):Int);omega
     go_enter Tryz.func41,Tryz.ntmps41
     go_wp2_with (first
      |(go_at_call 39;refine(peek_rep R1.out hc.out).mono ?_;rintro e w2 ⟨rfl,hw2⟩;have R2:=R1.out.still hw2;have S2:=(st1.out.still hw2);have B2:=Blk.still b1.out hw2;have c1:=R2.here.c1;have f1:=R2.here.thaw 1;replace R2:=hide R2;replace S2:=hide S2;replace B2:=hide B2)
      |(go_at_call 39;refine(peek_rep (R2.out.inc his).1 hd.out).mono ?_;rintro e w4 ⟨rfl,hw4⟩;have R4:=(R2.out.inc his).1.still hw4;rw[← hi1.out] at R4;have S4:=(S2.out.trans (R2.out.inc his).2).still hw4;have B4:=Blk.still ((R2.out.inc his).2.fr.blk B2.out (R2.out.offS (.inr rfl))) hw4;have c14:=R4.here.c1;have f14:=R4.here.thaw 1;have f24:=R4.here.thaw 2;have c24:=R4.here.c2;have B5:=(R4.inc his1).2.fr.blk B4 (R4.offS (.inr rfl));have r0:=B5.cell 0;have r1:=B5.cell 1;have r2:=B5.cell 2;have r3:=B5.cell 3;have r4:=B5.cell 4;have g0:=B5.thaw 0;have g1:=B5.thaw 1;have g2:=B5.thaw 2;have g3:=B5.thaw 3;have g4:=B5.thaw 4;simp only[zeroDef,List.getElem?_cons_zero,List.getElem?_cons_succ] at r0 r1 r2 r3 r4;replace B5:=hide B5;replace R4:=hide R4;replace S4:=hide S4)
      |(go_at_call 38;refine(within_any _ _ _ _).mono ?_;rintro e w' ⟨rfl,hw'⟩;rw[hw',n9]))
     have L:=Blk.five B5.out (.int .u8 102) (.slice none 0 0) (.string ⟨#[]⟩) (.int .i64 (-1)) (.int .i64 ((d:Int)-48))
     have q0:=L.cell 0
     have q1:=L.cell 1
     have q2:=L.cell 2
     have q3:=L.cell 3
     have q4:=L.cell 4
     simp only[List.getElem?_cons_zero,List.getElem?_cons_succ] at q0 q1 q2 q3 q4
     have hF:=Fr.five (w4.setCell ⟨br,1,none⟩ (.int .i64 ((i1:Int)+1))) w.heap.size (.int .u8 102) (.slice none 0 0) (.string ⟨#[]⟩) (.int .i64 (-1)) (.int .i64 ((d:Int)-48))
     generalize (((((World.setCell (w4.setCell ⟨br,1,none⟩ (.int .i64 ((i1:Int)+1))) ⟨w.heap.size,0,none⟩ (.int .u8 102)).setCell ⟨w.heap.size,1,none⟩ (.slice none 0 0)).setCell ⟨w.heap.size,2,none⟩ (.string ⟨#[]⟩)).setCell ⟨w.heap.size,3,none⟩ (.int .i64 (-1))).setCell ⟨w.heap.size,4,none⟩ (.int .i64 ((d:Int)-48)))=W5 at *
     refine bodyPost_ret (v:=.agg (dcells 102 (.slice none 0 0) ⟨#[]⟩ (-1) ((d:Int)-48)).toArray) (by simp[results,Tryz.results41,go_sem,q0,q1,q2,q3,q4,dcells]) rfl ?_
     rw[hPOST.out]
     exact defn_plain R (R4.out.inc his1).1 (S4.out.trans (R4.out.inc his1).2) hF (.inr ⟨d-48,rfl,by rw[hi1.out];exact hr.out,rfl,rfl,hdd.out⟩)
    ·have n9:(decide ((48:Int)≤(d:Int))&&decide ((d:Int)≤57))=false:=by simp;omega
     have hr:=hide (show pDefn s i=.error (i+1) by rw[pDefn_bytes hb.out,hd.out,if_neg hdig])
     go_enter Tryz.func41,Tryz.ntmps41
     go_wp2_with (first
      |(go_at_call 39;refine(peek_rep R1.out hc.out).mono ?_;rintro e w2 ⟨rfl,hw2⟩;have R2:=R1.out.still hw2;have S2:=(st1.out.still hw2);have B2:=Blk.still b1.out hw2;have c1:=R2.here.c1;have f1:=R2.here.thaw 1;replace R2:=hide R2;replace S2:=hide S2;replace B2:=hide B2)
      |(go_at_call 39;refine(peek_rep (R2.out.inc his).1 hd.out).mono ?_;rintro e w4 ⟨rfl,hw4⟩;have R4:=(R2.out.inc his).1.still hw4;have S4:=(S2.out.trans (R2.out.inc his).2).still hw4;have B4:=Blk.still ((R2.out.inc his).2.fr.blk B2.out (R2.out.offS (.inr rfl))) hw4;have c14:=R4.here.c1;have f14:=R4.here.thaw 1;have f24:=R4.here.thaw 2;have c24:=R4.here.c2;have B5:=R4.spoil.2.fr.blk B4 (R4.offS (.inr rfl));have r0:=B5.cell 0;have r1:=B5.cell 1;have r2:=B5.cell 2;have r3:=B5.cell 3;have r4:=B5.cell 4;have g0:=B5.thaw 0;have g1:=B5.thaw 1;have g2:=B5.thaw 2;have g3:=B5.thaw 3;have g4:=B5.thaw 4;simp only[zeroDef,List.getElem?_cons_zero,List.getElem?_cons_succ] at r0 r1 r2 r3 r4;replace B5:=hide B5;replace R4:=hide R4;replace S4:=hide S4)
      |(go_at_call 38;refine(within_any _ _ _ _).mono ?_;rintro e w' ⟨rfl,hw'⟩;rw[hw',n9]))
     have L:=Blk.five B5.out (.int .u8 0) (.slice none 0 0) (.string ⟨#[]⟩) (.int .i64 0) (.int .i64 0)
     have q0:=L.cell 0
     have q1:=L.cell 1
     have q2:=L.cell 2
     have q3:=L.cell 3
     have q4:=L.cell 4
     simp only[List.getElem?_cons_zero,List.getElem?_cons_succ] at q0 q1 q2 q3 q4
     have hF:=Fr.five (w4.setCell ⟨br,2,none⟩ (.bool true)) w.heap.size (.int .u8 0) (.slice none 0 0) (.string ⟨#[]⟩) (.int .i64 0) (.int .i64 0)
     generalize (((((World.setCell (w4.setCell ⟨br,2,none⟩ (.bool true)) ⟨w.heap.size,0,none⟩ (.int .u8 0)).setCell ⟨w.heap.size,1,none⟩ (.slice none 0 0)).setCell ⟨w.heap.size,2,none⟩ (.string ⟨#[]⟩)).setCell ⟨w.heap.size,3,none⟩ (.int .i64 0)).setCell ⟨w.heap.size,4,none⟩ (.int .i64 0))=W5 at *
     refine bodyPost_ret (v:=.agg (dcells 0 (.slice none 0 0) ⟨#[]⟩ 0 0).toArray) (by simp[results,Tryz.results41,go_sem,q0,q1,q2,q3,q4,dcells]) rfl ?_
     rw[hPOST.out]
     exact defn_plain R R4.out.spoil.1 (S4.out.trans R4.out.spoil.2) hF (.inl ⟨rfl,hr.out⟩)
   ·have hr:=hide (pDefn_bad (by rw[hc.out];exact h114) (by rw[hc.out];exact h101) (by rw[hc.out];exact h102))
    have n1:((c:Int) != 114)=true:=by simp;omega
    have n2:((c:Int) != 101)=true:=by simp;omega
    have n3:((c:Int) != 102)=true:=by simp;omega
    go_enter Tryz.func41,Tryz.ntmps41
    go_wp2_with (go_at_call 39;refine(peek_rep R1.out hc.out).mono ?_;rintro e w2 ⟨rfl,hw2⟩;have R2:=R1.out.still hw2;have S2:=(st1.out.still hw2);have B2:=Blk.still b1.out hw2;have c1:=R2.here.c1;have f1:=R2.here.thaw 1;have f2:=R2.here.thaw 2;have c2:=R2.here.c2;have B3:=R2.spoil.2.fr.blk B2 (R2.offS (.inr rfl));have r0:=B3.cell 0;have r1:=B3.cell 1;have r2:=B3.cell 2;have r3:=B3.cell 3;have r4:=B3.cell 4;have g0:=B3.thaw 0;have g1:=B3.thaw 1;have g2:=B3.thaw 2;have g3:=B3.thaw 3;have g4:=B3.thaw 4;simp only[zeroDef,List.getElem?_cons_zero,List.getElem?_cons_succ] at r0 r1 r2 r3 r4;replace B3:=hide B3;replace R2:=hide R2;replace S2:=hide S2;replace B2:=hide B2)
    have L:=Blk.five B3.out (.int .u8 0) (.slice none 0 0) (.string ⟨#[]⟩) (.int .i64 0) (.int .i64 0)
    have q0:=L.cell 0
    have q1:=L.cell 1
    have q2:=L.cell 2
    have q3:=L.cell 3
    have q4:=L.cell 4
    simp only[List.getElem?_cons_zero,List.getElem?_cons_succ] at q0 q1 q2 q3 q4
    have hF:=Fr.five (w2.setCell ⟨br,2,none⟩ (.bool true)) w.heap.size (.int .u8 0) (.slice none 0 0) (.string ⟨#[]⟩) (.int .i64 0) (.int .i64 0)
    generalize (((((World.setCell (w2.setCell ⟨br,2,none⟩ (.bool true)) ⟨w.heap.size,0,none⟩ (.int .u8 0)).setCell ⟨w.heap.size,1,none⟩ (.slice none 0 0)).setCell ⟨w.heap.size,2,none⟩ (.string ⟨#[]⟩)).setCell ⟨w.heap.size,3,none⟩ (.int .i64 0)).setCell ⟨w.heap.size,4,none⟩ (.int .i64 0))=W5 at *
    refine bodyPost_ret (v:=.agg (dcells 0 (.slice none 0 0) ⟨#[]⟩ 0 0).toArray) (by simp[results,Tryz.results41,go_sem,q0,q1,q2,q3,q4,dcells]) rfl ?_
    rw[hPOST.out]
    exact defn_plain R R2.out.spoil.1 (S2.out.trans R2.out.spoil.2) hF (.inl ⟨rfl,hr.out⟩)
open Go.RowKit
def accW (seen:List Nat):List PD→Int→Int
 | [],m=>m
 | d::r,m=>accW (seen++[d.letter]) r (if d.letter∈seen then firstOf d.place (d.body.wr m) else d.body.wr m)
def accM (ds:List PD) (m:Int):Int:=ds.foldl (fun m d=>d.body.mx m) m
def accT (b:Nat):List PD→List TR
 | []=>[]
 | d::r=>d.body.ts b++accT (b+(d.body.ts b).length) r
def accU:List PD→List (Nat×Nat)
 | []=>[]
 | d::r=>d.body.us++accU r
theorem accW_snoc (seen:List Nat) (ds:List PD) (d:PD) (m:Int):accW seen (ds++[d]) m=if d.letter∈seen++ds.map PD.letter then firstOf d.place (d.body.wr (accW seen ds m)) else d.body.wr (accW seen ds m):=by
 induction ds generalizing seen m with
 | nil=>simp[accW]
 | cons x r ih=>rw[List.cons_append,accW,accW,ih,List.append_assoc];rfl
theorem accM_snoc (ds:List PD) (d:PD) (m:Int):accM (ds++[d]) m=d.body.mx (accM ds m):=by simp[accM]
theorem accT_snoc (b:Nat) (ds:List PD) (d:PD):accT b (ds++[d])=accT b ds++d.body.ts (b+(accT b ds).length):=by
 induction ds generalizing b with
 | nil=>simp[accT]
 | cons x r ih=>simp only[List.cons_append,accT,ih,List.append_assoc,List.length_append,Nat.add_assoc]
theorem accU_snoc (ds:List PD) (d:PD):accU (ds++[d])=accU ds++d.body.us:=by
 induction ds with
 | nil=>simp[accU]
 | cons x r ih=>simp[accU,ih]
def look (b c:Nat):List PD→Option (PB×Nat)
 | []=>none
 | d::r=>if d.letter=c then some (d.body,b) else look (b+(d.body.ts b).length) c r
theorem look_snoc (b c:Nat) (ds:List PD) (d:PD):look b c (ds++[d])=match look b c ds with|some x=>some x|none=>if d.letter=c then some (d.body,b+(accT b ds).length) else none:=by
 induction ds generalizing b with
 | nil=>simp[look,accT]
 | cons x r ih=>
  simp only[List.cons_append,look]
  by_cases h:x.letter=c
  ·rw[if_pos h,if_pos h]
  ·rw[if_neg h,if_neg h,ih]
   simp only[accT,List.length_append,Nat.add_assoc]
theorem look_none (b c:Nat) (ds:List PD):look b c ds=none↔c∉ds.map PD.letter:=by
 induction ds generalizing b with
 | nil=>simp[look]
 | cons x r ih=>
  simp only[look]
  by_cases h:x.letter=c
  ·rw[if_pos h];simp[h]
  ·rw[if_neg h,ih];simp[Ne.symm h]
def DefsAt (W:World) (X:Nat→Prop) (B:Nat) (s:ByteArray) (zs:List Value) (ds:List PD):Prop:=
 zs.length=31∧∀ k,k<6→∃ (so:Int) (fv:Value) (sb:ByteArray) (o n:Int) (cnt:Nat) (xs:List Value),(∀ p,p<5→zs[5*k+p]?=(dcells so fv sb o n)[p]?)∧W.ownsRow B 80 10 fv cnt xs∧(∀ g,fv.ownBlock=some g→X g)∧
  match look 0 (65+k) ds with
  | none=>so=0∧cnt=0
  | some (pb,b)=>DefIs s b pb so cnt xs sb o n
theorem DefIs.sort {s:ByteArray}{b:Nat}{pb:PB}{so:Int}{cnt:Nat}{xs:List Value}{sb:ByteArray}{o n:Int}(h:DefIs s b pb so cnt xs sb o n):so≠0:=by
 cases pb with
 | recd ds=>have:=h.1;omega
 | enum l u=>have:=h.1;omega
 | bytes k=>have:=h.1;omega
theorem DefsAt.step {W W':World}{X:Nat→Prop}{br bz B:Nat}{s:ByteArray}{zs:List Value}{ds:List PD}{j:Nat}{bad:Bool}{wr mx:Int}{ts:List TR}{us:List (Nat×Nat)}{zs':List Value}{tv u tv' u':Value}
 (h:DefsAt W X B s zs ds) (R:Rep W X br bz B s j bad wr mx ts us zs' tv u) (st:Step W W' br bz tv u tv' u'):DefsAt W' X B s zs ds:=by
 refine⟨h.1,fun k hk=>?_⟩
 obtain⟨so,fv,sb,o,n,cnt,xs,h1,h2,h3,h4⟩:=h.2 k hk
 exact⟨so,fv,sb,o,n,cnt,xs,h1,ownsRow_fr h2 st.fr (fun g hg=>R.offS (h3 g hg)),h3,h4⟩
def set5 (zs:List Value) (o:Nat) (v0 v1 v2 v3 v4:Value):List Value:=((((zs.set o v0).set (o+1) v1).set (o+2) v2).set (o+3) v3).set (o+4) v4
theorem set5_at {zs:List Value}{o:Nat}(h:o+5≤zs.length) (v0 v1 v2 v3 v4:Value) (p:Nat) (hp:p<5):(set5 zs o v0 v1 v2 v3 v4)[o+p]?=[v0,v1,v2,v3,v4][p]?:=by
 unfold set5
 match p,hp with
 | 0,_=>simp[List.getElem?_set];omega
 | 1,_=>simp[List.getElem?_set];omega
 | 2,_=>simp[List.getElem?_set];omega
 | 3,_=>simp[List.getElem?_set];omega
 | 4,_=>simp[List.getElem?_set];omega
theorem set5_off {zs:List Value}{o q:Nat}(v0 v1 v2 v3 v4:Value) (hq:q<o∨o+5≤q):(set5 zs o v0 v1 v2 v3 v4)[q]?=zs[q]?:=by
 unfold set5
 rw[List.getElem?_set_ne (by omega),List.getElem?_set_ne (by omega),List.getElem?_set_ne (by omega),List.getElem?_set_ne (by omega),List.getElem?_set_ne (by omega)]
theorem set5_length (zs:List Value) (o:Nat) (v0 v1 v2 v3 v4:Value):(set5 zs o v0 v1 v2 v3 v4).length=zs.length:=by simp[set5]
theorem DefsAt.add {W:World}{X Y:Nat→Prop}{B:Nat}{s:ByteArray}{zs:List Value}{ds:List PD}{d:PD}{k:Nat}{so:Int}{fv:Value}{sb:ByteArray}{o n:Int}{cnt:Nat}{xs:List Value}
 (h:DefsAt W X B s zs ds) (hk:k<6) (hd:d.letter=65+k) (hnew:look 0 (65+k) ds=none) (hXY:∀ g,X g→Y g) (own:W.ownsRow B 80 10 fv cnt xs) (hfv:∀ g,fv.ownBlock=some g→Y g)
 (hI:DefIs s (accT 0 ds).length d.body so cnt xs sb o n):DefsAt W Y B s (set5 zs (5*k) (.int .u8 so) fv (.string sb) (.int .i64 o) (.int .i64 n)) (ds++[d]):=by
 refine⟨by rw[set5_length];exact h.1,fun k' hk'=>?_⟩
 by_cases e:k'=k
 ·subst e
  refine⟨so,fv,sb,o,n,cnt,xs,fun p hp=>set5_at (by rw[h.1];omega) _ _ _ _ _ p hp,own,hfv,?_⟩
  rw[look_snoc,hnew]
  simp only[hd,if_true,Nat.zero_add]
  exact hI
 ·obtain⟨so',fv',sb',o',n',cnt',xs',h1,h2,h3,h4⟩:=h.2 k' hk'
  refine⟨so',fv',sb',o',n',cnt',xs',fun p hp=>by rw[set5_off _ _ _ _ _ (by omega)];exact h1 p hp,h2,fun g hg=>hXY g (h3 g hg),?_⟩
  rw[look_snoc]
  cases hl:look 0 (65+k') ds with
  | some x=>rw[hl] at h4;exact h4
  | none=>
   rw[hl] at h4
   rw[if_neg (by omega)]
   exact h4
theorem DefsAt.again {W:World}{X Y:Nat→Prop}{B:Nat}{s:ByteArray}{zs:List Value}{ds:List PD}{d:PD}{k:Nat}{x:PB×Nat}
 (h:DefsAt W X B s zs ds) (hd:d.letter=65+k) (hold:look 0 (65+k) ds=some x) (hXY:∀ g,X g→Y g):DefsAt W Y B s zs (ds++[d]):=by
 refine⟨h.1,fun k' hk'=>?_⟩
 obtain⟨so',fv',sb',o',n',cnt',xs',h1,h2,h3,h4⟩:=h.2 k' hk'
 refine⟨so',fv',sb',o',n',cnt',xs',h1,h2,fun g hg=>hXY g (h3 g hg),?_⟩
 rw[look_snoc]
 cases hl:look 0 (65+k') ds with
 | some x=>rw[hl] at h4;exact h4
 | none=>
  rw[hl] at h4
  rw[if_neg (fun e=>by rw[hd] at e;have:k=k':=by omega
                       subst this;rw[hold] at hl;cases hl)]
  exact h4
theorem Rep.setZ {w:World}{X:Nat→Prop}{br bz B:Nat}{s:ByteArray}{i:Nat}{bad:Bool}{wr mx:Int}{ts:List TR}{us:List (Nat×Nat)}{zs:List Value}{tv u:Value}(R:Rep w X br bz B s i bad wr mx ts us zs tv u) (o:Nat) (v:Value) :
 Rep (w.setCell ⟨bz,o+1,none⟩ v) X br bz B s i bad wr mx ts us (zs.set o v) tv u∧Step w (w.setCell ⟨bz,o+1,none⟩ v) br bz tv u tv u:=by
 have hf:Fr w (w.setCell ⟨bz,o+1,none⟩ v) (fun g=>g=bz):=(Fr.refl w (fun g=>g=bz)).setCell ⟨bz,o+1,none⟩ v (fun _=>rfl)
 have hS:Step w (w.setCell ⟨bz,o+1,none⟩ v) br bz tv u tv u:=⟨hf.mono (fun _ _ e=>.inr (.inl e)),.inl rfl,.inl rfl⟩
 have hz:Blk (w.setCell ⟨bz,o+1,none⟩ v) bz (tv::zs.set o v) 47:=Blk.set R.z (o+1) v
 refine⟨⟨hf.blk R.here R.rz,hz,?_,ownsRow_fr R.uses hf (fun g hg e=>own_ne R.uses R.zB (e▸hg)),R.apart,R.rB,R.zB,Nat.le_trans R.hB hf.size,R.rz,R.il,R.sl,R.tl,R.ul,fun g hg=>⟨Nat.lt_of_lt_of_le (R.av g hg).1 hf.size,(R.av g hg).2⟩⟩,hS⟩
 obtain⟨xs,hx,hk⟩:=R.tys
 refine⟨xs,ownsRow_fr hx hf (fun g hg e=>own_ne hx R.zB (e▸hg)),fun k t ht=>?_⟩
 obtain⟨sv,a,b,c,d⟩:=hk k t ht
 exact⟨sv,a,b,hS.subs c R.rB R.zB,d⟩
theorem DefsAt.root {W:World}{X:Nat→Prop}{B:Nat}{s:ByteArray}{zs:List Value}{ds:List PD}(h:DefsAt W X B s zs ds) (v:Value):DefsAt W X B s (zs.set 30 v) ds:=by
 refine⟨by rw[List.length_set];exact h.1,fun k hk=>?_⟩
 obtain⟨so,fv,sb,o,n,cnt,xs,h1,h2,h3,h4⟩:=h.2 k hk
 exact⟨so,fv,sb,o,n,cnt,xs,fun p hp=>by rw[List.getElem?_set_ne (by omega)];exact h1 p hp,h2,h3,h4⟩
theorem Rep.setDef {w:World}{X:Nat→Prop}{br bz B:Nat}{s:ByteArray}{i:Nat}{bad:Bool}{wr mx:Int}{ts:List TR}{us:List (Nat×Nat)}{zs:List Value}{tv u:Value}(R:Rep w X br bz B s i bad wr mx ts us zs tv u) (o:Nat) (v0 v1 v2 v3 v4:Value) :
 Rep (((((w.setCell ⟨bz,o+1,none⟩ v0).setCell ⟨bz,o+1+1,none⟩ v1).setCell ⟨bz,o+2+1,none⟩ v2).setCell ⟨bz,o+3+1,none⟩ v3).setCell ⟨bz,o+4+1,none⟩ v4) X br bz B s i bad wr mx ts us (set5 zs o v0 v1 v2 v3 v4) tv u∧
  Step w (((((w.setCell ⟨bz,o+1,none⟩ v0).setCell ⟨bz,o+1+1,none⟩ v1).setCell ⟨bz,o+2+1,none⟩ v2).setCell ⟨bz,o+3+1,none⟩ v3).setCell ⟨bz,o+4+1,none⟩ v4) br bz tv u tv u:=by
 have h0:=R.setZ o v0
 have h1:=h0.1.setZ (o+1) v1
 have h2:=h1.1.setZ (o+2) v2
 have h3:=h2.1.setZ (o+3) v3
 have h4:=h3.1.setZ (o+4) v4
 exact⟨h4.1,(((h0.2.trans h1.2).trans h2.2).trans h3.2).trans h4.2⟩
end Go.Proofs.YtiifagiebikmdaaGreatDoor
