import Derived.Test.YtiifagiebikmdaaGreatDoorAG40
import Derived.Test.YtiifagiebikmdaaGreatDoorAG29
import Derived.Test.YtiifagiebikmdaaGreatDoorAG22
import Derived.Test.YtiifagiebikmdaaGreatDoorAG13
import Derived.Test.YtiifagiebikmdaaGreatDoorAG28
namespace Go.Proofs.YtiifagiebikmdaaGreatDoor
open Go.RowKit
section
variable {w0 w:World} {P:Nat→Prop} {ss:ByteArray} {ds:List PD} {sv rv:Value} {xs:List Value} {s:ByteArray} {E:WErr} {br i n:Nat}
set_option maxHeartbeats 8000000 in
set_option maxRecDepth 100000 in
theorem yunion_any {l:List PT}{p f:Nat}{pt:Int}{bv:Value}{X:Nat→Value}(hI:ItoaOK w0) (M:YC w0 P ss ds sv rv xs s E br i n w) (hn:n≤300) (hl:l.length≤4000) (ho:w.ownsRow 0 83 1 bv l.length ((List.range l.length).map X)) (hP:∀ g,bv.ownBlock=some g→P g) (hX:∀ i t,l[i]?=some t→TyV w P t (X i)) (hR:∀ t∈l,∀ j,j≤s.size→DatY w0 P ss ds sv rv xs s E br f t j n) :
 Calls Tryz.prog 130 #[.pointer (some ⟨br,0,none⟩),.agg #[.int .i64 pt,bv]] w (YPost (envOf ds) (.alts p l) w sv rv s E br (bBranch (rdB s (envOf ds) f) s l i n)):=by
 obtain⟨POST,hPOST⟩:∃ Q,Hid (Q=YPost (envOf ds) (.alts p l) w sv rv s E br (bBranch (rdB s (envOf ds) f) s l i n)):=⟨_,rfl⟩
 rw[← hPOST.out]
 have hbl:=M.lt
 have hnb:=M.brP
 obtain⟨fa,fc,rfl⟩:=own_sl ho
 have A:Fr w (w.alloc (.cells #[.int .i64 pt,.slice fa l.length fc] 220)) (fun _=>False):=(Fr.refl w _).alloc _
 have M0:=M.new A
 have B0:=Blk.new w #[.int .i64 pt,.slice fa l.length fc] 220
 have hC:=wchoice_any hl M0.R M0.hs M0.il M0.err
 have hsl:=M.hs
 unfold bBranch at hPOST
 cases hb:bNum s 0 ((l.length:Int)-1) i with
 | none=>
  rw[hb] at hC hPOST
  replace hC:=hide hC
  replace A:=hide A
  clear M M0 B0 hb ho hX hR hP
  go_enter Tryz.func130,Tryz.ntmps130
  go_wp2_with (go_at_call 157;refine hC.out.mono ?_;rintro e w1 ⟨hf1,rfl,j,hj,h1⟩;replace hf1:=hide hf1;replace h1:=hide h1)
  try go_ret
  rw[hPOST.out]
  exact ybad ((A.out.mono (fun _ _ f=>f.elim)).trans hf1.out (fun _ _ e=>e)) ⟨j,n,h1.out,hj⟩
 | some q=>
  obtain⟨v,j⟩:=q
  have hg:=bNum_goes hb
  obtain⟨k,rfl⟩:∃ m:Nat,v=(m:Int):=⟨v.toNat,by omega⟩
  rw[hb] at hC hPOST
  simp only[Int.toNat_natCast] at hPOST
  have hkl:k<l.length:=by omega
  have hk4:k≤4000:=by omega
  have hki:(k:Int)<(l.length:Int):=by omega
  have hd:l[k]?=some l[k]:=List.getElem?_eq_getElem hkl
  have hmem:l[k]∈l:=List.getElem_mem hkl
  rw[hd] at hPOST
  have hsub:Hid (subTy (envOf ds) (.alts p l) k 0=l[k]):=hide (by simp[subTy,List.getD_eq_getElem?_getD,hd])
  generalize l[k]=t at hd hmem hPOST hsub
  simp only at hPOST
  have hT:=hX k t hd
  obtain⟨T,x,hx⟩:=hT.iface
  obtain⟨g,cap,hgc⟩:=own_form ho (by omega)
  cases hgc
  have hfac:Hid (∀ w1,Fr w w1 (· = br)→w1.cell? ⟨g,k,none⟩=some (.iface T x)∧TyV w1 P t (.iface T x)):=hide (fun w1 hf=>⟨by rw[own_cell (ownsRow_fr ho hf (fun g' hg e=>hnb (e▸hP g' hg))) rfl (k:=k) (x:=X k) (by simp[hkl]),hx],hx▸hT.fr hf (fun g' hg e=>hnb (e▸hg))⟩)
  have hnx:=hide (fun w1 (h1:RwAt w1 br sv rv s j n) (hf:Fr w w1 (· = br))=>hR t hmem j (by omega) w1 _ (M.call h1 hf (by omega)) hn (hfac.out w1 hf).2)
  have hB:=hide (fun w1 (hf:Fr (w.alloc (.cells #[.int .i64 pt,.slice (some ⟨g,0,none⟩) l.length fc] 220)) w1 (· = br))=>hf.blk B0 (by omega))
  replace hC:=hide hC
  replace A:=hide A
  have hG:=hide (fun w1 (h1:RwAt w1 br sv rv s j n) (hf:Fr w w1 (· = br))=>M.call h1 hf (by omega))
  clear M M0 hb ho hX hR hP hT hx hmem hd B0
  cases hrd:rdB s (envOf ds) f t j n with
  | error e0=>
   rw[hrd] at hPOST hnx
   go_enter Tryz.func130,Tryz.ntmps130
   go_wp2_with (first
    |(go_at_call 157;refine hC.out.mono ?_;rintro e w1 ⟨hf1,rfl,hj,h1⟩;have F1:=(A.out.mono (T:=fun g=>g=br) (fun _ _ f=>f.elim)).trans hf1 (fun _ _ e=>e);have c1:=(hfac.out w1 F1).1;have b1:=(hB.out w1 hf1).cell 1;simp only[List.getElem?_cons_zero,List.getElem?_cons_succ] at b1;have hD:=hide (hnx.out w1 h1 F1);have hM:=hide (hG.out w1 h1 F1);replace F1:=hide F1;clear hf1 h1)
    |(go_at_call 66;refine hD.out.mono ?_;rintro e w2 ⟨v2,ev2,rfl,hf2,hv2,hE2,hR2⟩;subst hv2;obtain⟨eT,ex,rfl⟩:=hE2.iface;have hG2:=(hM.out.call hR2.choose_spec.choose_spec.1 hf2 hR2.choose_spec.choose_spec.2).G;have hz:=hide hf2.size;replace hE2:=hide hE2;replace hf2:=hide hf2;replace hR2:=hide hR2)
    |(go_at_call 158;refine(inBranch_any (n:=k) hI hG2 hk4).mono ?_;rintro e w3 hW3;have hE3:=hide (fun v (he:e=.returned v)=>hE2.out.wrap hW3 (by have:=hz.out;omega) he);obtain⟨g3,tx3,rfl,hg3,hb3,hf3⟩:=hW3;replace hf3:=hide hf3;replace hb3:=hide hb3))
   try go_ret
   rw[hPOST.out]
   refine⟨_,_,rfl,(F1.out.trans hf2.out (fun _ _ e=>e)).trans (hf3.out.mono (fun _ _ f=>f.elim)) (fun _ _ e=>e),rfl,(hE3.out _ rfl).less (by have:=F1.out.size;omega),?_⟩
   obtain⟨j2,m2,h1,h2⟩:=hR2.out
   exact⟨j2,m2,hf3.out.blk h1 id,h2⟩
  | ok q=>
   obtain⟨d,j2,m2⟩:=q
   rw[hrd] at hPOST hnx
   go_enter Tryz.func130,Tryz.ntmps130
   go_wp2_with (first
    |(go_at_call 157;refine hC.out.mono ?_;rintro e w1 ⟨hf1,rfl,hj,h1⟩;have F1:=(A.out.mono (T:=fun g=>g=br) (fun _ _ f=>f.elim)).trans hf1 (fun _ _ e=>e);have c1:=(hfac.out w1 F1).1;have b1:=(hB.out w1 hf1).cell 1;simp only[List.getElem?_cons_zero,List.getElem?_cons_succ] at b1;have hD:=hide (hnx.out w1 h1 F1);replace F1:=hide F1;clear hf1 h1)
    |(go_at_call 66;refine hD.out.mono ?_;rintro e w2 ⟨v2,ev2,rfl,hf2,hv2,hD2,hR2,hj2⟩;subst hv2;obtain⟨dT,dx,rfl⟩:=hD2.iface;replace hD2:=hide hD2;replace hf2:=hide hf2;replace hR2:=hide hR2))
   try go_ret
   rw[hPOST.out]
   have hz:=F1.out.size
   refine yok (.branch k hk4 ?_) (F1.out.trans hf2.out (fun _ _ e=>e)) hR2.out hj2
   rw[hsub.out]
   exact hD2.out.mono (fun g _ hg=>by omega)
set_option maxHeartbeats 4000000 in
set_option maxRecDepth 100000 in
theorem ysymbol_any {l:List (Nat×Nat)}{t:PT}{pt:Int}{bv:Value}{dd:Option Addr}(M:YC w0 P ss ds sv rv xs s E br i n w) (hl:l.length≤300) (hsm:∀ q∈l,isSmall q.1=true) (ho:w.ownsRow 0 146 2 bv l.length (symCells l)) (hP:∀ g,bv.ownBlock=some g→P g) (hsy:∀ k,symL (envOf ds) t k=(l.map Prod.fst).getD k 0) :
 Calls Tryz.prog 132 #[.pointer (some ⟨br,0,none⟩),.agg #[.int .i64 pt,bv,.pointer dd]] w (YPost (envOf ds) t w sv rv s E br (match bNum s 0 ((l.length:Int)-1) i with|none=>.error 6|some (q,j)=>.ok (.mk 101 q noB [] [],j,n))):=by
 obtain⟨POST,hPOST⟩:∃ Q,Hid (Q=YPost (envOf ds) t w sv rv s E br (match bNum s 0 ((l.length:Int)-1) i with|none=>.error 6|some (q,j)=>.ok (.mk 101 q noB [] [],j,n))):=⟨_,rfl⟩
 rw[← hPOST.out]
 have hbl:=M.lt
 have hnb:=M.brP
 obtain⟨fa,fc,rfl⟩:=own_sl ho
 have A:Fr w (w.alloc (.cells #[.int .i64 pt,.slice fa l.length fc,.pointer dd] 216)) (fun _=>False):=(Fr.refl w _).alloc _
 have M0:=M.new A
 have B0:=Blk.new w #[.int .i64 pt,.slice fa l.length fc,.pointer dd] 216
 have hC:=wchoice_any (m:=l.length) (by omega) M0.R M0.hs M0.il M0.err
 have hsl:=M.hs
 cases hb:bNum s 0 ((l.length:Int)-1) i with
 | none=>
  rw[hb] at hC hPOST
  replace hC:=hide hC
  replace A:=hide A
  clear M M0 B0 hb ho hP hsy
  go_enter Tryz.func132,Tryz.ntmps132
  go_wp2_with (go_at_call 157;refine hC.out.mono ?_;rintro e w1 ⟨hf1,rfl,j,hj,h1⟩;replace hf1:=hide hf1;replace h1:=hide h1)
  try go_ret
  rw[hPOST.out]
  exact ybad ((A.out.mono (fun _ _ f=>f.elim)).trans hf1.out (fun _ _ e=>e)) ⟨j,n,h1.out,hj⟩
 | some q=>
  obtain⟨v,j⟩:=q
  have hg:=bNum_goes hb
  obtain⟨k,rfl⟩:∃ m:Nat,v=(m:Int):=⟨v.toNat,by omega⟩
  rw[hb] at hC hPOST
  have hkl:k<l.length:=by omega
  have hk4:k≤4000:=by omega
  have hki:(k:Int)<(l.length:Int):=by omega
  have hd:l[k]?=some l[k]:=List.getElem?_eq_getElem hkl
  have hmem:l[k]∈l:=List.getElem_mem hkl
  have hsu:symL (envOf ds) t k=l[k].1:=by rw[hsy k];simp[List.getD_eq_getElem?_getD,hd]
  generalize l[k]=c at hd hmem hsu
  obtain⟨cl,cp⟩:=c
  have hcs:=hsm _ hmem
  obtain⟨kk,hkk,hk26⟩:=small_k hcs
  simp only at hsu hkk
  have hc2:cl<256:=by omega
  obtain⟨g,cap,hgc⟩:=own_form ho (by omega)
  cases hgc
  have hfac:Hid (∀ w1,Fr w w1 (· = br)→w1.cell? ⟨g,k*2+1,none⟩=some (.int .u8 (cl:Int))):=hide (fun w1 hf=>own_cell (ownsRow_fr ho hf (fun g' hg e=>hnb (e▸hP g' hg))) rfl (symCells_get hd).2)
  have hB:=hide (fun w1 (hf:Fr (w.alloc (.cells #[.int .i64 pt,.slice (some ⟨g,0,none⟩) l.length fc,.pointer dd] 216)) w1 (· = br))=>hf.blk B0 (by omega))
  replace hC:=hide hC
  replace A:=hide A
  replace hsu:=hide hsu
  replace hkk:=hide hkk
  clear M M0 hb ho hP hmem hd B0 hsy hsm hcs
  go_enter Tryz.func132,Tryz.ntmps132
  go_wp2_with (go_at_call 157;refine hC.out.mono ?_;rintro e w1 ⟨hf1,rfl,hj,h1⟩;have F1:=(A.out.mono (T:=fun g=>g=br) (fun _ _ f=>f.elim)).trans hf1 (fun _ _ e=>e);have c1:=(hfac.out w1 F1);have b1:=(hB.out w1 hf1).cell 1;simp only[List.getElem?_cons_zero,List.getElem?_cons_succ] at b1;replace F1:=hide F1;replace h1:=hide h1;clear hf1)
  try go_ret
  rw[hPOST.out]
  refine yok (.flat (.sym k cl hk4) (fun n' l' e=>?_)) F1.out h1.out hj
  injection e with _ e
  injection e with e
  have e2:=congrArg (fun a=>a.toList) e
  simp only[List.cons.injEq,Value.int.injEq,true_and,and_true] at e2
  obtain⟨e3,e4⟩:=e2
  have e5:cl=l':=by omega
  have e6:k=n':=by omega
  subst e5
  subst e6
  exact⟨hsu.out,hc2⟩
set_option maxHeartbeats 4000000 in
set_option maxRecDepth 100000 in
theorem yfixed_any {k:Nat}{t:PT}{pt:Int}(M:YC w0 P ss ds sv rv xs s E br i n w) (hk:k≤9) :
 Calls Tryz.prog 133 #[.pointer (some ⟨br,0,none⟩),.agg #[.int .i64 pt,.int .i64 (k:Int)]] w (YPost (envOf ds) t w sv rv s E br (match bText s i k with|none=>.error 6|some (tx,j)=>.ok (.mk 102 0 tx [] [],j,n))):=by
 obtain⟨POST,hPOST⟩:∃ Q,Hid (Q=YPost (envOf ds) t w sv rv s E br (match bText s i k with|none=>.error 6|some (tx,j)=>.ok (.mk 102 0 tx [] [],j,n))):=⟨_,rfl⟩
 rw[← hPOST.out]
 have A:Fr w (w.alloc (.cells #[.int .i64 pt,.int .i64 (k:Int)] 233)) (fun _=>False):=(Fr.refl w _).alloc _
 have M0:=M.new A
 have hC:=wletters_any (m:=k) M0.R M0.hs M0.il (by omega) M0.err
 have hsl:=M.hs
 have hil:=M.il
 clear M M0
 replace A:=hide A
 cases hb:bText s i k with
 | none=>
  rw[hb] at hC hPOST
  replace hC:=hide hC
  clear hb
  go_enter Tryz.func133,Tryz.ntmps133
  go_wp2_with (go_at_call 159;refine hC.out.mono ?_;rintro e w1 ⟨hf1,rfl,j,hj,h1⟩;replace hf1:=hide hf1;replace h1:=hide h1)
  try go_ret
  rw[hPOST.out]
  exact ybad ((A.out.mono (fun _ _ f=>f.elim)).trans hf1.out (fun _ _ e=>e)) ⟨j,n,h1.out,hj⟩
 | some q=>
  obtain⟨tx,j⟩:=q
  have hg:=bText_goes hil hb
  rw[hb] at hC hPOST
  replace hC:=hide hC
  clear hb
  go_enter Tryz.func133,Tryz.ntmps133
  go_wp2_with (go_at_call 159;refine hC.out.mono ?_;rintro e w1 ⟨hf1,rfl,hj,h1⟩;replace hf1:=hide hf1;replace h1:=hide h1)
  try go_ret
  rw[hPOST.out]
  exact yok (DaV.plain (.bytes tx (by omega)) (by decide)) ((A.out.mono (fun _ _ f=>f.elim)).trans hf1.out (fun _ _ e=>e)) h1.out hj
end
open Go.RowKit
def FyInv (RES:Except Nat (List DT×Nat×Nat)) (R:PT→Nat→Nat→Except Nat (DT×Nat×Nat)) (fs:List PF) (n:Nat) (w0:World) (P:Nat→Prop) (ss:ByteArray) (ds:List PD) (sv rv:Value) (xs:List Value) (s:ByteArray) (E:WErr) (br:Nat) (cx:List Value) (ct:TypeId) (t:PT) (w:World) (q:Nat) (v6 v14:Value) (W:World):Prop:=
 ∃ (l:List DT) (j nn:Nat),v14=.int .i64 (l.length:Int)∧l.length≤fs.length∧n≤nn∧nn≤300∧302≤q+l.length∧Hid (YL w0 P ss ds sv rv xs s E br j nn cx ct t w v6 l W)∧RES=aheadB l (bFields R ((fs.map PF.ty).drop l.length) j nn)
section
variable {w0 w:World} {P:Nat→Prop} {ss:ByteArray} {ds:List PD} {sv rv:Value} {xs:List Value} {s:ByteArray} {E:WErr} {br i n:Nat}
def recI:Except Nat (List DT×Nat×Nat)→Except Nat (DT×Nat×Nat)
 | .error e=>.error e
 | .ok (l,j,m)=>.ok (.mk 114 0 noB [] l,j,m)
set_option maxHeartbeats 8000000 in
set_option maxRecDepth 100000 in
theorem yrecord_any {fs:List PF}{t:PT}{f:Nat}{pt:Int}{fv:Value}{zs:List Value}(M:YC w0 P ss ds sv rv xs s E br i n w) (hn:n≤300) (hF:FlRow w P ss fs fv zs) (hsm:∀ g∈fs,isSmall g.letter=true) (hlen:fs.length≤300) (hsub:∀ k g,fs[k]?=some g→subTy (envOf ds) t 0 k=g.ty) (hR:∀ g∈fs,∀ j nn,n≤nn→nn≤300→j≤s.size→DatY w0 P ss ds sv rv xs s E br f g.ty j nn) :
 Calls Tryz.prog 131 #[.pointer (some ⟨br,0,none⟩),.agg #[.int .i64 pt,fv]] w (YPost (envOf ds) t w sv rv s E br (recI (bFields (rdB s (envOf ds) f) (fs.map PF.ty) i n))):=by
 obtain⟨POST,hPOST⟩:∃ Q,Hid (Q=YPost (envOf ds) t w sv rv s E br (recI (bFields (rdB s (envOf ds) f) (fs.map PF.ty) i n))):=⟨_,rfl⟩
 rw[← hPOST.out]
 have hsl:=M.hs
 have hbl:=M.lt
 have hnb:=M.brP
 obtain⟨fa,fc,rfl⟩:=own_sl hF.row
 have A:Fr w (w.alloc (.cells #[.int .i64 pt,.slice fa fs.length fc] 211)) (fun _=>False):=(Fr.refl w _).alloc _
 have M0:=M.new A
 have B0:=Blk.new w #[.int .i64 pt,.slice fa fs.length fc] 211
 obtain⟨RES,hRES⟩:∃ r,r=bFields (rdB s (envOf ds) f) (fs.map PF.ty) i n:=⟨_,rfl⟩
 rw[← hRES] at hPOST
 have start:Hid (FyInv RES (rdB s (envOf ds) f) fs n w0 P ss ds sv rv xs s E br [.int .i64 pt,.slice fa fs.length fc] 211 t w 302 (.slice none 0 0) (.int .i64 0) (w.alloc (.cells #[.int .i64 pt,.slice fa fs.length fc] 211))):=hide ⟨[],i,n,rfl,by simp,Nat.le_refl _,hn,by simp,hide ⟨M0,A.mono (fun _ _ f=>f.elim),B0,by simp,hbl,RowT.nil _ _ _ _ _⟩,by rw[aheadB_nil,hRES];rfl⟩
 replace hRES:=hide hRES
 replace hR:=hide hR
 replace hF:=hide hF
 replace hsm:=hide hsm
 replace hsub:=hide hsub
 have hb1:=B0.cell 1
 simp only[List.getElem?_cons_zero,List.getElem?_cons_succ] at hb1
 clear M M0 A B0
 go_enter Tryz.func131,Tryz.ntmps131
 go_wp2_with fail
 go_loopg [6,8,9,10,14] 302 (fun q v6 v8 v9 v10 v14 W=>FyInv RES (rdB s (envOf ds) f) fs n w0 P ss ds sv rv xs s E br [.int .i64 pt,.slice fa fs.length fc] 211 t w q v6 v14 W)
 case atStart=>exact start.out
 case round=>
  clear start hb1
  obtain⟨l,j,nn,rfl,hkc,hnn,hnn3,hq,hQ,hres⟩:=hrel
  obtain⟨Y,hrow,hY⟩:=hQ.out.row
  obtain⟨la,lc,rfl⟩:=own_sl hrow
  by_cases hend:l.length=fs.length
  ·have hlt:¬ (l.length:Int)<(fs.length:Int):=by omega
   have hr:=hide (show RES=.ok (l,j,nn) by rw[hres,List.drop_of_length_le (by simp;omega)];simp[bFields,aheadB])
   have hQr:=hide hQ.out.row
   clear hres hrow hY hend
   go_wp2_with fail
   try go_ret
   rw[hPOST.out,hr.out]
   refine yok ?_ hQ.out.fr hQ.out.M.R hQ.out.M.il
   exact hQr.out.dat (fun g _ hg=>by omega) (fun g e=>by have:=hQr.out;obtain⟨_,a,_⟩:=this;have:=(a.lt g e).1;show w.heap.size≤g;omega) (.inr ⟨rfl,rfl⟩)
  ·have hlt:(l.length:Int)<(fs.length:Int):=by omega
   have hkl:l.length<fs.length:=by omega
   have hd:fs[l.length]?=some fs[l.length]:=List.getElem?_eq_getElem hkl
   have hmem:fs[l.length]∈fs:=List.getElem_mem hkl
   have hdr:(fs.map PF.ty).drop l.length=fs[l.length].ty::(fs.map PF.ty).drop (l.length+1):=by
    rw[List.drop_eq_getElem_cons (by simpa using hkl),List.getElem_map]
   rw[hdr,aheadB_cons] at hres
   generalize fs[l.length]=g0 at hd hmem hres
   have hFr:=hF.out.fr hQ.out.fr (fun g hg e=>hnb (e▸hg))
   obtain⟨gz,cap,hgc⟩:=own_form hFr.row (by omega)
   cases hgc
   obtain⟨T,x,d0,c0,c1,c2,c3,hT,hDf⟩:=hFr.cells hd
   obtain⟨lt,hl0⟩:∃ l,g0.letter=l:=⟨_,rfl⟩
   obtain⟨plq,hplq⟩:∃ q,g0.place=q:=⟨_,rfl⟩
   have hls:isSmall lt=true:=by rw[← hl0];exact hsm.out _ hmem
   rw[hl0] at c1
   rw[hplq] at c0
   have hsb:=hide (hsub.out _ _ hd)
   have A1:=(Fr.refl wr (fun _=>False)).alloc (.cells #[.int .i64 (plq:Int),.int .u8 (lt:Int),.iface T x,.pointer d0] 149)
   have N1:=Blk.new wr #[.int .i64 (plq:Int),.int .u8 (lt:Int),.iface T x,.pointer d0] 149
   have hz1:(wr.alloc (.cells #[.int .i64 (plq:Int),.int .u8 (lt:Int),.iface T x,.pointer d0] 149)).heap.size=wr.heap.size+1:=by simp
   have Q0:=hQ.out.call (A1.blk hQ.out.M.R id) (A1.mono (fun _ _ f=>f.elim)) hQ.out.M.il
   have hC:=hR.out _ hmem j nn hnn hnn3 hQ.out.M.il _ _ Q0.M hnn3 (hT.fr A1 (fun _ _ f=>f))
   have hbB:=hQ.out.bB
   have hlw:=hQ.out.lt
   have hL3:l.length≤300:=by omega
   replace hz1:=hide hz1
   replace N1:=hide N1
   replace Q0:=hide Q0
   clear hT hDf hFr hl0 hplq hdr hend
   cases hrd:rdB s (envOf ds) f g0.ty j nn with
   | error e0=>
    rw[hrd] at hres hC
    have hr:=hide hres
    replace hC:=hide hC
    replace A1:=hide A1
    clear hrow hY hres hd hmem
    go_wp2_with (first
     |(go_at_call 66;refine hC.out.mono ?_;rintro e w1 ⟨v1,ev1,rfl,hf1,hv1,hE1,hR1⟩;subst hv1;obtain⟨eT,ex,rfl⟩:=hE1.iface;have n1:=(hf1.blk N1.out (by omega)).cell 1;simp only[List.getElem?_cons_zero,List.getElem?_cons_succ] at n1;have hz:=hide hf1.size;replace hE1:=hide hE1;replace hf1:=hide hf1;replace hR1:=hide hR1)
     |(go_at_call 152;refine(inField_any hls).mono ?_;rintro e w2 hW2;have hE2:=hide (fun v (he:e=.returned v)=>hE1.out.wrap hW2 (by have:=hz.out;omega) he);obtain⟨g2,tx2,rfl,hg2,hb2,hf2⟩:=hW2;replace hf2:=hide hf2;replace hb2:=hide hb2))
    try go_ret
    rw[hPOST.out,hr.out]
    refine⟨_,_,rfl,(Q0.out.fr.trans hf1.out (fun _ _ e=>e)).trans (hf2.out.mono (fun _ _ f=>f.elim)) (fun _ _ e=>e),rfl,(hE2.out _ rfl).less (by have:=Q0.out.fr.size;omega),?_⟩
    obtain⟨j1,m1,h1,h2⟩:=hR1.out
    exact⟨j1,m1,hf2.out.blk h1 id,h2⟩
   | ok q=>
    obtain⟨d,j1,m1⟩:=q
    rw[hrd] at hres hC
    have hgo:=rdB_goes s (envOf ds) f g0.ty j nn d j1 m1 hQ.out.M.il hnn3 hrd
    have hres':=hide hres
    replace hC:=hide hC
    have hY0:=hide (fun i d (e:l[i]?=some d)=>(hY i d e).fr A1 (fun _ _ f=>f))
    have hrow0:=hide (ownsRow_fr hrow A1 (fun _ _ f=>f))
    replace hrow:=hide hrow
    replace A1:=hide A1
    obtain⟨ti,hi1,hi2,hi3,hi4⟩:=info_parts i_Datum2
    clear hres hY hd hmem
    go_wp2_with (first
     |(go_at_call 66;refine hC.out.mono ?_;rintro e w1 ⟨v1,ev1,rfl,hf1,hv1,hD1,hR1,hj1⟩;subst hv1;obtain⟨dT,dx,rfl⟩:=hD1.iface;have Q1:=Q0.out.call hR1 hf1 hj1;have hb1:=Q1.bB;have hrow1:=hide (ownsRow_fr hrow0.out hf1 (fun g hg e=>by have:=hrow0.out.lt g hg;omega));have hD1':=hide (hD1.mono (Q:=fun g=>w.heap.size+1≤g∧(Value.slice la l.length lc).ownBlock≠some g) (fun g _ hg=>⟨by have:=hz1.out;omega,fun e=>by have:=hrow.out.lt g e;have:=hz1.out;omega⟩));have hY1:=hide (fun i d (e:l[i]?=some d)=>(hY0.out i d e).fr hf1 (fun g hg e=>by have:=hg.1;omega));replace Q1:=hide Q1;clear hD1 hR1 hf1)
     |(at_builtin;go_must (refine wpList_append_own_at _ rfl _ _ 163 rfl (w.heap.size+1) 89 ti _ 1 16 u_DRec hi1 hi2 hi3 hi4 rfl (by decide) (.slice la l.length lc) l.length ((List.range l.length).flatMap fun i=>[Y i]) rfl ?hown _ 1 1 [.iface dT dx] rfl rfl (news_new _ #[.iface dT dx] _ _ ?nn) ?one ?b1 ?b2 ?b3 ?_)
       case hown=>exact World.ownsRow.alloc hrow1.out _
       case nn=>simp
       case one=>simp[Value.oneCell']
       case b1=>unfold maxLen;omega
       case b2=>omega
       case b3=>simp;omega
       intro v5 w5 ho5 hg5 hn5 hl5
       have Q5:=Q1.out.item hY1.out (by rw[hsb.out];exact hD1'.out) hg5 ho5 hl5
       obtain⟨g5,cap5,rfl⟩:=own_form ho5 (by omega)
       clear hg5 hl5 hn5 ho5
       replace Q5:=hide Q5))
    go_roundg (302-(l.length+1))
    case measure=>omega
    case rel=>
     refine⟨l++[d],j1,m1,by simp,by simp;omega,by omega,hgo.2.2.2,by simp;omega,Q5,?_⟩
     rw[hres'.out,List.length_append,List.length_singleton]
end
end Go.Proofs.YtiifagiebikmdaaGreatDoor
