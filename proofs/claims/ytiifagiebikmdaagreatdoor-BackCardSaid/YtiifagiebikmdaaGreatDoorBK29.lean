import Derived.Test.YtiifagiebikmdaaGreatDoorBK28
import Derived.Test.YtiifagiebikmdaaGreatDoorBK24
import Derived.Test.YtiifagiebikmdaaGreatDoorBK09
namespace Go.Proofs.YtiifagiebikmdaaGreatDoor
open Go.RowKit
theorem Fr.ofBelow {w w':World}(h:Below w.heap.size w w'):Fr w w' (fun _=>False):=⟨h.os,h.tape,h.output,h.size,fun k hk _=>h.block k hk⟩
theorem Fr.bytes (w:World) (e:TypeId) (t:ByteArray):Fr w (Lib.bytesWorld w e t) (fun _=>False):=
 ⟨rfl,rfl,rfl,by rw[Lib.bytesWorld_size];omega,fun k hk _=>Lib.bytesWorld_at_old w e t k hk⟩
def ParseOK (w0:World):Prop:=∀ (W:World),SameG w0 W→∀ t:ByteArray,t.size≤4000→Calls Tryz.prog 164 #[.string t,.int .i64 10,.int .i64 64] W (PPost W t)
theorem parseInt_ok {w0:World}{T1 T2:TypeId}{x1 x2:Value}(h1:w0.var? Tryz.prog "strconv.ErrSyntax" = some #[.iface T1 x1]) (h2:w0.var? Tryz.prog "strconv.ErrRange" = some #[.iface T2 x2]):ParseOK w0:=by
 intro W hG t ht
 cases hp:Lib.parseIntB 64 t.data.toList with
 | ok v=>
  refine(Tryz.strconv_ParseInt_10_at64_ok t (by omega) v hp W).mono ?_
  rintro e w' ⟨rfl,hw⟩
  refine⟨?_,.inl ⟨v,hp,rfl⟩⟩
  rcases hw with rfl|⟨t',rfl⟩
  ·exact Fr.refl _ _
  ·exact Fr.bytes _ _ _
 | range=>
  refine(Tryz.strconv_ParseInt_10_at64_range_var t (by omega) hp T2 x2 W (hG.var h2)).mono ?_
  rintro e w' ⟨N,rfl,_,_,hb⟩
  exact⟨Fr.ofBelow hb,.inr ⟨fun v h=>(by rw[hp] at h;cases h),_,_,_,rfl⟩⟩
 | _=>
  refine(Tryz.strconv_ParseInt_10_at64_syntax_var t (by omega) hp T1 x1 W (hG.var h1)).mono ?_
  rintro e w' ⟨N,rfl,_,_,hb⟩
  exact⟨Fr.ofBelow hb,.inr ⟨fun v h=>(by rw[hp] at h;cases h),_,_,_,rfl⟩⟩
theorem SameG.cell {w0 w:World}(h:SameG w0 w){a:Addr}{v:Value}(hc:w0.cell? a=some v):w.cell? a=some v:=
 (World.cell?_of_block (h a.block (World.block_lt_of_cell? w0 a hc))).trans hc
theorem SameG.tab {w0 w:World}(h:SameG w0 w){g:Nat}{k:IntKind}{t:List Nat}(hT:Lib.TabSlice g k t w0):Lib.TabSlice g k t w:=by
 obtain⟨R,o,c,h1,h2⟩:=hT
 exact⟨R,o,c,h.cell h1,fun j hj=>h.cell (h2 j hj)⟩
theorem quote_ok {w0:World}{T:Lib.PrintTabs}(hT:Lib.PrintTabsAt 17 18 19 20 T w0) (hU:Lib.Utf8Tabs 15 16 w0):QuoteOK w0:=by
 intro W hG k hk
 refine(Tryz.strconv_Quote T k W (by omega) ⟨hG.tab hT.1,hG.tab hT.2.1,hG.tab hT.2.2.1,hG.tab hT.2.2.2.1,hT.2.2.2.2⟩ ⟨fun c hc=>hG.cell (hU.1 c hc),fun i hi=>⟨hG.cell (hU.2 i hi).1,hG.cell (hU.2 i hi).2⟩⟩).mono ?_
 rintro e w' ⟨rfl,hb⟩
 refine⟨_,rfl,?_,Fr.ofBelow hb⟩
 rw[strOfNums_size]
 have:=Lib.quoteZ_length_le T k
 omega
section
variable {w0 w:World} {P:Nat→Prop} {ss:ByteArray} {ds:List PD} {sv rv:Value} {xs:List Value} {s:ByteArray} {nt:TypeId} {nx:Value} {pl:Bool} {br i:Nat}
theorem dec_num (hP:ParseOK w0){kd:Nat}(M:NC w0 P ss ds sv rv xs s nt nx pl br i w) :
 Calls Tryz.prog 141 #[.pointer (some ⟨br,0,none⟩),.int .i64 (loV kd),.int .i64 (hiV kd)] w fun e w'=>∃ n b,e=.returned (.tuple #[.int .i64 n,.bool b])∧Fr w w' (· = br)∧RdAt w' br sv rv s (numEnd s i) (!pl)∧(b=true↔numOk kd (negAt s i) (numTx s i))∧(b=true→n=numV (negAt s i) (numTx s i) (numTx s i).size∧-9223372036854775808≤n∧n≤9223372036854775807):=by
 have hs:=M.hs
 refine(ndecimal_any M.R (by omega) M.il (fun W hf=>hP W (M.G.fr hf (by have:=M.lt;have:=M.brG;omega) (fun g e=>e▸M.brG)) _ (by rw[ByteArray.size_extract];omega))).mono ?_
 rintro e w' ⟨n,b,rfl,hf,hR,hb,hv⟩
 refine⟨n,b,rfl,hf,hR,hb.trans ?_,fun e=>?_⟩
 rotate_left
 ·obtain⟨h1,h2⟩:=num_value (hb.1 e).1.1 (hv e)
  exact⟨h1.symm,h2⟩
 constructor
 ·rintro⟨⟨f1,f2⟩,hv⟩
  exact(num_read f1 f2).2 hv
 ·intro h
  have h':=h
  unfold numOk at h'
  exact⟨⟨h'.1,h'.2.1⟩,(num_read h'.1 h'.2.1).1 h⟩
set_option maxHeartbeats 4000000 in
set_option maxRecDepth 100000 in
theorem nnumber_any {kd:Nat}{lo hi:Int}(hP:ParseOK w0) (M:NC w0 P ss ds sv rv xs s nt nx pl br i w) (hkd:kd=105∨kd=108) (h1:loV kd=lo) (h2:hiV kd=hi) :
 Calls Tryz.prog 116 #[.pointer (some ⟨br,0,none⟩),.int .i64 lo,.int .i64 hi] w (NPost w sv rv s nt nx pl br ((rdNum s kd i).map (fun q=>(.mk kd q.1 noB [] [],q.2)))):=by
 have hC:=dec_num (kd:=kd) hP M
 rw[h1,h2] at hC
 clear h1 h2 hP
 obtain⟨POST,hPOST⟩:∃ Q,Hid (Q=NPost w sv rv s nt nx pl br ((rdNum s kd i).map (fun q=>(.mk kd q.1 noB [] [],q.2)))):=⟨_,rfl⟩
 rw[← hPOST.out]
 replace hC:=hide hC
 have hle:=(sgn_le (s:=s) M.il).2.2.2
 replace M:=hide M
 by_cases hok:numOk kd (negAt s i) (numTx s i)
 ·have hr:=hide (show(rdNum s kd i).map (fun q=>(DT.mk kd q.1 noB [] [],q.2))=some (.mk kd (numV (negAt s i) (numTx s i) (numTx s i).size) noB [] [],numEnd s i) by unfold rdNum;rw[if_pos hok];rfl)
  replace hok:=hide hok
  go_enter Tryz.func116,Tryz.ntmps116
  go_wp2_with (go_at_call 141;refine hC.out.mono ?_;rintro e w1 ⟨n,b,rfl,hf1,hR1,hb,hv⟩;obtain rfl:=hb.2 hok.out;replace hv:=hide (hv rfl);replace hf1:=hide hf1;replace hR1:=hide hR1;clear hb)
  try go_ret
  rw[hPOST.out,hr.out]
  exact nok (by rw[← hv.out.1];exact .flat (.num kd n hkd hv.out.2.1 hv.out.2.2)) hf1.out hR1.out hle
 ·have hr:=hide (show(rdNum s kd i).map (fun q=>(DT.mk kd q.1 noB [] [],q.2))=none by unfold rdNum;rw[if_neg hok];rfl)
  replace hok:=hide hok
  go_enter Tryz.func116,Tryz.ntmps116
  go_wp2_with (go_at_call 141;refine hC.out.mono ?_;rintro e w1 ⟨n,b,rfl,hf1,hR1,hb,hv⟩;clear hv;obtain rfl:b=false:=(by cases b;rfl;exact absurd (hb.1 rfl) hok.out);have e1:=(M.out.call hR1 hf1 hle).e;replace hf1:=hide hf1;replace hR1:=hide hR1;clear hb)
  go_quiet (fail)
  go_wp2_with fail
  try go_ret
  rw[hPOST.out,hr.out]
  exact nerr (hf1.out.still (Still.drewN _ _)) (hR1.out.still (Still.drewN _ _)) hle
end
theorem num_all {w0:World}(hP:ParseOK w0):NumAll w0:=fun _ _ _ _ _ _ _ _ _ _ _ _ _ M=>⟨nnumber_any (kd:=105) hP M (.inl rfl) rfl rfl,nnumber_any (kd:=108) hP M (.inr rfl) rfl rfl⟩
open Go.RowKit
theorem extract_snoc {s:ByteArray}{j m:Nat}(h1:j≤m) (h2:m<s.size):(s.extract j (m+1)).data.toList=(s.extract j m).data.toList++[s[m]'h2]:=by
 obtain⟨⟨l⟩⟩:=s
 have hl:m<l.length:=h2
 simp only[ByteArray.data_extract,List.extract_toArray,List.extract_eq_take_drop]
 rw[show m+1-j=(m-j)+1 by omega,List.take_add_one,List.getElem?_drop,show j+(m-j)=m by omega,List.getElem?_eq_getElem hl]
 rfl
theorem brNum_dv {s:ByteArray}{j:Nat}:∀ n,j+n≤s.size→brNum s j n=dv (s.extract j (j+n)).data.toList:=by
 intro n
 induction n with
 | zero=>
  intro _
  have:(s.extract j (j+0)).data.toList=[]:=by
   apply List.eq_nil_of_length_eq_zero
   rw[Array.length_toList]
   show(s.extract j (j+0)).size=0
   rw[ByteArray.size_extract];omega
  rw[this];rfl
 | succ n ih=>
  intro h
  rw[show j+(n+1)=(j+n)+1 by omega,extract_snoc (by omega) (by omega),dv_app,brNum,ih (by omega),bt_eq s (j+n) (by omega)]
  simp only[List.length_singleton,Nat.pow_one,dv,List.length_nil,Nat.pow_zero,Nat.mul_one,Nat.add_zero]
  omega
theorem numTx_plain {s:ByteArray}{j:Nat}(h:bt s j≠45):numEnd s j=runEnd 48 57 s j∧numTx s j=s.extract j (runEnd 48 57 s j)∧negAt s j=false:=by
 have hs:sgn s j=j:=by unfold sgn;rw[if_neg h]
 refine⟨by unfold numEnd;rw[hs],by unfold numTx numEnd;rw[hs],?_⟩
 unfold negAt
 exact beq_eq_false_iff_ne.2 (by omega)
theorem br_dec {s:ByteArray}{j n:Nat}(hj:j≤s.size) (hn:n≤300) :
 ((numFit s j∧∃ v,Lib.parseIntB 64 (s.extract j (numEnd s j)).data.toList=.ok v∧0≤v∧v≤(n:Int)-1)∧bt s (numEnd s j)=58)↔(brGood s j (brEnd s j) (brNum s j (brEnd s j-j)) n=true∧bt s (brEnd s j)=58):=by
 have hre:=runEnd_ge 48 57 s _ j (Nat.le_refl _)
 unfold brGood
 rw[decide_eq_true_iff]
 have hd:digs (s.extract j (runEnd 48 57 s j)).data.toList:=digs_run s j
 have hsz:(s.extract j (runEnd 48 57 s j)).size=runEnd 48 57 s j-j:=by rw[ByteArray.size_extract];have:=hre.2 hj;omega
 have hll:(s.extract j (runEnd 48 57 s j)).data.toList.length=runEnd 48 57 s j-j:=by rw[Array.length_toList];exact hsz
 have hb0:∀ _h:j<runEnd 48 57 s j,bt (s.extract j (runEnd 48 57 s j)) 0=bt s j∧∃ r,(s.extract j (runEnd 48 57 s j)).data.toList=(s[j]'(by have:=hre.2 hj;omega))::r∧r.length+1=runEnd 48 57 s j-j:=fun h=>by
  have hlt:j<s.size:=by have:=hre.2 hj;omega
  have he:=extract_cons (s:=s) h (hre.2 hj)
  refine⟨?_,_,he,?_⟩
  ·rw[bt_head he,bt_eq s j hlt]
  ·rw[he,List.length_cons] at hll;exact hll
 constructor
 ·rintro⟨⟨⟨f1,f2⟩,v,hp,h0,h1⟩,h58⟩
  have hv:=num_value f1 hp
  by_cases h45:bt s j=45
  ·exfalso
   have hneg:negAt s j=true:=by unfold negAt;rw[h45];rfl
   have hdn:digs (numTx s j).data.toList:=digs_run s (sgn s j)
   have hszn:(numTx s j).size=(numTx s j).data.toList.length:=Array.length_toList.symm
   cases hl:(numTx s j).data.toList with
   | nil=>rw[hl,List.length_nil] at hszn;omega
   | cons c r=>
    have hc:=hdn c (by rw[hl];exact List.mem_cons_self ..)
    have hbt:=bt_head hl
    have hval:=hv.1
    rw[hneg,numV_val hdn ?_ _ (Nat.le_refl _),if_pos rfl,show(numTx s j).data.toList.take (numTx s j).size=(numTx s j).data.toList by rw[hszn];exact List.take_length,hl] at hval
    ·have h49:49≤c.toNat:=by
      have:¬ bt (numTx s j) 0=48:=fun e=>f2 ⟨e,.inr hneg⟩
      omega
     have:=dv_ge (r:=r) h49
     have:1≤10 ^ r.length:=Nat.one_le_pow _ _ (by decide)
     omega
    ·simp only[if_true]
     have he:(s.extract j (numEnd s j)).data.toList=45::(numTx s j).data.toList:=by
      have hlt:j<s.size:=bt_pos (by omega)
      have hs:sgn s j=j+1:=by unfold sgn;rw[if_pos h45]
      have hge:=runEnd_ge 48 57 s _ (j+1) (Nat.le_refl _)
      unfold numTx numEnd
      rw[hs,extract_cons (by omega) (hge.2 (by omega))]
      refine List.cons_eq_cons.2 ⟨?_,rfl⟩
      rw[bt_eq s j hlt] at h45
      exact UInt8.toNat_inj.1 (h45.trans (by decide))
     rw[he,int_neg (by rw[hl];simp) hdn] at hp
     split at hp
     ·omega
     ·cases hp
  ·obtain⟨e1,e2,e3⟩:=numTx_plain h45
   rw[e1] at hp h58
   rw[e2] at f1 f2
   rw[hsz] at f1 f2
   obtain⟨g1,r,g2,g3⟩:=hb0 (by omega)
   rw[g1] at f2
   have hlt:j<s.size:=by have:=hre.2 hj;omega
   rw[int_pos (by rw[g2];simp) hd] at hp
   split at hp
   ·cases hp
    have hs3:runEnd 48 57 s j-j≤3:=by
     rcases Nat.lt_or_ge 3 (runEnd 48 57 s j-j) with h|h
     ·exfalso
      have hc:=hd (s[j]'hlt) (by rw[g2];exact List.mem_cons_self ..)
      have h49:49≤(s[j]'hlt).toNat:=by
       have:¬ bt s j=48:=fun e=>f2 ⟨e,.inl (by omega)⟩
       rw[bt_eq s j hlt] at this
       omega
      have hdg:=dv_ge (r:=r) h49
      rw[← g2] at hdg
      have:10 ^ 3≤10 ^ r.length:=Nat.pow_le_pow_right (by decide) (by omega)
      omega
     ·exact h
    have hbe:brEnd s j=runEnd 48 57 s j:=by unfold brEnd;omega
    rw[hbe]
    have hbn:=brNum_dv (s:=s) (j:=j) (runEnd 48 57 s j-j) (by have:=hre.2 hj;omega)
    rw[show j+(runEnd 48 57 s j-j)=runEnd 48 57 s j by omega] at hbn
    rw[hbn]
    exact⟨⟨by omega,fun h=>f2 ⟨h.1,.inl h.2⟩,by omega⟩,h58⟩
   ·cases hp
 ·rintro⟨⟨q1,q2,q3⟩,h58⟩
  have hrn:runEnd 48 57 s j≠j:=fun e=>q1 (by unfold brEnd;omega)
  have hbe:brEnd s j=runEnd 48 57 s j:=by
   rcases Nat.lt_or_ge (j+3) (runEnd 48 57 s j) with h|h
   ·exfalso
    have e:brEnd s j=j+3:=by unfold brEnd;omega
    have:=runEnd_in 48 57 s _ j (Nat.le_refl _) (j+3) (by omega) h
    rw[e] at h58
    omega
   ·unfold brEnd;omega
  have h45:bt s j≠45:=by
   have:=runEnd_in 48 57 s _ j (Nat.le_refl _) j (Nat.le_refl _) (by omega)
   omega
  obtain⟨e1,e2,e3⟩:=numTx_plain h45
  have hlt:j<s.size:=by have:=hre.2 hj;omega
  obtain⟨g1,r,g2,g3⟩:=hb0 (by omega)
  rw[hbe] at q2 q3 h58
  have hbn:=brNum_dv (s:=s) (j:=j) (runEnd 48 57 s j-j) (by have:=hre.2 hj;omega)
  rw[show j+(runEnd 48 57 s j-j)=runEnd 48 57 s j by omega] at hbn
  rw[hbn] at q3
  unfold numFit
  rw[e1,e2,e3,hsz,g1]
  refine⟨⟨⟨by omega,fun h=>?_⟩,(dv (s.extract j (runEnd 48 57 s j)).data.toList:Int),?_,by omega,by omega⟩,h58⟩
  ·rcases h.2 with h2|h2
   ·exact q2 ⟨h.1,h2⟩
   ·cases h2
  ·rw[int_pos (by rw[g2];simp) hd,if_pos (by omega)]
theorem br_val {s:ByteArray}{j n:Nat}{v:Int}(hj:j≤s.size) (hg:brGood s j (brEnd s j) (brNum s j (brEnd s j-j)) n=true) (h58:bt s (brEnd s j)=58) (hp:Lib.parseIntB 64 (s.extract j (numEnd s j)).data.toList=.ok v):numEnd s j=brEnd s j∧v=(brNum s j (brEnd s j-j):Int):=by
 have hre:=runEnd_ge 48 57 s _ j (Nat.le_refl _)
 unfold brGood at hg
 rw[decide_eq_true_iff] at hg
 obtain⟨q1,q2,q3⟩:=hg
 have hrn:runEnd 48 57 s j≠j:=fun e=>q1 (by unfold brEnd;omega)
 have hbe:brEnd s j=runEnd 48 57 s j:=by
  rcases Nat.lt_or_ge (j+3) (runEnd 48 57 s j) with h|h
  ·exfalso
   have e:brEnd s j=j+3:=by unfold brEnd;omega
   have:=runEnd_in 48 57 s _ j (Nat.le_refl _) (j+3) (by omega) h
   rw[e] at h58
   omega
  ·unfold brEnd;omega
 have h45:bt s j≠45:=by
  have:=runEnd_in 48 57 s _ j (Nat.le_refl _) j (Nat.le_refl _) (by omega)
  omega
 obtain⟨e1,e2,e3⟩:=numTx_plain h45
 have hbn:=brNum_dv (s:=s) (j:=j) (runEnd 48 57 s j-j) (by have:=hre.2 hj;omega)
 rw[show j+(runEnd 48 57 s j-j)=runEnd 48 57 s j by omega] at hbn
 rw[hbe,hbn,e1]
 refine⟨rfl,?_⟩
 have hd:digs (s.extract j (runEnd 48 57 s j)).data.toList:=digs_run s j
 have hne:(s.extract j (runEnd 48 57 s j)).data.toList≠[]:=by
  intro e
  have hl:(s.extract j (runEnd 48 57 s j)).data.toList.length=(s.extract j (runEnd 48 57 s j)).size:=Array.length_toList
  rw[e,List.length_nil,ByteArray.size_extract] at hl
  have:=hre.2 hj
  omega
 rw[e1,int_pos hne hd] at hp
 split at hp
 ·cases hp;rfl
 ·cases hp
section
variable {w0 w:World} {P:Nat→Prop} {ss:ByteArray} {ds:List PD} {sv rv:Value} {xs:List Value} {s:ByteArray} {nt:TypeId} {nx:Value} {br i:Nat}
set_option maxHeartbeats 8000000 in
set_option maxRecDepth 100000 in
theorem nunionN_any {l:List PT}{p:Int}{bv:Value}{f:Nat}{X:Nat→Value}(M:NC w0 P ss ds sv rv xs s nt nx false br i w) (ho:w.ownsRow 0 83 1 bv l.length ((List.range l.length).map X)) (hX:∀ k u,l[k]?=some u→TyV w P u (X k)) (hoP:∀ g,bv.ownBlock=some g→P g) (hl0:l≠[]) (hlen:l.length≤300) (hI:ItoaOK w0) (hP:ParseOK w0) (hR:∀ t∈l,∀ j,i<j→j≤s.size→DatN w0 P ss ds sv rv xs s nt nx false br f t j) :
 Calls Tryz.prog 120 #[.pointer (some ⟨br,0,none⟩),.agg #[.int .i64 p,bv]] w (NPost w sv rv s nt nx false br (rdBranch (rdT s (envOf ds) false f) s false l i)):=by
 obtain⟨POST,hPOST⟩:∃ Q,Hid (Q=NPost w sv rv s nt nx false br (rdBranch (rdT s (envOf ds) false f) s false l i)):=⟨_,rfl⟩
 rw[← hPOST.out]
 obtain⟨ba,bc,rfl⟩:=own_sl ho
 obtain⟨m,hm⟩:∃ m,l.length=m+1:=⟨l.length-1,by have:=List.length_pos_iff.2 hl0;omega⟩
 rw[hm] at ho hoP⊢
 have hs4:=M.hs
 have hil:=M.il
 have hbl:=M.lt
 have A:Fr w (w.alloc (.cells #[.int .i64 p,.slice ba (m+1) bc] 220)) (fun _=>False):=(Fr.refl w _).alloc _
 have M0:=hide (M.new A)
 have hN:=hide (Blk.new w #[.int .i64 p,.slice ba (m+1) bc] 220)
 have A':=hide (A.mono (T:=fun g=>g=br) (fun _ _ f=>f.elim))
 have c4:=M0.out.R.c4
 have hw64:wrap64 (m:Int)=(m:Int):=wrapJ _ (by omega) (by omega)
 by_cases h60:bt s i=60
 case neg=>
  have hr:=hide (show rdBranch (rdT s (envOf ds) false f) s false l i=none by unfold rdBranch;rw[if_neg (by decide),if_neg (fun h=>h60 h.1)])
  replace h60:=hide h60
  clear M ho hX hR
  go_enter Tryz.func120,Tryz.ntmps120
  go_wp2_with (go_at_call 114;refine(ntake_no 60 M0.out.R hs4 hil (by decide) (by decide) h60.out).mono ?_;rintro e w1 ⟨rfl,hf1,h1⟩;have e1:=(M0.out.call h1 hf1 hil).e;replace hf1:=hide hf1;replace h1:=hide h1)
  go_quiet (fail)
  go_wp2_with fail
  try go_ret
  rw[hPOST.out,hr.out]
  exact nerr ((A'.out.trans hf1.out (fun _ _ e=>e)).still (Still.drewN _ _)) (h1.out.still (Still.drewN _ _)) hil
 case pos=>
 have hlt:i+1≤s.size:=bt_pos (s:=s) (i:=i) (by omega)
 have hnl:=(sgn_le (s:=s) hlt).2.2.2
 obtain⟨k,hk⟩:∃ k,brEnd s (i+1)=k:=⟨_,rfl⟩
 obtain⟨N,hNn⟩:∃ N,brNum s (i+1) (k-(i+1))=N:=⟨_,rfl⟩
 have hrd:=rdBranch_eq (R:=rdT s (envOf ds) false f) (l:=l) h60 hk hNn
 have hbd:=br_dec (s:=s) (j:=i+1) (n:=l.length) hlt hlen
 rw[hk,hNn,show((l.length:Nat):Int)-1=(m:Int) by omega] at hbd
 replace hm:=hide hm
 have hDec:Hid (∀ w1,NC w0 P ss ds sv rv xs s nt nx false br (i+1) w1→Calls Tryz.prog 141 #[.pointer (some ⟨br,0,none⟩),.int .i64 0,.int .i64 (m:Int)] w1 (DecPost w1 br sv rv s (i+1) (!false) 0 (m:Int))):=hide (fun w1 M1=>ndecimal_any M1.R hs4 hlt (fun W hf=>hP W (M1.G.fr hf (by have:=M1.lt;have:=M1.brG;omega) (fun g e=>e▸M1.brG)) _ (by rw[ByteArray.size_extract];omega)))
 replace h60:=hide h60
 by_cases hD:numFit s (i+1)∧∃ v,Lib.parseIntB 64 (s.extract (i+1) (numEnd s (i+1))).data.toList=.ok v∧0≤v∧v≤(m:Int)
 case neg=>
  have hr:=hide (show rdBranch (rdT s (envOf ds) false f) s false l i=none by rw[hrd,if_neg (fun h=>hD (hbd.2 h).1)])
  replace hD:=hide hD
  clear M ho hX hR hrd hbd hk hNn
  go_enter Tryz.func120,Tryz.ntmps120
  go_wp2_with (first
   |(go_at_call 114;refine(ntake_yes 60 M0.out.R hs4 hil (by decide) (by decide) h60.out).mono ?_;rintro e w1 ⟨rfl,hf1,h1⟩;have M1:=hide (M0.out.call h1 hf1 hlt);have F1:=hide (A'.out.trans hf1 (fun _ _ e=>e));have N1:=hide (hf1.blk hN.out (by omega));have n1:=N1.out.cell 1;simp only[List.getElem?_cons_zero,List.getElem?_cons_succ] at n1;clear hf1 h1)
   |(go_at_call 141;refine(hDec.out w1 M1.out).mono ?_;rintro e w2 ⟨n,b,rfl,hf2,h2,hb,hv⟩;have M2:=hide (M1.out.call h2 hf2 hnl);have F2:=hide (F1.out.trans hf2 (fun _ _ e=>e));have N2:=hide (hf2.blk N1.out (by omega));obtain rfl:b=false:=(by cases b;rfl;exact absurd (hb.1 rfl) hD.out);have e2:=M2.out.e;clear hb hv;clear hf2 h2))
  go_quiet (fail)
  go_wp2_with fail
  try go_ret
  rw[hPOST.out,hr.out]
  exact nerr (F2.out.still (Still.drewN _ _)) (M2.out.R.still (Still.drewN _ _)) hnl
 case pos=>
 by_cases h58:bt s (numEnd s (i+1))=58
 case neg=>
  have hr:=hide (show rdBranch (rdT s (envOf ds) false f) s false l i=none by rw[hrd,if_neg (fun h=>h58 (hbd.2 h).2)])
  replace hD:=hide hD
  replace h58:=hide h58
  clear M ho hX hR hrd hbd hk hNn
  go_enter Tryz.func120,Tryz.ntmps120
  go_wp2_with (first
   |(go_at_call 114;refine(ntake_yes 60 M0.out.R hs4 hil (by decide) (by decide) h60.out).mono ?_;rintro e w1 ⟨rfl,hf1,h1⟩;have M1:=hide (M0.out.call h1 hf1 hlt);have F1:=hide (A'.out.trans hf1 (fun _ _ e=>e));have N1:=hide (hf1.blk hN.out (by omega));have n1:=N1.out.cell 1;simp only[List.getElem?_cons_zero,List.getElem?_cons_succ] at n1;clear hf1 h1)
   |(go_at_call 141;refine(hDec.out w1 M1.out).mono ?_;rintro e w2 ⟨n,b,rfl,hf2,h2,hb,hv⟩;have M2:=hide (M1.out.call h2 hf2 hnl);have F2:=hide (F1.out.trans hf2 (fun _ _ e=>e));have N2:=hide (hf2.blk N1.out (by omega));obtain rfl:=hb.2 hD.out;clear hb hv;clear hf2 h2)
   |(go_at_call 114;refine(ntake_no 58 M2.out.R hs4 hnl (by decide) (by decide) h58.out).mono ?_;rintro e w3 ⟨rfl,hf3,h3⟩;have e3:=(M2.out.call h3 hf3 hnl).e;replace hf3:=hide hf3;replace h3:=hide h3))
  go_quiet (fail)
  go_wp2_with fail
  try go_ret
  rw[hPOST.out,hr.out]
  exact nerr ((F2.out.trans hf3.out (fun _ _ e=>e)).still (Still.drewN _ _)) (h3.out.still (Still.drewN _ _)) hnl
 case pos=>
 have hg:=hbd.1 ⟨hD,h58⟩
 have hval:Hid (∀ v,Lib.parseIntB 64 (s.extract (i+1) (numEnd s (i+1))).data.toList=.ok v→v=(N:Int)):=hide (fun v hp=>by
  have:=br_val hlt (by rw[hk,hNn];exact hg.1) (by rw[hk];exact hg.2) hp
  rw[hk,hNn] at this
  exact this.2)
 have hnk:numEnd s (i+1)=k:=by
  obtain⟨v,hv,_⟩:=hD.2
  have:=br_val hlt (by rw[hk,hNn];exact hg.1) (by rw[hk];exact hg.2) hv
  rw[hk] at this
  exact this.1
 have hNl:N<l.length:=by
  have:=hg.1
  unfold brGood at this
  exact(of_decide_eq_true this).2.2
 obtain⟨t,ht⟩:∃ t,l[N]?=some t:=⟨_,List.getElem?_eq_getElem hNl⟩
 have hr:rdBranch (rdT s (envOf ds) false f) s false l i=match rdT s (envOf ds) false f t (k+1) with|none=>none|some (d,j)=>if bt s j=62 then some (.mk 40 (N:Int) noB [] [d],j+1) else none:=by rw[hrd,if_pos hg,ht];try rfl
 have hk58:=hide hg.2
 have hkl:k+1≤s.size:=bt_pos (s:=s) (i:=k) (by have:=hg.2;omega)
 have hge:=hide (show i+1≤k by rw[← hnk];exact Nat.le_trans (sgn_le (s:=s) hlt).1 (sgn_le (s:=s) hlt).2.2.1)
 have hBr:Hid (∀ W,NC w0 P ss ds (sv) rv xs s nt nx false br (k+1) W→Fr w W (· = br)→Calls Tryz.prog 150 #[.pointer (some ⟨br,0,none⟩),.agg #[.int .i64 p,.slice ba (m+1) bc],.int .i64 (N:Int)] W (NPost W sv rv s nt nx false br (oneB N (rdT s (envOf ds) false f t (k+1))))):=hide (fun W MW hf=>nbranch_any MW (ownsRow_fr ho hf (fun g hg e=>M.brP (e▸hoP g hg))) (by have:=hm.out;omega) (by omega) ((hX N t ht).fr hf (fun g hg e=>M.brP (e▸hg))) hI (hR t (List.mem_of_getElem? ht) (k+1) (by have:=hge.out;omega) hkl))
 replace hD:=hide hD
 rw[hnk] at h58 hnl
 replace hnk:=hide hnk
 clear ho hX hR hrd hbd hg ht hk hNn
 have hkl0:k≤s.size:=by omega
 cases hp:rdT s (envOf ds) false f t (k+1) with
 | none=>
  rw[hp] at hr
  replace hr:=hide hr
  replace hp:=hide hp
  clear M
  go_enter Tryz.func120,Tryz.ntmps120
  go_wp2_with (first
   |(go_at_call 114;refine(ntake_yes 60 M0.out.R hs4 hil (by decide) (by decide) h60.out).mono ?_;rintro e w1 ⟨rfl,hf1,h1⟩;have M1:=hide (M0.out.call h1 hf1 hlt);have F1:=hide (A'.out.trans hf1 (fun _ _ e=>e));have N1:=hide (hf1.blk hN.out (by omega));have n1:=N1.out.cell 1;simp only[List.getElem?_cons_zero,List.getElem?_cons_succ] at n1;clear hf1 h1)
   |(go_at_call 141;refine(hDec.out w1 M1.out).mono ?_;rintro e w2 ⟨n,b,rfl,hf2,h2,hb,hv⟩;have M2:=hide (M1.out.call h2 hf2 (by rw[hnk.out];exact hkl0));have F2:=hide (F1.out.trans hf2 (fun _ _ e=>e));have N2:=hide (hf2.blk N1.out (by omega));obtain rfl:=hb.2 hD.out;obtain rfl:=hval.out _ (hv rfl);rw[hnk.out] at M2;clear hb hv;clear hf2 h2)
   |(go_at_call 114;refine(ntake_yes 58 M2.out.R hs4 hkl0 (by decide) (by decide) hk58.out).mono ?_;rintro e w3 ⟨rfl,hf3,h3⟩;have M3:=hide (M2.out.call h3 hf3 hkl);have F3:=hide (F2.out.trans hf3 (fun _ _ e=>e));have N3:=hf3.blk N2.out (by omega);have n30:=N3.cell 0;have n31:=N3.cell 1;simp only[List.getElem?_cons_zero,List.getElem?_cons_succ] at n30 n31;clear N3 hf3 h3)
   |(go_at_call 150;refine(hBr.out _ M3.out F3.out).mono ?_;rintro e w4 ⟨v4,ev4,rfl,hf4,hm⟩;rw[hp.out] at hm;obtain⟨rfl,hErr,j4,h4,hj4⟩:=hm;obtain⟨eT,ex,rfl⟩:=hErr.iface;replace hErr:=hide hErr;replace hf4:=hide hf4;replace h4:=hide h4))
  try go_ret
  rw[hPOST.out,hr.out]
  have hF4:=F3.out.trans hf4.out (fun _ _ e=>e)
  exact⟨.nilIface,_,rfl,hF4,rfl,hErr.out.less F3.out.size,j4,h4.out,hj4⟩
 | some q=>
  obtain⟨d,j2⟩:=q
  rw[hp] at hr
  have hj2:=(rdT_goes s (envOf ds) false f t (k+1) d j2 hp).2
  replace hp:=hide hp
  clear M
  by_cases h62:bt s j2=62
  ·have hj3:j2+1≤s.size:=bt_pos (s:=s) (i:=j2) (by omega)
   simp only[h62,if_true] at hr
   replace hr:=hide hr
   replace h62:=hide h62
   go_enter Tryz.func120,Tryz.ntmps120
   go_wp2_with (first
    |(go_at_call 114;refine(ntake_yes 60 M0.out.R hs4 hil (by decide) (by decide) h60.out).mono ?_;rintro e w1 ⟨rfl,hf1,h1⟩;have M1:=hide (M0.out.call h1 hf1 hlt);have F1:=hide (A'.out.trans hf1 (fun _ _ e=>e));have N1:=hide (hf1.blk hN.out (by omega));have n1:=N1.out.cell 1;simp only[List.getElem?_cons_zero,List.getElem?_cons_succ] at n1;clear hf1 h1)
    |(go_at_call 141;refine(hDec.out w1 M1.out).mono ?_;rintro e w2 ⟨n,b,rfl,hf2,h2,hb,hv⟩;have M2:=hide (M1.out.call h2 hf2 (by rw[hnk.out];exact hkl0));have F2:=hide (F1.out.trans hf2 (fun _ _ e=>e));have N2:=hide (hf2.blk N1.out (by omega));obtain rfl:=hb.2 hD.out;obtain rfl:=hval.out _ (hv rfl);rw[hnk.out] at M2;clear hb hv;clear hf2 h2)
    |(go_at_call 114;refine(ntake_yes 58 M2.out.R hs4 hkl0 (by decide) (by decide) hk58.out).mono ?_;rintro e w3 ⟨rfl,hf3,h3⟩;have M3:=hide (M2.out.call h3 hf3 hkl);have F3:=hide (F2.out.trans hf3 (fun _ _ e=>e));have N3:=hf3.blk N2.out (by omega);have n30:=N3.cell 0;have n31:=N3.cell 1;simp only[List.getElem?_cons_zero,List.getElem?_cons_succ] at n30 n31;clear N3 hf3 h3)
    |(go_at_call 150;refine(hBr.out _ M3.out F3.out).mono ?_;rintro e w4 ⟨v4,ev4,rfl,hf4,hm⟩;rw[hp.out] at hm;obtain⟨rfl,hDv,h4,hj4⟩:=hm;obtain⟨dT,dx,rfl⟩:=hDv.iface;replace hDv:=hide hDv;replace hf4:=hide hf4;replace h4:=hide h4)
    |(go_at_call 114;refine(ntake_yes 62 h4.out hs4 hj2 (by decide) (by decide) h62.out).mono ?_;rintro e w5 ⟨rfl,hf5,h5⟩;replace hf5:=hide hf5;replace h5:=hide h5))
   try go_ret
   rw[hPOST.out,hr.out]
   have hs3:=F3.out.size
   exact nok ((hDv.out.fr hf5.out (fun g hg e=>by have:=M3.out.lt;omega)).mono (fun g _ hg=>by omega)) ((F3.out.trans hf4.out (fun _ _ e=>e)).trans hf5.out (fun _ _ e=>e)) h5.out hj3
  ·simp only[h62,if_false] at hr
   replace hr:=hide hr
   replace h62:=hide h62
   go_enter Tryz.func120,Tryz.ntmps120
   go_wp2_with (first
    |(go_at_call 114;refine(ntake_yes 60 M0.out.R hs4 hil (by decide) (by decide) h60.out).mono ?_;rintro e w1 ⟨rfl,hf1,h1⟩;have M1:=hide (M0.out.call h1 hf1 hlt);have F1:=hide (A'.out.trans hf1 (fun _ _ e=>e));have N1:=hide (hf1.blk hN.out (by omega));have n1:=N1.out.cell 1;simp only[List.getElem?_cons_zero,List.getElem?_cons_succ] at n1;clear hf1 h1)
    |(go_at_call 141;refine(hDec.out w1 M1.out).mono ?_;rintro e w2 ⟨n,b,rfl,hf2,h2,hb,hv⟩;have M2:=hide (M1.out.call h2 hf2 (by rw[hnk.out];exact hkl0));have F2:=hide (F1.out.trans hf2 (fun _ _ e=>e));have N2:=hide (hf2.blk N1.out (by omega));obtain rfl:=hb.2 hD.out;obtain rfl:=hval.out _ (hv rfl);rw[hnk.out] at M2;clear hb hv;clear hf2 h2)
    |(go_at_call 114;refine(ntake_yes 58 M2.out.R hs4 hkl0 (by decide) (by decide) hk58.out).mono ?_;rintro e w3 ⟨rfl,hf3,h3⟩;have M3:=hide (M2.out.call h3 hf3 hkl);have F3:=hide (F2.out.trans hf3 (fun _ _ e=>e));have N3:=hf3.blk N2.out (by omega);have n30:=N3.cell 0;have n31:=N3.cell 1;simp only[List.getElem?_cons_zero,List.getElem?_cons_succ] at n30 n31;clear N3 hf3 h3)
    |(go_at_call 150;refine(hBr.out _ M3.out F3.out).mono ?_;rintro e w4 ⟨v4,ev4,rfl,hf4,hm⟩;rw[hp.out] at hm;obtain⟨rfl,hDv,h4,hj4⟩:=hm;obtain⟨dT,dx,rfl⟩:=hDv.iface;clear hDv;have M4:=hide (M3.out.call h4 hf4 hj4);replace hf4:=hide hf4;replace h4:=hide h4)
    |(go_at_call 114;refine(ntake_no 62 h4.out hs4 hj2 (by decide) (by decide) h62.out).mono ?_;rintro e w5 ⟨rfl,hf5,h5⟩;have e5:=(M4.out.call h5 hf5 hj2).e;replace hf5:=hide hf5;replace h5:=hide h5))
   go_quiet (fail)
   go_wp2_with fail
   try go_ret
   rw[hPOST.out,hr.out]
   exact nerr (((F3.out.trans hf4.out (fun _ _ e=>e)).trans hf5.out (fun _ _ e=>e)).still (Still.drewN _ _)) (h5.out.still (Still.drewN _ _)) hj2
end
section
variable {w0:World} {P:Nat→Prop} {ss:ByteArray} {ds:List PD} {sv rv:Value} {xs:List Value} {s:ByteArray} {nt:TypeId} {nx:Value} {br:Nat}
set_option maxHeartbeats 4000000 in
set_option maxRecDepth 100000 in
theorem uni_num (hI:ItoaOK w0) (hPar:ParseOK w0):UniN w0 P ss ds sv rv xs s nt nx false br:=by
 intro f p l i hne hbl _ hR w v M hT
 have hlen:l.length≤300:=by
  rcases hbl with h|h
  ·cases h
  ·exact h
 obtain⟨X,v2,ho,hP,hX,rfl⟩:∃ X v2,w.ownsRow 0 83 1 v2 l.length ((List.range l.length).map X)∧(∀ g,v2.ownBlock=some g→P g)∧(∀ i u,l[i]?=some u→TyV w P u (X i))∧v=.iface 220 (.agg #[.int .i64 (p:Int),v2]):=by
  cases hT with
  | alts _ X ho hP h=>exact⟨X,_,ho,hP,h,rfl⟩
 obtain⟨ba,bc,rfl⟩:=own_sl ho
 rw[rdT]
 obtain⟨POST,hPOST⟩:∃ Q,Hid (Q=NPost w sv rv s nt nx false br (rdBranch (rdT s (envOf ds) false f) s false l i)):=⟨_,rfl⟩
 rw[← hPOST.out]
 have A:Fr w (w.alloc (.cells #[.int .i64 (p:Int),.slice ba l.length bc] 220)) (fun _=>False):=(Fr.refl w _).alloc _
 have M0:=M.new A
 have hC:=hide (nunionN_any (p:=(p:Int)) M0 (ownsRow_fr ho A (fun _ _ f=>f)) (fun k u e=>(hX k u e).fr A (fun _ _ f=>f)) hP hne hlen hI hPar (fun t ht j h1 h2=>hR t ht j (fun h=>by cases h) (fun _=>h1) h2))
 replace A:=hide A
 clear M0 M ho hX hR hT hP
 generalize l.length=n at hC A hlen⊢
 have a0:=asNothing_no 220 (by decide)
 have a1:=asTruth_no 220 (by decide)
 have a2:=asInt_no 220 (by decide)
 have a3:=asLong_no 220 (by decide)
 have a4:=asText_no 220 (by decide)
 have a5:=asList_no 220 (by decide)
 have a6:=asMap_no 220 (by decide)
 have a7:=asUnion_yes
 go_enter Tryz.func83,Tryz.ntmps83
 go_wp2_with (go_at_call 120;refine hC.out.mono ?_;intro e w2 hN;obtain⟨v2,ev2,rfl,hN2⟩:=hN;replace hN2:=hide hN2)
 try go_ret
 rw[hPOST.out]
 exact NPost.pre A.out ⟨v2,ev2,rfl,hN2.out⟩
end
end Go.Proofs.YtiifagiebikmdaaGreatDoor
