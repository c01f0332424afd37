import Derived.Test.YtiifagiebikmdaaGreatDoorBK23
import Derived.Test.YtiifagiebikmdaaGreatDoorBK06
import Derived.Laws.BitsLemmas
namespace Go.Proofs.YtiifagiebikmdaaGreatDoor
open Go.RowKit
def PPost (W:World) (t:ByteArray) (e:Ending) (w':World):Prop:=Fr W w' (fun _=>False)∧
 ((∃ v,Lib.parseIntB 64 t.data.toList=.ok v∧e=.returned (.tuple #[.int .i64 v,.nilIface]))∨((∀ v,Lib.parseIntB 64 t.data.toList≠.ok v)∧∃ v T x,e=.returned (.tuple #[.int .i64 v,.iface T x])))
def numFit (s:ByteArray) (i:Nat):Prop:=0<(numTx s i).size∧¬ (bt (numTx s i) 0=48∧(1<(numTx s i).size∨negAt s i=true))
def DecPost (w:World) (br:Nat) (sv rv:Value) (s:ByteArray) (i:Nat) (nb:Bool) (lo hi:Int) (e:Ending) (w':World):Prop:=
 ∃ n b,e=.returned (.tuple #[.int .i64 n,.bool b])∧Fr w w' (· = br)∧RdAt w' br sv rv s (numEnd s i) nb∧
  (b=true↔(numFit s i∧∃ v,Lib.parseIntB 64 (s.extract i (numEnd s i)).data.toList=.ok v∧lo≤v∧v≤hi))∧(b=true→Lib.parseIntB 64 (s.extract i (numEnd s i)).data.toList=.ok n)
section
variable {w:World} {br:Nat} {sv rv:Value} {s:ByteArray} {i:Nat} {nb:Bool} {lo hi:Int}
theorem ntake_sgn (h:RdAt w br sv rv s i nb) (hs:s.size≤4000) (hi:i≤s.size) :
 Calls Tryz.prog 114 #[.pointer (some ⟨br,0,none⟩),.int .u8 45] w fun e w'=>e=.returned (.bool (negAt s i))∧Fr w w' (· = br)∧RdAt w' br sv rv s (sgn s i) nb:=by
 refine(ntake_any 45 h hs hi rfl (by decide)).mono ?_
 rintro e w' ⟨b,rfl,hf,hT⟩
 rcases hT with⟨hy,rfl,h1,_⟩|⟨hn,rfl,h1⟩
 ·refine⟨?_,hf,?_⟩
  ·unfold negAt;rw[hy];rfl
  ·unfold sgn;rw[if_pos hy];exact h1
 ·refine⟨?_,hf,?_⟩
  ·have:negAt s i=false:=by unfold negAt;exact beq_eq_false_iff_ne.2 (by omega)
   rw[this]
  ·unfold sgn;rw[if_neg hn];exact h1
theorem sgn_le (hi:i≤s.size):i≤sgn s i∧sgn s i≤s.size∧sgn s i≤numEnd s i∧numEnd s i≤s.size:=by
 have h1:i≤sgn s i∧sgn s i≤s.size:=by
  unfold sgn
  split
  ·rename_i h
   have:i<s.size:=by
    by_cases hh:i<s.size
    ·exact hh
    ·unfold bt at h;rw[dif_neg hh] at h;exact absurd h (by decide)
   omega
  ·omega
 have h2:=runEnd_ge 48 57 s _ (sgn s i) (Nat.le_refl _)
 exact⟨h1.1,h1.2,h2.1,h2.2 h1.2⟩
set_option maxHeartbeats 8000000 in
set_option maxRecDepth 100000 in
theorem ndecimal_any (h:RdAt w br sv rv s i nb) (hs:s.size≤4000) (hil:i≤s.size)
 (hP:∀ W,Fr w W (· = br)→Calls Tryz.prog 164 #[.string (s.extract i (numEnd s i)),.int .i64 10,.int .i64 64] W (PPost W (s.extract i (numEnd s i)))) :
 Calls Tryz.prog 141 #[.pointer (some ⟨br,0,none⟩),.int .i64 lo,.int .i64 hi] w (DecPost w br sv rv s i nb lo hi):=by
 obtain⟨POST,hPOST⟩:∃ Q,Hid (Q=DecPost w br sv rv s i nb lo hi):=⟨_,rfl⟩
 rw[← hPOST.out]
 obtain⟨l1,l2,l3,l4⟩:=sgn_le hil
 have c3:=h.c3
 have hC1:=hide (ntake_sgn h hs hil)
 have hC2:Hid (∀ W,RdAt W br sv rv s (sgn s i) nb→Calls Tryz.prog 147 #[.pointer (some ⟨br,0,none⟩),.func (.func 163) #[] #[]] W fun e w'=>e=.returned (.string (numTx s i))∧Fr W w' (· = br)∧RdAt w' br sv rv s (numEnd s i) nb):=hide (fun W hW=>nrun_digits hW hs l2)
 have hbad:Hid (¬ numFit s i→∀ W,Fr w W (· = br)→RdAt W br sv rv s (numEnd s i) nb→POST (.returned (.tuple #[.int .i64 0,.bool false])) W):=hide (fun hn W hf hR=>by
  rw[hPOST.out]
  exact⟨0,false,rfl,hf,hR,⟨fun e=>absurd e (by decide),fun e=>absurd e.1 hn⟩,fun e=>absurd e (by decide)⟩)
 have hgood:Hid (numFit s i→∀ n b W,Fr w W (· = br)→RdAt W br sv rv s (numEnd s i) nb→(b=true↔∃ v,Lib.parseIntB 64 (s.extract i (numEnd s i)).data.toList=.ok v∧lo≤v∧v≤hi)→(b=true→Lib.parseIntB 64 (s.extract i (numEnd s i)).data.toList=.ok n)→POST (.returned (.tuple #[.int .i64 n,.bool b])) W):=hide (fun hn n b W hf hR hb hv=>by
  rw[hPOST.out]
  exact⟨n,b,rfl,hf,hR,hb.trans ⟨fun e=>⟨hn,e⟩,fun e=>e.2⟩,hv⟩)
 replace hP:=hide hP
 have hfit:numFit s i=(0<(numTx s i).size∧¬ (bt (numTx s i) 0=48∧(1<(numTx s i).size∨negAt s i=true))):=rfl
 have l5:i≤numEnd s i:=by omega
 clear l1 l2 l3 h
 generalize numTx s i=t at hC2 hfit
 generalize numEnd s i=k at *
 generalize negAt s i=neg at *
 generalize sgn s i=j at *
 by_cases ht0:t.size=0
 ·have e0:t.toList=[]:=by rw[ByteArray.toList_eq];exact List.eq_nil_of_length_eq_zero (by rw[Array.length_toList];exact ht0)
  have hnf:=hide (show ¬ numFit s i by rw[hfit];omega)
  clear hfit
  go_enter Tryz.func141,Tryz.ntmps141
  go_wp2_with (first
   |(go_at_call 114;refine hC1.out.mono ?_;rintro e w1 ⟨rfl,hf1,h1⟩;have F1:=hide hf1;have R1:=hide h1;clear hf1 h1)
   |(go_at_call 147;refine(hC2.out _ R1.out).mono ?_;rintro e w2 ⟨rfl,hf2,h2⟩;have F2:=hide (F1.out.trans hf2 (fun _ _ e=>e));have R2:=hide h2;clear hf2 h2))
  exact hbad.out hnf.out _ F2.out R2.out
 ·have h0:0<t.size:=by omega
  have e0:¬ t.toList=[]:=by
   rw[ByteArray.toList_eq]
   intro e
   have:t.data.toList.length=t.size:=Array.length_toList
   rw[e,List.length_nil] at this
   omega
  have e1:t.toList.isEmpty=false:=by cases hh:t.toList with|nil=>exact absurd hh e0|cons _ _=>rfl
  obtain⟨c,hc⟩:∃ c,bt t 0=c:=⟨_,rfl⟩
  have hbk:((t[0]'h0).toNat:Int)=(c:Int):=by rw[← hc,bt_eq t 0 h0]
  rw[hc] at hfit
  replace hc:=hide hc
  have harm:(c=48∧neg=true)∨(c=48∧neg=false∧1<t.size)∨c≠48∨(c=48∧neg=false∧t.size=1):=by
   cases neg
   ·by_cases c=48
    ·by_cases 1<t.size
     ·simp_all
     ·exact .inr (.inr (.inr ⟨by assumption,rfl,by omega⟩))
    ·simp_all
   ·by_cases c=48 <;> simp_all
  rcases harm with⟨rfl,rfl⟩|⟨rfl,rfl,h1⟩|hne|⟨rfl,rfl,h1⟩
  ·have hnf:=hide (show ¬ numFit s i by rw[hfit];simp)
   clear hfit
   go_enter Tryz.func141,Tryz.ntmps141
   go_wp2_with (first
    |(go_at_call 114;refine hC1.out.mono ?_;rintro e w1 ⟨rfl,hf1,h1⟩;have F1:=hide hf1;have R1:=hide h1;clear hf1 h1)
    |(go_at_call 147;refine(hC2.out _ R1.out).mono ?_;rintro e w2 ⟨rfl,hf2,h2⟩;have F2:=hide (F1.out.trans hf2 (fun _ _ e=>e));have R2:=hide h2;clear hf2 h2))
   exact hbad.out hnf.out _ F2.out R2.out
  ·have hnf:=hide (show ¬ numFit s i by rw[hfit];simp[h1])
   clear hfit
   have h1':(1:Int)<(t.size:Int):=by omega
   go_enter Tryz.func141,Tryz.ntmps141
   go_wp2_with (first
    |(go_at_call 114;refine hC1.out.mono ?_;rintro e w1 ⟨rfl,hf1,h1⟩;have F1:=hide hf1;have R1:=hide h1;clear hf1 h1)
    |(go_at_call 147;refine(hC2.out _ R1.out).mono ?_;rintro e w2 ⟨rfl,hf2,h2⟩;have F2:=hide (F1.out.trans hf2 (fun _ _ e=>e));have R2:=hide h2;clear hf2 h2))
   exact hbad.out hnf.out _ F2.out R2.out
  case' neg.inr.inr.inl=>have hf:=hide (show numFit s i by rw[hfit];exact⟨h0,fun e=>hne e.1⟩)
  case' neg.inr.inr.inl=>have hcn:((c:Int)==48)=false:=by simp;omega
  case' neg.inr.inr.inr=>have hf:=hide (show numFit s i by rw[hfit];exact⟨h0,by simp[h1]⟩)
  case' neg.inr.inr.inr=>have h1':¬ (1:Int)<(t.size:Int):=by omega
  all_goals clear hfit
  all_goals
   go_enter Tryz.func141,Tryz.ntmps141
   go_wp2_with (first
    |(go_at_call 114;refine hC1.out.mono ?_;rintro e w1 ⟨rfl,hf1,h1⟩;have F1:=hide hf1;have R1:=hide h1;clear hf1 h1)
    |(go_at_call 147;refine(hC2.out _ R1.out).mono ?_;rintro e w2 ⟨rfl,hf2,h2⟩;have F2:=hide (F1.out.trans hf2 (fun _ _ e=>e));have R2:=hide h2;clear hf2 h2))
   have s2:=R2.out.c2
   have s3:=R2.out.c3
   refine wp_regionAll (fun W=>W.cell? ⟨br,2,none⟩=some (.string s)∧W.cell? ⟨br,3,none⟩=some (.int .i64 (k:Int))) (by kernel_rfl) ?_
   refine wpAllC_take 0 (.pointer (some ⟨br,0,none⟩)) rfl (by kernel_rfl) (fun _ _ _ h=>h) (by kernel_rfl) (by rintro W ⟨h1,h2⟩;go_simp) ?_
   refine wpAllC_take 1 (.pointer (some ⟨br,0,none⟩)) rfl (by kernel_rfl) (fun _ _ _ h=>h) (by kernel_rfl) (by rintro W ⟨h1,h2⟩;go_simp) ?_
   refine wpAllC_take 2 (.pointer (some ⟨br,2,none⟩)) rfl (by kernel_rfl) (fun _ _ _ h=>h) (by kernel_rfl) (by rintro W ⟨h1,h2⟩;go_simp) ?_
   refine wpAllC_take 3 (.string s) rfl (by kernel_rfl) (fun _ _ _ h=>h) (by kernel_rfl) (by rintro W ⟨h1,h2⟩;go_simp) ?_
   refine wpAllC_take 4 (.int .i64 (i:Int)) rfl (by kernel_rfl) (fun _ _ _ h=>h) (by kernel_rfl) (by rintro W ⟨h1,h2⟩;go_simp) ?_
   refine wpAllC_take 5 (.pointer (some ⟨br,0,none⟩)) rfl (by kernel_rfl) (fun _ _ _ h=>h) (by kernel_rfl) (by rintro W ⟨h1,h2⟩;go_simp) ?_
   refine wpAllC_take 6 (.pointer (some ⟨br,0,none⟩)) rfl (by kernel_rfl) (fun _ _ _ h=>h) (by kernel_rfl) (by rintro W ⟨h1,h2⟩;go_simp) ?_
   refine wpAllC_take 7 (.pointer (some ⟨br,3,none⟩)) rfl (by kernel_rfl) (fun _ _ _ h=>h) (by kernel_rfl) (by rintro W ⟨h1,h2⟩;go_simp) ?_
   refine wpAllC_take 8 (.int .i64 (k:Int)) rfl (by kernel_rfl) (fun _ _ _ h=>h) (by kernel_rfl) (by rintro W ⟨h1,h2⟩;go_simp) ?_
   refine wpAllC_take 9 (.string (s.extract i k)) rfl (by kernel_rfl) (fun _ _ _ h=>h) (by kernel_rfl) (by rintro W ⟨h1,h2⟩;go_simp) ?_
   refine wpAllC_one 10 rfl (by kernel_rfl) ⟨s2,s3⟩ (fun K hK=>?_)
   go_simp
   refine(hP.out _ F2.out.drew).mono ?_
   rintro e w3 ⟨hf3,hm⟩
   have F3:=hide (F2.out.drew.trans hf3 (fun _ _ f=>f.elim))
   have R3:Hid (RdAt w3 br sv rv s k nb):=hide (hf3.blk R2.out id)
   have x2:=R3.out.c2
   have x3:=R3.out.c3
   replace hm:=hide hm
   clear hf3 s2 s3
   rcases hm.out with⟨v,hv,rfl⟩|⟨hno,v,T,x,rfl⟩
   ·replace hv:=hide hv
    refine hK _ _ ?_
    clear hK K
    refine wpAllC_take 11 (.tuple #[.int .i64 v,.nilIface]) rfl (by kernel_rfl) (fun _ _ _ h=>h) (by kernel_rfl) (by rintro W ⟨h1,h2⟩;go_simp) ?_
    refine wpAllC_take 12 (.int .i64 v) rfl (by kernel_rfl) (fun _ _ _ h=>h) (by kernel_rfl) (by rintro W ⟨h1,h2⟩;go_simp) ?_
    refine wpAllC_take 13 .nilIface rfl (by kernel_rfl) (fun _ _ _ h=>h) (by kernel_rfl) (by rintro W ⟨h1,h2⟩;go_simp) ?_
    refine wpAllC_take 14 (.int .i64 v) rfl (by kernel_rfl) (fun _ _ _ h=>h) (by kernel_rfl) (by rintro W ⟨h1,h2⟩;go_simp) ?_
    refine wpAllC_take 15 .nilIface rfl (by kernel_rfl) (fun _ _ _ h=>h) (by kernel_rfl) (by rintro W ⟨h1,h2⟩;go_simp) ?_
    refine wpAllC_done (by kernel_rfl) ⟨x2,x3⟩ ?_ _
    by_cases hlo:v≥lo
    ·have dlo:decide (v≥lo)=true:=decide_eq_true hlo
     by_cases hhi:v≤hi
     ·have dhi:decide (v≤hi)=true:=decide_eq_true hhi
      go_wp2_with fail
      exact hgood.out hf.out v true _ F3.out R3.out ⟨fun _=>⟨v,hv.out,hlo,hhi⟩,fun _=>rfl⟩ (fun _=>hv.out)
     ·have dhi:decide (v≤hi)=false:=decide_eq_false hhi
      go_wp2_with fail
      exact hgood.out hf.out v false _ F3.out R3.out ⟨fun e=>absurd e (by decide),fun ⟨u,hu,_,h2⟩=>by rw[hv.out] at hu;cases hu;exact absurd h2 (by omega)⟩ (fun e=>absurd e (by decide))
    ·have dlo:decide (v≥lo)=false:=decide_eq_false hlo
     go_wp2_with fail
     exact hgood.out hf.out v false _ F3.out R3.out ⟨fun e=>absurd e (by decide),fun ⟨u,hu,h1,_⟩=>by rw[hv.out] at hu;cases hu;exact absurd h1 (by omega)⟩ (fun e=>absurd e (by decide))
   ·replace hno:=hide hno
    refine hK _ _ ?_
    clear hK K
    refine wpAllC_take 11 (.tuple #[.int .i64 v,.iface T x]) rfl (by kernel_rfl) (fun _ _ _ h=>h) (by kernel_rfl) (by rintro W ⟨h1,h2⟩;go_simp) ?_
    refine wpAllC_take 12 (.int .i64 v) rfl (by kernel_rfl) (fun _ _ _ h=>h) (by kernel_rfl) (by rintro W ⟨h1,h2⟩;go_simp) ?_
    refine wpAllC_take 13 (.iface T x) rfl (by kernel_rfl) (fun _ _ _ h=>h) (by kernel_rfl) (by rintro W ⟨h1,h2⟩;go_simp) ?_
    refine wpAllC_take 14 (.int .i64 v) rfl (by kernel_rfl) (fun _ _ _ h=>h) (by kernel_rfl) (by rintro W ⟨h1,h2⟩;go_simp) ?_
    refine wpAllC_take 15 (.iface T x) rfl (by kernel_rfl) (fun _ _ _ h=>h) (by kernel_rfl) (by rintro W ⟨h1,h2⟩;go_simp) ?_
    refine wpAllC_done (by kernel_rfl) ⟨x2,x3⟩ ?_ _
    go_wp2_with fail
    exact hgood.out hf.out v false _ F3.out R3.out ⟨fun e=>absurd e (by decide),fun ⟨u,hu,_,_⟩=>absurd hu (hno.out u)⟩ (fun e=>absurd e (by decide))
end
open Go.RowKit
theorem wrapJ (n:Int) (h : -9223372036854775808≤n) (h':n≤9223372036854775807):wrap64 n=n:=by
 have:=IntKind.wrap_i64 n
 unfold wrap64
 omega
theorem dv_app:∀ a b:List UInt8,dv (a++b)=dv a*10 ^ b.length+dv b
 | [],b=>by simp[dv]
 | c::r,b=>by
  simp only[List.cons_append,dv,dv_app r b,List.length_append,Nat.pow_add,Nat.add_mul,Nat.mul_assoc]
  omega
theorem bt_list {t:ByteArray}{a:Nat}(h:a<t.size):∃ c,t.data.toList[a]?=some c∧bt t a=c.toNat:=by
 refine⟨t[a],?_,bt_eq t a h⟩
 rw[Array.getElem?_toList]
 exact Array.getElem?_eq_getElem h
theorem numV_val {neg:Bool}{t:ByteArray}(hd:digs t.data.toList) (hb:dv t.data.toList≤9223372036854775807+(if neg=true then 1 else 0)) :
 ∀ a,a≤t.size→numV neg t a=if neg=true then -(dv (t.data.toList.take a):Int) else (dv (t.data.toList.take a):Int):=by
 intro a
 induction a with
 | zero=>intro _;simp[numV,dv]
 | succ a ih=>
  intro ha
  obtain⟨c,hc,hbt⟩:=bt_list (t:=t) (a:=a) (by omega)
  have hm:c∈t.data.toList:=List.mem_of_getElem? hc
  have hcd:=hd c hm
  have htk:t.data.toList.take (a+1)=t.data.toList.take a++[c]:=by rw[List.take_add_one,hc];rfl
  have h1:=dv_app (t.data.toList.take a) [c]
  have h2:=dv_app (t.data.toList.take (a+1)) (t.data.toList.drop (a+1))
  rw[List.take_append_drop] at h2
  have h3:dv (t.data.toList.take (a+1))≤dv t.data.toList:=by
   have:1≤10 ^ (t.data.toList.drop (a+1)).length:=Nat.one_le_pow _ _ (by decide)
   have:=Nat.mul_le_mul_left (dv (t.data.toList.take (a+1))) this
   omega
  simp only[List.length_singleton,Nat.pow_one,dv,List.length_nil,Nat.pow_zero,Nat.mul_one,Nat.add_zero] at h1
  rw[htk] at h3⊢
  rw[numV,ih (by omega),hbt]
  rw[h1] at h3⊢
  generalize dv (t.data.toList.take a)=x at *
  generalize dv t.data.toList=y at *
  cases neg with
  | true=>
   simp only[if_true] at hb⊢
   unfold numStep
   rw[if_pos rfl,wrapJ (10 * -(x:Int)) (by omega) (by omega),wrapJ (c.toNat:Int) (by omega) (by omega),wrapJ ((c.toNat:Int)-48) (by omega) (by omega),wrapJ _ (by omega) (by omega)]
   omega
  | false=>
   simp only[Bool.false_eq_true,if_false,Nat.add_zero] at hb⊢
   unfold numStep
   rw[if_neg (by decide),wrapJ (10*(x:Int)) (by omega) (by omega),wrapJ (c.toNat:Int) (by omega) (by omega),wrapJ ((c.toNat:Int)-48) (by omega) (by omega),wrapJ _ (by omega) (by omega)]
   omega
theorem num_value {s:ByteArray}{i:Nat}{v:Int}(h0:0<(numTx s i).size) (hp:Lib.parseIntB 64 (s.extract i (numEnd s i)).data.toList=.ok v) :
 numV (negAt s i) (numTx s i) (numTx s i).size=v∧-9223372036854775808≤v∧v≤9223372036854775807:=by
 have hd:digs (numTx s i).data.toList:=digs_run s (sgn s i)
 have hsz:(numTx s i).size=(numTx s i).data.toList.length:=Array.length_toList.symm
 have hne:(numTx s i).data.toList≠[]:=by
  intro e
  rw[e,List.length_nil] at hsz
  omega
 have htk:(numTx s i).data.toList.take (numTx s i).size=(numTx s i).data.toList:=by rw[hsz];exact List.take_length
 by_cases h45:bt s i=45
 ·have hneg:negAt s i=true:=by unfold negAt;rw[h45];rfl
  have hlt:i<s.size:=bt_pos (by omega)
  have hs:sgn s i=i+1:=by unfold sgn;rw[if_pos h45]
  have hge:=runEnd_ge 48 57 s _ (i+1) (Nat.le_refl _)
  have he:(s.extract i (numEnd s i)).data.toList=45::(numTx s i).data.toList:=by
   unfold numTx numEnd
   rw[hs,extract_cons (by omega) (hge.2 (by omega))]
   refine List.cons_eq_cons.2 ⟨?_,rfl⟩
   rw[bt_eq s i hlt] at h45
   exact UInt8.toNat_inj.1 (h45.trans (by decide))
  rw[he,int_neg hne hd] at hp
  split at hp
  ·rename_i hle
   cases hp
   refine⟨?_,by omega,by omega⟩
   rw[hneg,numV_val hd (by simp only[if_true];omega) _ (Nat.le_refl _),if_pos rfl,htk]
  ·cases hp
 ·have hneg:negAt s i=false:=by
   unfold negAt
   exact beq_eq_false_iff_ne.2 (by omega)
  have hs:sgn s i=i:=by unfold sgn;rw[if_neg h45]
  have he:s.extract i (numEnd s i)=numTx s i:=by unfold numTx;rw[hs]
  rw[he,int_pos hne hd] at hp
  split at hp
  ·rename_i hle
   cases hp
   refine⟨?_,by omega,by omega⟩
   rw[hneg,numV_val hd (by simp only[Bool.false_eq_true,if_false];omega) _ (Nat.le_refl _),if_neg (by decide),htk]
  ·cases hp
end Go.Proofs.YtiifagiebikmdaaGreatDoor
