import Derived.Test.YtiifagiebikmdaaGreatDoorBK04
import Derived.Lib.ParseIntB
namespace Go.Proofs.YtiifagiebikmdaaGreatDoor
open Go.RowKit
def dv:List UInt8→Nat
 | []=>0
 | c::r=>(c.toNat-48)*10 ^ r.length+dv r
def digs (l:List UInt8):Prop:=∀ c∈l,48≤c.toNat∧c.toNat≤57
theorem digs.tail {c:UInt8}{r:List UInt8}(h:digs (c::r)):digs r:=fun x hx=>h x (List.mem_cons_of_mem _ hx)
theorem dv_lt:∀ {l:List UInt8},digs l→dv l<10 ^ l.length
 | [],_=>by simp[dv]
 | c::r,h=>by
  have h1:=dv_lt h.tail
  have h2:=h c (List.mem_cons_self ..)
  have h3:(c.toNat-48)*10 ^ r.length≤9*10 ^ r.length:=Nat.mul_le_mul_right _ (by omega)
  simp only[dv,List.length_cons,Nat.pow_succ]
  omega
theorem dv_ge {c:UInt8}{r:List UInt8}(hc:49≤c.toNat):10 ^ r.length≤dv (c::r):=by
 have h3:1*10 ^ r.length≤(c.toNat-48)*10 ^ r.length:=Nat.mul_le_mul_right _ (by omega)
 simp only[dv]
 omega
theorem dv_ord:∀ {a b:List UInt8},a.length=b.length→digs a→digs b→(Op.bytesLess a b=true↔dv a<dv b)∧(a=b↔dv a=dv b)
 | [],[],_,_,_=>by simp[Op.bytesLess,dv]
 | [],_::_,h,_,_=>by simp at h
 | _::_,[],h,_,_=>by simp at h
 | x::a,y::b,h,ha,hb=>by
  have hl:a.length=b.length:=by simpa using h
  obtain⟨i1,i2⟩:=dv_ord hl ha.tail hb.tail
  have hx:=ha x (List.mem_cons_self ..)
  have hy:=hb y (List.mem_cons_self ..)
  have la:=dv_lt ha.tail
  have lb:=dv_lt hb.tail
  rw[hl] at la
  have hxy:(x<y)↔x.toNat<y.toNat:=UInt8.lt_iff_toNat_lt
  have hxe:(x=y)↔x.toNat=y.toNat:=UInt8.toNat_inj.symm
  simp only[Op.bytesLess,dv,hl,Bool.or_eq_true,Bool.and_eq_true,decide_eq_true_eq,beq_iff_eq,List.cons.injEq]
  rw[hxy,hxe,i1,i2]
  generalize 10 ^ b.length=p at la lb⊢
  generalize dv a=u at la⊢
  generalize dv b=v at lb⊢
  generalize x.toNat=m at hx⊢
  generalize y.toNat=n at hy⊢
  rcases Nat.lt_trichotomy m n with h|h|h
  ·have h3:(m-48+1)*p≤(n-48)*p:=Nat.mul_le_mul_right _ (by omega)
   rw[Nat.add_mul,Nat.one_mul] at h3
   exact⟨⟨fun _=>by omega,fun _=>.inl h⟩,⟨fun e=>by omega,fun e=>by omega⟩⟩
  ·subst h
   exact⟨⟨fun e=>by omega,fun e=>.inr ⟨rfl,by omega⟩⟩,⟨fun e=>by omega,fun e=>⟨rfl,by omega⟩⟩⟩
  ·have h3:(n-48+1)*p≤(m-48)*p:=Nat.mul_le_mul_right _ (by omega)
   rw[Nat.add_mul,Nat.one_mul] at h3
   exact⟨⟨fun e=>by omega,fun e=>by omega⟩,⟨fun e=>by omega,fun e=>by omega⟩⟩
theorem dv_le {t T:List UInt8}{c d:UInt8}{r R:List UInt8}(ht:t=c::r) (hT:T=d::R) (dt:digs t) (dT:digs T) (hc:¬ (c.toNat=48∧1<t.length)) (hd:49≤d.toNat) :
 (t.length≤T.length∧(t.length=T.length→(!Op.bytesLess t T && !(t==T))=false))↔dv t≤dv T:=by
 have lt:=dv_lt dt
 have lT:=dv_lt dT
 have gT:10 ^ R.length≤dv T:=by rw[hT];exact dv_ge hd
 rcases Nat.lt_trichotomy t.length T.length with h|h|h
 ·have h1:10 ^ t.length≤10 ^ R.length:=Nat.pow_le_pow_right (by decide) (by rw[hT] at h;simp at h;omega)
  exact⟨fun _=>by omega,fun _=>⟨by omega,fun e=>by omega⟩⟩
 ·obtain⟨o1,o2⟩:=dv_ord h dt dT
  constructor
  ·rintro⟨_,h2⟩
   have h3:=h2 h
   by_cases hb:Op.bytesLess t T=true
   ·have:=o1.1 hb;omega
   ·by_cases he:t=T
    ·have:=o2.1 he;omega
    ·simp[hb,he] at h3
  ·intro hle
   refine⟨by omega,fun _=>?_⟩
   by_cases hb:Op.bytesLess t T=true
   ·simp[hb]
   ·have h5:¬ dv t<dv T:=fun e=>hb (o1.2 e)
    have he:t=T:=o2.2 (by omega)
    simp[he]
 ·have h1:49≤c.toNat:=by
   have:=dt c (by rw[ht];exact List.mem_cons_self ..)
   have hT0:0<T.length:=by rw[hT];simp
   omega
  have h2:10 ^ r.length≤dv t:=by rw[ht];exact dv_ge h1
  have h3:10 ^ T.length≤10 ^ r.length:=Nat.pow_le_pow_right (by decide) (by rw[ht] at h;simp at h;omega)
  exact⟨fun ⟨e,_⟩=>by omega,fun e=>by omega⟩
open Go.RowKit
theorem uintM_digs:∀ {l:List UInt8}{acc:Nat},digs l→acc≤2 ^ 64-1→
 Lib.parseUintM (2 ^ 64-1) acc l=if acc*10 ^ l.length+dv l≤2 ^ 64-1 then .ok (acc*10 ^ l.length+dv l) else .range
 | [],acc,_,h=>by simp only[Lib.parseUintM,dv,List.length_nil,Nat.pow_zero,Nat.mul_one,Nat.add_zero];rw[if_pos h]
 | c::r,acc,hd,h=>by
  have hc:=hd c (List.mem_cons_self ..)
  have e:acc*10 ^ (c::r).length+dv (c::r)=(acc*10+(c.toNat-48))*10 ^ r.length+dv r:=by
   simp only[dv,List.length_cons,Nat.pow_succ,Nat.add_mul]
   rw[Nat.mul_assoc acc 10,Nat.mul_comm 10 (10 ^ r.length)]
   omega
  have hp:1≤10 ^ r.length:=Nat.one_le_pow _ _ (by decide)
  have hge:acc*10+(c.toNat-48)≤(acc*10+(c.toNat-48))*10 ^ r.length:=by
   have:=Nat.mul_le_mul_left (acc*10+(c.toNat-48)) hp
   omega
  rw[e]
  unfold Lib.parseUintM
  rw[if_pos hc]
  by_cases h1:1844674407370955162≤acc
  ·rw[if_pos h1,if_neg (by omega)]
  ·rw[if_neg h1]
   by_cases h2:2 ^ 64-1<acc*10+(c.toNat-48)
   ·rw[if_pos h2,if_neg (by omega)]
   ·rw[if_neg h2]
    exact uintM_digs hd.tail (by omega)
theorem uint_digs {l:List UInt8}(hl:l≠[]) (hd:digs l):Lib.parseUintB 64 l=if dv l≤2 ^ 64-1 then .ok (dv l) else .range:=by
 unfold Lib.parseUintB
 rw[if_neg hl,uintM_digs hd (by omega)]
 simp
theorem int_pos {l:List UInt8}(hl:l≠[]) (hd:digs l):Lib.parseIntB 64 l=if dv l<2 ^ 63 then .ok (dv l:Int) else .range:=by
 cases l with
 | nil=>exact absurd rfl hl
 | cons c r=>
  have hc:=hd c (List.mem_cons_self ..)
  unfold Lib.parseIntB
  simp only
  rw[if_neg (by omega),uint_digs (by simp) hd]
  by_cases h1:dv (c::r)<2 ^ 63
  ·rw[if_pos h1,if_pos (by omega)]
   simp only
   rw[if_neg (by omega),if_neg (by omega),if_neg (by omega)]
  ·rw[if_neg h1]
   by_cases h2:dv (c::r)≤2 ^ 64-1
   ·rw[if_pos h2]
    simp only
    rw[if_pos (by omega)]
   ·rw[if_neg h2]
theorem int_neg {l:List UInt8}(hl:l≠[]) (hd:digs l):Lib.parseIntB 64 (45::l)=if dv l≤2 ^ 63 then .ok (-(dv l:Int)) else .range:=by
 unfold Lib.parseIntB
 simp only
 rw[if_pos (by decide),uint_digs hl hd]
 by_cases h1:dv l≤2 ^ 63
 ·rw[if_pos h1,if_pos (by omega)]
  simp only
  rw[if_neg (fun h=>h.1 (by decide)),if_neg (by omega),if_pos (by decide)]
 ·rw[if_neg h1]
  by_cases h2:dv l≤2 ^ 64-1
  ·rw[if_pos h2]
   simp only
   rw[if_neg (fun h=>h.1 (by decide)),if_pos ⟨by decide,by omega⟩]
  ·rw[if_neg h2]
open Go.RowKit
def topV (kd:Nat) (neg:Bool):Nat:=if kd=105 then (if neg=true then 2147483648 else 2147483647) else (if neg=true then 9223372036854775808 else 9223372036854775807)
theorem top_facts (kd:Nat) (neg:Bool):∃ d R,(topOf kd neg).data.toList=d::R∧digs (topOf kd neg).data.toList∧49≤d.toNat∧dv (topOf kd neg).data.toList=topV kd neg:=by
 unfold topOf topV
 by_cases h:kd=105 <;> cases neg <;> simp only[h,if_true,if_false,Bool.false_eq_true]
 all_goals exact⟨_,_,rfl,(by unfold digs;decide),by decide,by decide⟩
theorem bt_head {t:ByteArray}{c:UInt8}{r:List UInt8}(h:t.data.toList=c::r):bt t 0=c.toNat:=by
 obtain⟨⟨l⟩⟩:=t
 simp only at h
 subst h
 rfl
theorem numOk_iff {kd:Nat}{neg:Bool}{t:ByteArray}(hd:digs t.data.toList) :
 numOk kd neg t↔0<t.size∧¬ (bt t 0=48∧(1<t.size∨neg=true))∧dv t.data.toList≤topV kd neg:=by
 obtain⟨d,R,h1,h2,h3,h4⟩:=top_facts kd neg
 have hz:∀ x:ByteArray,x.size=x.data.toList.length:=fun x=>Array.length_toList.symm
 unfold numOk
 rw[ByteArray.toList_eq,ByteArray.toList_eq,← h4]
 constructor
 ·rintro⟨g1,g2,g3⟩
  refine⟨g1,g2,?_⟩
  cases hl:t.data.toList with
  | nil=>have hz0:=hz t;rw[hl,List.length_nil] at hz0;omega
  | cons c r=>
   rw[← hl]
   have hb:=bt_head hl
   exact(dv_le hl h1 hd h2 (by rw[← hb,← hz];exact fun e=>g2 ⟨e.1,.inl e.2⟩) h3).1 (by rw[← hz,← hz];exact g3)
 ·rintro⟨g1,g2,g3⟩
  refine⟨g1,g2,?_⟩
  cases hl:t.data.toList with
  | nil=>have hz0:=hz t;rw[hl,List.length_nil] at hz0;omega
  | cons c r=>
   rw[← hl]
   have hb:=bt_head hl
   have:=(dv_le hl h1 hd h2 (by rw[← hb,← hz];exact fun e=>g2 ⟨e.1,.inl e.2⟩) h3).2 g3
   rw[← hz,← hz] at this
   exact this
open Go.RowKit
theorem runEnd_in (lo hi:Nat) (s:ByteArray):∀ n i,s.size-i≤n→∀ k,i≤k→k<runEnd lo hi s i→lo≤bt s k∧bt s k≤hi:=by
 intro n
 induction n with
 | zero=>
  intro i hn k h1 h2
  by_cases hb:lo≤bt s i∧bt s i≤hi
  ·by_cases hk:k=i
   ·subst hk;exact hb
   ·unfold runEnd at h2
    simp only[dif_neg (show ¬ i<s.size by omega)] at h2
    omega
  ·rw[runEnd_off hb] at h2;omega
 | succ n ih=>
  intro i hn k h1 h2
  by_cases hb:lo≤bt s i∧bt s i≤hi
  ·by_cases hi':i<s.size
   ·rw[runEnd_on hi' hb] at h2
    by_cases hk:k=i
    ·subst hk;exact hb
    ·exact ih (i+1) (by omega) k (by omega) h2
   ·exact ih i (by omega) k h1 h2
  ·rw[runEnd_off hb] at h2;omega
theorem extract_mem {s:ByteArray}{a b:Nat}{c:UInt8}(h:c∈(s.extract a b).data.toList):∃ k,a≤k∧k<b∧bt s k=c.toNat:=by
 rw[Array.mem_toList_iff,Array.mem_iff_getElem] at h
 obtain⟨q,hq,he⟩:=h
 have hq':q<(s.extract a b).size:=hq
 rw[ByteArray.size_extract] at hq'
 refine⟨a+q,by omega,by omega,?_⟩
 unfold bt
 rw[dif_pos (by omega),← he]
 congr 1
 exact(ByteArray.getElem_extract ..).symm
theorem digs_run (s:ByteArray) (i:Nat):digs (s.extract i (runEnd 48 57 s i)).data.toList:=by
 intro c hc
 obtain⟨k,h1,h2,h3⟩:=extract_mem hc
 have:=runEnd_in 48 57 s _ i (Nat.le_refl _) k h1 h2
 omega
open Go.RowKit
theorem extract_cons {s:ByteArray}{i e:Nat}(h1:i<e) (h2:e≤s.size):(s.extract i e).data.toList=(s[i]'(by omega))::(s.extract (i+1) e).data.toList:=by
 obtain⟨⟨l⟩⟩:=s
 have hl:e≤l.length:=h2
 simp only[ByteArray.data_extract,List.extract_toArray,List.extract_eq_take_drop]
 have hd:l.drop i=l[i]::l.drop (i+1):=List.drop_eq_getElem_cons (by omega)
 rw[hd,show e-i=(e-(i+1))+1 by omega,List.take_succ_cons]
 rfl
def loV (kd:Nat):Int:=if kd=105 then -2147483648 else -9223372036854775808
def hiV (kd:Nat):Int:=if kd=105 then 2147483647 else 9223372036854775807
theorem num_read {s:ByteArray}{i kd:Nat}(h0:0<(numTx s i).size) (hz:¬ (bt (numTx s i) 0=48∧(1<(numTx s i).size∨negAt s i=true))) :
 numOk kd (negAt s i) (numTx s i)↔∃ v,Lib.parseIntB 64 (s.extract i (numEnd s i)).data.toList=.ok v∧loV kd≤v∧v≤hiV kd:=by
 have hd:digs (numTx s i).data.toList:=digs_run s (sgn s i)
 have hne:(numTx s i).data.toList≠[]:=by
  intro e
  have hs:(numTx s i).size=(numTx s i).data.toList.length:=Array.length_toList.symm
  rw[e,List.length_nil] at hs
  omega
 rw[numOk_iff hd]
 by_cases h45:bt s i=45
 ·have hneg:negAt s i=true:=by unfold negAt;rw[h45];rfl
  have hlt:i<s.size:=by
   by_cases hh:i<s.size
   ·exact hh
   ·unfold bt at h45;rw[dif_neg hh] at h45;exact absurd h45 (by decide)
  have hs:sgn s i=i+1:=by unfold sgn;rw[if_pos h45]
  have hge:=runEnd_ge 48 57 s _ (i+1) (Nat.le_refl _)
  have he:(s.extract i (numEnd s i)).data.toList=45::(numTx s i).data.toList:=by
   unfold numTx numEnd
   rw[hs,extract_cons (by omega) (hge.2 (by omega))]
   congr 1
   unfold bt at h45
   rw[dif_pos hlt] at h45
   exact UInt8.toNat_inj.1 h45
  rw[he,int_neg hne hd,hneg]
  generalize dv (numTx s i).data.toList=n
  unfold topV loV hiV
  rw[hneg] at hz
  constructor
  ·rintro⟨_,_,g⟩
   refine⟨-(n:Int),?_,?_,?_⟩
   ·rw[if_pos (by split at g <;> simp at g <;> omega)]
   ·split at g <;> simp at g <;> simp_all <;> omega
   ·split <;> omega
  ·rintro⟨v,g1,g2,g3⟩
   refine⟨h0,hz,?_⟩
   split at g1
   ·cases g1
    split at g2 <;> simp_all <;> omega
   ·cases g1
 ·have hneg:negAt s i=false:=by
   unfold negAt
   exact beq_eq_false_iff_ne.2 (by omega)
  have hs:sgn s i=i:=by unfold sgn;rw[if_neg h45]
  have he:s.extract i (numEnd s i)=numTx s i:=by unfold numTx;rw[hs]
  rw[he,int_pos hne hd,hneg]
  generalize dv (numTx s i).data.toList=n
  unfold topV loV hiV
  rw[hneg] at hz
  constructor
  ·rintro⟨_,_,g⟩
   refine⟨(n:Int),?_,?_,?_⟩
   ·rw[if_pos (by split at g <;> simp at g <;> omega)]
   ·split <;> omega
   ·split at g <;> simp at g <;> simp_all <;> omega
  ·rintro⟨v,g1,g2,g3⟩
   refine⟨h0,hz,?_⟩
   split at g1
   ·cases g1
    split at g3 <;> simp_all <;> omega
   ·cases g1
end Go.Proofs.YtiifagiebikmdaaGreatDoor
