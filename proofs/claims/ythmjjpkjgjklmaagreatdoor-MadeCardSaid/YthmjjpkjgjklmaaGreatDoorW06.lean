import Derived.Test.YthmjjpkjgjklmaaGreatDoorW04
import Derived.Lib.ParseIntB
import Derived.Test.YthmjjpkjgjklmaaGreatDoorA00
set_option maxHeartbeats 16000000
set_option maxRecDepth 100000
set_option linter.unusedSimpArgs false
namespace Go.Proofs.YthmjjpkjgjklmaaGreatDoor
open Go.RowKit
variable {c:UInt8}{r l:List UInt8}{s:BA}
def dv:List UInt8->Nat
 | []=>0
 | c::r=>(c.toNat-48)*10 ^ r.length+dv r
def digs (l:List UInt8):Prop:=∀ c∈l,48<=c.toNat/\c.toNat<=57
theorem digs.tail (h:digs (c::r)):digs r:=λ x hx=>h x (bv_ _ hx)
theorem zli:∀ {l:List UInt8},digs l->dv l<10 ^ l.length
 | [],_=>by simp[dv]
 | c::r,h=>by
  have h1:=zli h.tail;have h2:=h c (ay_ ..);have h3:(c.toNat-48)*10 ^ r.length<=9*10 ^ r.length:=b1_ _ (by omega);simp only[dv,ar_,Nat.pow_succ];omega
theorem znk (hc:49<=c.toNat):10 ^ r.length<=dv (c::r):=by
 have h3:1*10 ^ r.length<=(c.toNat-48)*10 ^ r.length:=b1_ _ (by omega);simp only[dv];omega
theorem ztx:∀ {a b:List UInt8},a.length=b.length->digs a->digs b->(Op.bytesLess a b=true↔dv a<dv b)/\(a=b↔dv a=dv b)
 | [],[],_,_,_=>by simp[Op.bytesLess,dv]
 | [],_::_,h,_,_=>by simp at h
 | _::_,[],h,_,_=>by simp at h
 | x::a,y::b,h,ha,hb=>by
  have hl:a.length=b.length:=by simpa using h
  obtain⟨i1,i2⟩:=ztx hl ha.tail hb.tail;have hx:=ha x (ay_ ..);have hy:=hb y (ay_ ..);have la:=zli ha.tail;have lb:=zli hb.tail;rw[hl] at la;have hxy:(x<y)↔x.toNat<y.toNat:=UInt8.lt_iff_toNat_lt;have hxe:(x=y)↔x.toNat=y.toNat:=UInt8.toNat_inj.symm;simp only[Op.bytesLess,dv,hl,au_,a9_,decide_eq_true_eq,beq_iff_eq,List.cons.injEq];rw[hxy,hxe,i1,i2];generalize 10 ^ b.length=p at la lb⊢;generalize dv a=u at la⊢;generalize dv b=v at lb⊢;generalize x.toNat=m at hx⊢;generalize y.toNat=n at hy⊢
  rcases Nat.lt_trichotomy m n with h|h|h
  ·have h3:(m-48+1)*p<=(n-48)*p:=b1_ _ (by omega);rw[Nat.add_mul,Nat.one_mul] at h3;exact⟨⟨λ _=>by omega,λ _=>.inl h⟩,⟨λ e=>by omega,λ e=>by omega⟩⟩
  ·subst h;exact⟨⟨λ e=>by omega,λ e=>.inr ⟨rfl,by omega⟩⟩,⟨λ e=>by omega,λ e=>⟨rfl,by omega⟩⟩⟩
  ·have h3:(n-48+1)*p<=(m-48)*p:=b1_ _ (by omega);rw[Nat.add_mul,Nat.one_mul] at h3;exact⟨⟨λ e=>by omega,λ e=>by omega⟩,⟨λ e=>by omega,λ e=>by omega⟩⟩
theorem zz7 {t T:List UInt8}{d:UInt8}{R:List UInt8}(ht:t=c::r) (hT:T=d::R) (dt:digs t) (dT:digs T) (hc:¬ (c.toNat=48/\1<t.length)) (hd:49<=d.toNat) :
 (t.length<=T.length/\(t.length=T.length->(!Op.bytesLess t T && !(t==T))=false))↔dv t<=dv T:=by
 have lt:=zli dt;have lT:=zli dT
 have gT:10 ^ R.length<=dv T:=by rw[hT];exact znk hd
 rcases Nat.lt_trichotomy t.length T.length with h|h|h
 ·have h1:10 ^ t.length<=10 ^ R.length:=Nat.pow_le_pow_right (by decide) (by rw[hT] at h;simp at h;omega);exact⟨λ _=>by omega,λ _=>⟨by omega,λ e=>by omega⟩⟩
 ·obtain⟨o1,o2⟩:=ztx h dt dT
  constructor
  ·rintro⟨_,h2⟩;have h3:=h2 h
   by_cases hb:Op.bytesLess t T=true
   ·have:=o1.1 hb;omega
   ·by_cases he:t=T
    ·have:=o2.1 he;omega
    ·simp[hb,he] at h3
  ·intro hle;refine⟨by omega,λ _=>?_⟩
   by_cases hb:Op.bytesLess t T=true
   ·simp[hb]
   ·have h5:¬ dv t<dv T:=λ e=>hb (o1.2 e);have he:t=T:=o2.2 (by omega)
    simp[he]
 ·have h1:49<=c.toNat:=by
   have:=dt c (by rw[ht];exact ay_ ..)
   have hT0:0<T.length:=by rw[hT];simp
   omega
  have h2:10 ^ r.length<=dv t:=by rw[ht];exact znk h1
  have h3:10 ^ T.length<=10 ^ r.length:=Nat.pow_le_pow_right (by decide) (by rw[ht] at h;simp at h;omega);exact⟨λ ⟨e,_⟩=>by omega,λ e=>by omega⟩
open Go.RowKit
theorem zhd:∀ {l:List UInt8}{acc:Nat},digs l->acc<=2 ^ 64-1->
 Lib.parseUintM (2 ^ 64-1) acc l=if acc*10 ^ l.length+dv l<=2 ^ 64-1 then .ok (acc*10 ^ l.length+dv l) else .range
 | [],acc,_,h=>by simp only[Lib.parseUintM,dv,ax_,Nat.pow_zero,Nat.mul_one,a7_];rw[if_pos h]
 | c::r,acc,hd,h=>by
  have hc:=hd c (ay_ ..)
  have e:acc*10 ^ (c::r).length+dv (c::r)=(acc*10+(c.toNat-48))*10 ^ r.length+dv r:=by
   simp only[dv,ar_,Nat.pow_succ,Nat.add_mul];rw[Nat.mul_assoc acc 10,bo_ 10 (10 ^ r.length)];omega
  have hp:1<=10 ^ r.length:=Nat.one_le_pow _ _ (by decide)
  have hge:acc*10+(c.toNat-48)<=(acc*10+(c.toNat-48))*10 ^ r.length:=by
   have:=Nat.mul_le_mul_left (acc*10+(c.toNat-48)) hp;omega
  rw[e];unfold Lib.parseUintM;rw[if_pos hc]
  by_cases h1:1844674407370955162<=acc
  ·rw[if_pos h1,if_neg (by omega)]
  ·rw[if_neg h1]
   by_cases h2:2 ^ 64-1<acc*10+(c.toNat-48)
   ·rw[if_pos h2,if_neg (by omega)]
   ·rw[if_neg h2];exact zhd hd.tail (by omega)
theorem zjp (hl:l≠[]) (hd:digs l):Lib.parseUintB 64 l=if dv l<=2 ^ 64-1 then .ok (dv l) else .range:=by
 unfold Lib.parseUintB;rw[if_neg hl,zhd hd (by omega)]
 simp
theorem zgb (hl:l≠[]) (hd:digs l):Lib.parseIntB 64 l=if dv l<2 ^ 63 then .ok (dv l:Int) else .range:=by
 cases l with
 | nil=>exact absurd rfl hl
 | cons c r=>
  have hc:=hd c (ay_ ..);unfold Lib.parseIntB;simp only;rw[if_neg (by omega),zjp (by simp) hd]
  by_cases h1:dv (c::r)<2 ^ 63
  ·rw[if_pos h1,if_pos (by omega)];simp only;rw[if_neg (by omega),if_neg (by omega),if_neg (by omega)]
  ·rw[if_neg h1]
   by_cases h2:dv (c::r)<=2 ^ 64-1
   ·rw[if_pos h2];simp only;rw[if_pos (by omega)]
   ·rw[if_neg h2]
theorem znh (hl:l≠[]) (hd:digs l):Lib.parseIntB 64 (45::l)=if dv l<=2 ^ 63 then .ok (-(dv l:Int)) else .range:=by
 unfold Lib.parseIntB;simp only;rw[if_pos (by decide),zjp hl hd]
 by_cases h1:dv l<=2 ^ 63
 ·rw[if_pos h1,if_pos (by omega)];simp only;rw[if_neg (λ h=>h.1 (by decide)),if_neg (by omega),if_pos (by decide)]
 ·rw[if_neg h1]
  by_cases h2:dv l<=2 ^ 64-1
  ·rw[if_pos h2];simp only;rw[if_neg (λ h=>h.1 (by decide)),if_pos ⟨by decide,by omega⟩]
  ·rw[if_neg h2]
open Go.RowKit
def topV (kd:Nat) (neg:Bool):Nat:=if kd=105 then (if neg=true then 2147483648 else 2147483647) else (if neg=true then 9223372036854775808 else 9223372036854775807)
theorem zrw (kd:Nat) (neg:Bool):∃ d R,(zjs kd neg).data.toList=d::R/\digs (zjs kd neg).data.toList/\49<=d.toNat/\dv (zjs kd neg).data.toList=topV kd neg:=by
 unfold zjs topV
 by_cases h:kd=105<;>cases neg<;>simp only[h,if_true,if_false,az_]
 all_goals exact⟨_,_,rfl,(by unfold digs;decide),by decide,by decide⟩
theorem zi4 {t:BA}(h:t.data.toList=c::r):bt t 0=c.toNat:=by
 obtain⟨⟨l⟩⟩:=t;simp only at h;subst h
 rfl
theorem zcy {kd:Nat}{neg:Bool}{t:BA}(hd:digs t.data.toList) :
 zfy kd neg t↔0<t.size/\¬ (bt t 0=48/\(1<t.size\/neg=true))/\dv t.data.toList<=topV kd neg:=by
 obtain⟨d,R,h1,h2,h3,h4⟩:=zrw kd neg;have hz:∀ x:BA,x.size=x.data.toList.length:=λ x=>Array.length_toList.symm;unfold zfy;rw[ByteArray.toList_eq,ByteArray.toList_eq,<- h4]
 constructor
 ·rintro⟨g1,g2,g3⟩;refine⟨g1,g2,?_⟩
  cases hl:t.data.toList with
  | nil=>have hz0:=hz t;rw[hl,ax_] at hz0;omega
  | cons c r=>
   rw[<- hl];have hb:=zi4 hl;exact(zz7 hl h1 hd h2 (by rw[<- hb,<- hz];exact λ e=>g2 ⟨e.1,.inl e.2⟩) h3).1 (by rw[<- hz,<- hz];exact g3)
 ·rintro⟨g1,g2,g3⟩;refine⟨g1,g2,?_⟩
  cases hl:t.data.toList with
  | nil=>have hz0:=hz t;rw[hl,ax_] at hz0;omega
  | cons c r=>
   rw[<- hl];have hb:=zi4 hl;have:=(zz7 hl h1 hd h2 (by rw[<- hb,<- hz];exact λ e=>g2 ⟨e.1,.inl e.2⟩) h3).2 g3;rw[<- hz,<- hz] at this;exact this
open Go.RowKit
theorem x9_ (lo hi:Nat) (s:BA):∀ n i,s.size-i<=n->∀ k,i<=k->k<zm_ lo hi s i->lo<=bt s k/\bt s k<=hi:=by
 intro n
 induction n with
 | zero=>
  intro i hn k h1 h2
  by_cases hb:lo<=bt s i/\bt s i<=hi
  ·by_cases hk:k=i
   ·subst hk;exact hb
   ·unfold zm_ at h2;simp only[dif_neg (show ¬ i<s.size by omega)] at h2;omega
  ·rw[vf_ hb] at h2;omega
 | succ n ih=>
  intro i hn k h1 h2
  by_cases hb:lo<=bt s i/\bt s i<=hi
  ·by_cases hi':i<s.size
   ·rw[zfq hi' hb] at h2
    by_cases hk:k=i
    ·subst hk;exact hb
    ·exact ih (i+1) (by omega) k (by omega) h2
   ·exact ih i (by omega) k h1 h2
  ·rw[vf_ hb] at h2;omega
theorem zge {a b:Nat}(h:c∈(s.extract a b).data.toList):∃ k,a<=k/\k<b/\bt s k=c.toNat:=by
 rw[Array.mem_toList_iff,Array.mem_iff_getElem] at h;obtain⟨q,hq,he⟩:=h;have hq':q<(s.extract a b).size:=hq;rw[as_] at hq';refine⟨a+q,by omega,by omega,?_⟩;unfold bt;rw[dif_pos (by omega),<- he]
 congr 1
 exact(ByteArray.getElem_extract ..).symm
theorem zbv (s:BA) (i:Nat):digs (s.extract i (zm_ 48 57 s i)).data.toList:=by
 intro c hc;obtain⟨k,h1,h2,h3⟩:=zge hc;have:=x9_ 48 57 s _ i l_ k h1 h2;omega
open Go.RowKit
theorem j5_ {i e:Nat}(h1:i<e) (h2:e<=s.size):(s.extract i e).data.toList=(s[i]'(by omega))::(s.extract (i+1) e).data.toList:=by
 obtain⟨⟨l⟩⟩:=s;have hl:e<=l.length:=h2;simp only[ByteArray.data_extract,List.extract_toArray,List.extract_eq_take_drop];have hd:l.drop i=l[i]::l.drop (i+1):=bh_ (by omega);rw[hd,show e-i=(e-(i+1))+1 by omega,b8_]
 rfl
def loV (kd:Nat):Int:=if kd=105 then -2147483648 else -9223372036854775808
def hiV (kd:Nat):Int:=if kd=105 then 2147483647 else 9223372036854775807
theorem zop {i kd:Nat}(h0:0<(z4_ s i).size) (hz:¬ (bt (z4_ s i) 0=48/\(1<(z4_ s i).size\/xu_ s i=true))) :
 zfy kd (xu_ s i) (z4_ s i)↔∃ v,Lib.parseIntB 64 (s.extract i (z6_ s i)).data.toList=.ok v/\loV kd<=v/\v<=hiV kd:=by
 have hd:digs (z4_ s i).data.toList:=zbv s (sgn s i)
 have hne:(z4_ s i).data.toList≠[]:=by
  intro e;have hs:(z4_ s i).size=(z4_ s i).data.toList.length:=Array.length_toList.symm;rw[e,ax_] at hs;omega
 rw[zcy hd]
 by_cases h45:bt s i=45
 ·have hneg:xu_ s i=true:=by unfold xu_;rw[h45];rfl
  have hlt:i<s.size:=by
   by_cases hh:i<s.size
   ·exact hh
   ·unfold bt at h45;rw[dif_neg hh] at h45;exact absurd h45 (by decide)
  have hs:sgn s i=i+1:=by unfold sgn;rw[if_pos h45]
  have hge:=yj_ 48 57 s _ (i+1) l_
  have he:(s.extract i (z6_ s i)).data.toList=45::(z4_ s i).data.toList:=by
   unfold z4_ z6_;rw[hs,j5_ (by omega) (hge.2 (by omega))]
   congr 1
   unfold bt at h45;rw[dif_pos hlt] at h45;exact UInt8.toNat_inj.1 h45
  rw[he,znh hne hd,hneg];generalize dv (z4_ s i).data.toList=n;unfold topV loV hiV;rw[hneg] at hz
  constructor
  ·rintro⟨_,_,g⟩;refine⟨-(n:Int),?_,?_,?_⟩
   ·rw[if_pos (by split at g<;>simp at g<;>omega)]
   ·split at g<;>simp at g<;>simp_all<;>omega
   ·split<;>omega
  ·rintro⟨v,g1,g2,g3⟩;refine⟨h0,hz,?_⟩;split at g1
   ·cases g1;split at g2<;>simp_all<;>omega
   ·cases g1
 ·have hneg:xu_ s i=false:=by
   unfold xu_;exact beq_eq_false_iff_ne.2 (by omega)
  have hs:sgn s i=i:=by unfold sgn;rw[if_neg h45]
  have he:s.extract i (z6_ s i)=z4_ s i:=by unfold z4_;rw[hs]
  rw[he,zgb hne hd,hneg];generalize dv (z4_ s i).data.toList=n;unfold topV loV hiV;rw[hneg] at hz
  constructor
  ·rintro⟨_,_,g⟩;refine⟨(n:Int),?_,?_,?_⟩
   ·rw[if_pos (by split at g<;>simp at g<;>omega)]
   ·split<;>omega
   ·split at g<;>simp at g<;>simp_all<;>omega
  ·rintro⟨v,g1,g2,g3⟩;refine⟨h0,hz,?_⟩;split at g1
   ·cases g1;split at g3<;>simp_all<;>omega
   ·cases g1
end Go.Proofs.YthmjjpkjgjklmaaGreatDoor
