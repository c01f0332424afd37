import Derived.Test.YtiifagiebikmdaaGreatDoorW06
import Derived.Lib.ParseIntB
import Derived.Test.YtiifagiebikmdaaGreatDoorA00
set_option maxHeartbeats 16000000
set_option maxRecDepth 100000
set_option linter.unusedSimpArgs false
namespace Go.Proofs.YtiifagiebikmdaaGreatDoor
open Go.RowKit
variable {c:UInt8}{r l:List UInt8}{s:BA}
def dv:List UInt8->Nat
 | []=>0
 | c::r=>(c.toNat-48)*10 ^ r.length+dv r
def digs (l:List UInt8):Prop:=∀ c∈l,48<=c.toNat/\c.toNat<=57
theorem digs.tail (h:digs (c::r)):digs r:=λ x a=>h x (List.mem_cons_of_mem _ a)
theorem zr4:∀ {l:List UInt8},digs l->dv l<10 ^ l.length
 | [],_=>by simp[dv]
 | c::r,h=>by
  have h1:=zr4 h.tail;have a:=h c (bz_ ..);have b:(c.toNat-48)*10 ^ r.length<=9*10 ^ r.length:=bt_ _ (by omega);simp only[dv,aq_,Nat.pow_succ];omega
theorem zy0 (hc:49<=c.toNat):10 ^ r.length<=dv (c::r):=by
 have a:1*10 ^ r.length<=(c.toNat-48)*10 ^ r.length:=bt_ _ (by omega);simp only[dv];omega
theorem zvj:∀ {a b:List UInt8},a.length=b.length->digs a->digs b->(Op.bytesLess a b=true↔dv a<dv b)/\(a=b↔dv a=dv b)
 | [],[],_,_,_=>by simp[Op.bytesLess,dv]
 | [],_::_,h,_,_=>by simp at h
 | _::_,[],h,_,_=>by simp at h
 | x::a,y::b,h,ha,hb=>by
  have hl:a.length=b.length:=by simpa using h
  obtain⟨q,t⟩:=zvj hl ha.tail hb.tail;have i:=ha x (bz_ ..);have o:=hb y (bz_ ..);have f:=zr4 ha.tail;have g:=zr4 hb.tail;rw[hl] at f;have k:(x<y)↔x.toNat<y.toNat:=UInt8.lt_iff_toNat_lt;have j:(x=y)↔x.toNat=y.toNat:=UInt8.toNat_inj.symm;simp only[Op.bytesLess,dv,hl,ax_,a1_,decide_eq_true_eq,beq_iff_eq,List.cons.injEq];rw[k,j,q,t];generalize 10 ^ b.length=p at f g⊢;generalize dv a=u at f⊢;generalize dv b=v at g⊢;generalize x.toNat=m at i⊢;generalize y.toNat=n at o⊢
  rcases Nat.lt_trichotomy m n with h|h|h
  ·have d:(m-48+1)*p<=(n-48)*p:=bt_ _ (by omega);rw[Nat.add_mul,Nat.one_mul] at d;exact⟨⟨λ _=>by omega,λ _=>.inl h⟩,⟨λ e=>by omega,λ e=>by omega⟩⟩
  ·subst h;exact⟨⟨λ e=>by omega,λ e=>.inr ⟨rfl,by omega⟩⟩,⟨λ e=>by omega,λ e=>⟨rfl,by omega⟩⟩⟩
  ·have d:(n-48+1)*p<=(m-48)*p:=bt_ _ (by omega);rw[Nat.add_mul,Nat.one_mul] at d;exact⟨⟨λ e=>by omega,λ e=>by omega⟩,⟨λ e=>by omega,λ e=>by omega⟩⟩
theorem zyz {t T:List UInt8}{d:UInt8}{R:List UInt8}(b:t=c::r) (a:T=d::R) (dt:digs t) (f:digs T) (hc:¬ (c.toNat=48/\1<t.length)) (hd:49<=d.toNat) :
 (t.length<=T.length/\(t.length=T.length->(!Op.bytesLess t T && !(t==T))=false))↔dv t<=dv T:=by
 have lt:=zr4 dt;have q:=zr4 f
 have m:10 ^ R.length<=dv T:=by rw[a];exact zy0 hd
 rcases Nat.lt_trichotomy t.length T.length with h|h|h
 ·have h1:10 ^ t.length<=10 ^ R.length:=Nat.pow_le_pow_right (by decide) (by rw[a] at h;simp at h;omega);exact⟨λ _=>by omega,λ _=>⟨by omega,λ e=>by omega⟩⟩
 ·obtain⟨j,k⟩:=zvj h dt f
  constructor
  ·rintro⟨_,g⟩;have i:=g h
   by_cases hb:Op.bytesLess t T=true
   ·have:=j.1 hb;omega
   ·by_cases he:t=T
    ·have:=k.1 he;omega
    ·simp[hb,he] at i
  ·intro p;refine⟨by omega,λ _=>?_⟩
   by_cases hb:Op.bytesLess t T=true
   ·simp[hb]
   ·have n:¬ dv t<dv T:=λ e=>hb (j.2 e);have he:t=T:=k.2 (by omega)
    simp[he]
 ·have h1:49<=c.toNat:=by
   have:=dt c (by rw[b];exact bz_ ..)
   have o:0<T.length:=by rw[a];simp
   omega
  have g:10 ^ r.length<=dv t:=by rw[b];exact zy0 h1
  have i:10 ^ T.length<=10 ^ r.length:=Nat.pow_le_pow_right (by decide) (by rw[b] at h;simp at h;omega);exact⟨λ ⟨e,_⟩=>by omega,λ e=>by omega⟩
open Go.RowKit
theorem zg1:∀ {l:List UInt8}{acc:Nat},digs l->acc<=2 ^ 64-1->
 Lib.parseUintM (2 ^ 64-1) acc l=if acc*10 ^ l.length+dv l<=2 ^ 64-1 then .ok (acc*10 ^ l.length+dv l) else .range
 | [],acc,_,h=>by simp only[Lib.parseUintM,dv,ao_,Nat.pow_zero,Nat.mul_one,bp_];rw[if_pos h]
 | c::r,acc,hd,h=>by
  have hc:=hd c (bz_ ..)
  have e:acc*10 ^ (c::r).length+dv (c::r)=(acc*10+(c.toNat-48))*10 ^ r.length+dv r:=by
   simp only[dv,aq_,Nat.pow_succ,Nat.add_mul];rw[Nat.mul_assoc acc 10,a2_ 10 (10 ^ r.length)];omega
  have b:1<=10 ^ r.length:=Nat.one_le_pow _ _ (by decide)
  have d:acc*10+(c.toNat-48)<=(acc*10+(c.toNat-48))*10 ^ r.length:=by
   have:=b3_ (acc*10+(c.toNat-48)) b;omega
  rw[e];unfold Lib.parseUintM;rw[if_pos hc]
  by_cases h1:1844674407370955162<=acc
  ·rw[if_pos h1,if_neg (by omega)]
  ·rw[if_neg h1]
   by_cases a:2 ^ 64-1<acc*10+(c.toNat-48)
   ·rw[if_pos a,if_neg (by omega)]
   ·rw[if_neg a];exact zg1 hd.tail (by omega)
theorem zja (hl:l≠[]) (hd:digs l):Lib.parseUintB 64 l=if dv l<=2 ^ 64-1 then .ok (dv l) else .range:=by
 unfold Lib.parseUintB;rw[if_neg hl,zg1 hd (by omega)]
 simp
theorem zru (hl:l≠[]) (hd:digs l):Lib.parseIntB 64 l=if dv l<2 ^ 63 then .ok (dv l:Int) else .range:=by
 cases l with
 | nil=>exact absurd rfl hl
 | cons c r=>
  have hc:=hd c (bz_ ..);unfold Lib.parseIntB;simp only;rw[if_neg (by omega),zja (by simp) hd]
  by_cases h1:dv (c::r)<2 ^ 63
  ·rw[if_pos h1,if_pos (by omega)];simp only;rw[if_neg (by omega),if_neg (by omega),if_neg (by omega)]
  ·rw[if_neg h1]
   by_cases a:dv (c::r)<=2 ^ 64-1
   ·rw[if_pos a];simp only;rw[if_pos (by omega)]
   ·rw[if_neg a]
theorem zrv (hl:l≠[]) (hd:digs l):Lib.parseIntB 64 (45::l)=if dv l<=2 ^ 63 then .ok (-(dv l:Int)) else .range:=by
 unfold Lib.parseIntB;simp only;rw[if_pos (by decide),zja hl hd]
 by_cases h1:dv l<=2 ^ 63
 ·rw[if_pos h1,if_pos (by omega)];simp only;rw[if_neg (λ h=>h.1 (by decide)),if_neg (by omega),if_pos (by decide)]
 ·rw[if_neg h1]
  by_cases a:dv l<=2 ^ 64-1
  ·rw[if_pos a];simp only;rw[if_neg (λ h=>h.1 (by decide)),if_pos ⟨by decide,by omega⟩]
  ·rw[if_neg a]
open Go.RowKit
def topV (kd:Nat) (neg:Bool):Nat:=if kd=105 then (if neg=true then 2147483648 else 2147483647) else (if neg=true then 9223372036854775808 else 9223372036854775807)
theorem zqg (kd:Nat) (neg:Bool):∃ d R,(zcm kd neg).data.toList=d::R/\digs (zcm kd neg).data.toList/\49<=d.toNat/\dv (zcm kd neg).data.toList=topV kd neg:=by
 unfold zcm topV
 by_cases h:kd=105<;>cases neg<;>simp only[h,if_true,if_false,a3_]
 all_goals exact⟨_,_,rfl,(by unfold digs;decide),by decide,by decide⟩
theorem zsl {t:BA}(h:t.data.toList=c::r):bt t 0=c.toNat:=by
 obtain⟨⟨l⟩⟩:=t;simp only at h;subst h
 rfl
theorem zq9 {kd:Nat}{neg:Bool}{t:BA}(hd:digs t.data.toList) :
 zcy kd neg t↔0<t.size/\¬ (bt t 0=48/\(1<t.size\/neg=true))/\dv t.data.toList<=topV kd neg:=by
 obtain⟨d,R,h1,i,j,k⟩:=zqg kd neg;have a:∀ x:BA,x.size=x.data.toList.length:=λ x=>Array.length_toList.symm;unfold zcy;rw[ByteArray.toList_eq,ByteArray.toList_eq,<- k]
 constructor
 ·rintro⟨f,b,g⟩;refine⟨f,b,?_⟩
  cases hl:t.data.toList with
  | nil=>have h:=a t;rw[hl,ao_] at h;omega
  | cons c r=>
   rw[<- hl];have hb:=zsl hl;exact(zyz hl h1 hd i (by rw[<- hb,<- a];exact λ e=>b ⟨e.1,.inl e.2⟩) j).1 (by rw[<- a,<- a];exact g)
 ·rintro⟨f,b,g⟩;refine⟨f,b,?_⟩
  cases hl:t.data.toList with
  | nil=>have h:=a t;rw[hl,ao_] at h;omega
  | cons c r=>
   rw[<- hl];have hb:=zsl hl;have:=(zyz hl h1 hd i (by rw[<- hb,<- a];exact λ e=>b ⟨e.1,.inl e.2⟩) j).2 g;rw[<- a,<- a] at this;exact this
open Go.RowKit
theorem zqo (lo b:Nat) (s:BA):∀ n i,s.size-i<=n->∀ k,i<=k->k<z0_ lo b s i->lo<=bt s k/\bt s k<=b:=by
 intro n
 induction n with
 | zero=>
  intro i hn k h1 a
  by_cases hb:lo<=bt s i/\bt s i<=b
  ·by_cases hk:k=i
   ·subst hk;exact hb
   ·unfold z0_ at a;simp only[dif_neg (show ¬ i<s.size by omega)] at a;omega
  ·rw[ve_ hb] at a;omega
 | succ n ih=>
  intro i hn k h1 a
  by_cases hb:lo<=bt s i/\bt s i<=b
  ·by_cases d:i<s.size
   ·rw[za8 d hb] at a
    by_cases hk:k=i
    ·subst hk;exact hb
    ·exact ih (i+1) (by omega) k (by omega) a
   ·exact ih i (by omega) k h1 a
  ·rw[ve_ hb] at a;omega
theorem zmj {a b:Nat}(h:c∈(s.extract a b).data.toList):∃ k,a<=k/\k<b/\bt s k=c.toNat:=by
 rw[Array.mem_toList_iff,Array.mem_iff_getElem] at h;obtain⟨q,d,he⟩:=h;have e:q<(s.extract a b).size:=d;rw[bb_] at e;refine⟨a+q,by omega,by omega,?_⟩;unfold bt;rw[dif_pos (by omega),<- he]
 congr 1
 exact(ByteArray.getElem_extract ..).symm
theorem znq (s:BA) (i:Nat):digs (s.extract i (z0_ 48 57 s i)).data.toList:=by
 intro c hc;obtain⟨k,h1,a,b⟩:=zmj hc;have:=zqo 48 57 s _ i l_ k h1 a;omega
open Go.RowKit
theorem zef {i e:Nat}(h1:i<e) (a:e<=s.size):(s.extract i e).data.toList=(s[i]'(by omega))::(s.extract (i+1) e).data.toList:=by
 obtain⟨⟨l⟩⟩:=s;have hl:e<=l.length:=a;simp only[ByteArray.data_extract,List.extract_toArray,List.extract_eq_take_drop];have hd:l.drop i=l[i]::l.drop (i+1):=a7_ (by omega);rw[hd,show e-i=(e-(i+1))+1 by omega,List.take_succ_cons]
 rfl
def loV (kd:Nat):Int:=if kd=105 then -2147483648 else -9223372036854775808
def hiV (kd:Nat):Int:=if kd=105 then 2147483647 else 9223372036854775807
theorem zng {i kd:Nat}(h0:0<(y6_ s i).size) (f:¬ (bt (y6_ s i) 0=48/\(1<(y6_ s i).size\/jb_ s i=true))) :
 zcy kd (jb_ s i) (y6_ s i)↔∃ v,Lib.parseIntB 64 (s.extract i (xe_ s i)).data.toList=.ok v/\loV kd<=v/\v<=hiV kd:=by
 have hd:digs (y6_ s i).data.toList:=znq s (sgn s i)
 have m:(y6_ s i).data.toList≠[]:=by
  intro e;have hs:(y6_ s i).size=(y6_ s i).data.toList.length:=Array.length_toList.symm;rw[e,ao_] at hs;omega
 rw[zq9 hd]
 by_cases a:bt s i=45
 ·have d:jb_ s i=true:=by unfold jb_;rw[a];rfl
  have p:i<s.size:=by
   by_cases k:i<s.size
   ·exact k
   ·unfold bt at a;rw[dif_neg k] at a;exact absurd a (by decide)
  have hs:sgn s i=i+1:=by unfold sgn;rw[if_pos a]
  have o:=vh_ 48 57 s _ (i+1) l_
  have he:(s.extract i (xe_ s i)).data.toList=45::(y6_ s i).data.toList:=by
   unfold y6_ xe_;rw[hs,zef (by omega) (o.2 (by omega))]
   congr 1
   unfold bt at a;rw[dif_pos p] at a;exact UInt8.toNat_inj.1 a
  rw[he,zrv m hd,d];generalize dv (y6_ s i).data.toList=n;unfold topV loV hiV;rw[d] at f
  constructor
  ·rintro⟨_,_,g⟩;refine⟨-(n:Int),?_,?_,?_⟩
   ·rw[if_pos (by split at g<;>simp at g<;>omega)]
   ·split at g<;>simp at g<;>simp_all<;>omega
   ·split<;>omega
  ·rintro⟨v,b,h,j⟩;refine⟨h0,f,?_⟩;split at b
   ·cases b;split at h<;>simp_all<;>omega
   ·cases b
 ·have d:jb_ s i=false:=by
   unfold jb_;exact beq_eq_false_iff_ne.2 (by omega)
  have hs:sgn s i=i:=by unfold sgn;rw[if_neg a]
  have he:s.extract i (xe_ s i)=y6_ s i:=by unfold y6_;rw[hs]
  rw[he,zru m hd,d];generalize dv (y6_ s i).data.toList=n;unfold topV loV hiV;rw[d] at f
  constructor
  ·rintro⟨_,_,g⟩;refine⟨(n:Int),?_,?_,?_⟩
   ·rw[if_pos (by split at g<;>simp at g<;>omega)]
   ·split<;>omega
   ·split at g<;>simp at g<;>simp_all<;>omega
  ·rintro⟨v,b,h,j⟩;refine⟨h0,f,?_⟩;split at b
   ·cases b;split at j<;>simp_all<;>omega
   ·cases b
end Go.Proofs.YtiifagiebikmdaaGreatDoor
