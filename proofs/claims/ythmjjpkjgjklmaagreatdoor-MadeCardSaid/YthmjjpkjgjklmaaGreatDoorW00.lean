import Derived.Test.YthmjjpkjgjklmaaGreatDoorRows
import Derived.Test.YthmjjpkjgjklmaaGreatDoorA00
set_option maxHeartbeats 16000000
set_option maxRecDepth 100000
set_option linter.unusedSimpArgs false
namespace Go.Proofs.YthmjjpkjgjklmaaGreatDoor
variable {s:BA}{i c:Nat}
def bt (s:BA) (i:Nat):Nat:=if h:i<s.size then (s[i]'h).toNat else 0
theorem zqx (s:BA) (i:Nat):bt s i<256:=by
 unfold bt;split
 ·exact UInt8.toNat_lt _
 ·omega
theorem zl_ (h:0<bt s i):i<s.size:=by
 unfold bt at h;split at h
 ·assumption
 ·omega
theorem zbh (s:BA) (i:Nat) (h:i<s.size):bt s i=(s[i]'h).toNat:=by unfold bt;rw[dif_pos h]
theorem zef (h:s.size<=i):bt s i=0:=by unfold bt;rw[dif_neg (by omega)]
inductive PT where
 | leaf (c:Nat) (p:Nat)
 | wrap (c:Nat) (p:Nat) (t:PT)
 | alts (p:Nat) (ts:List PT)
 deriving Inhabited
def zu_ (c:Nat):Bool:=c==110||c==116||c==105||c==108||c==115
def z0_ (c:Nat):Bool:=decide (65<=c)&&decide (c<=70)
def zn_ (c:Nat):Bool:=decide (97<=c)&&decide (c<=122)
def x7_ (c:Nat):Nat:=if c==123 then 125 else 93
mutual
def pTyp (s:BA):Nat->Nat->Except Nat (PT×Nat)
 | 0,i=>.error i
 | f+1,i=>
  if zu_ (bt s i) then .ok (.leaf (bt s i) i,i+1)
  else if bt s i=91\/bt s i=123 then
   match pTyp s f (i+1) with
   | .error k=>.error k
   | .ok (t,j)=>if bt s j=x7_ (bt s i) then .ok (.wrap (bt s i) i t,j+1) else .error j
  else if bt s i=40 then
   match vd_ s f (i+1) with
   | .error k=>.error k
   | .ok (ts,j)=>if bt s j=41 then .ok (.alts i ts,j+1) else .error j
  else if z0_ (bt s i) then .ok (.leaf (bt s i) i,i+1)
  else .error i
def vd_ (s:BA):Nat->Nat->Except Nat (List PT×Nat)
 | 0,i=>.error i
 | f+1,i=>
  match pTyp s f i with
  | .error k=>.error k
  | .ok (t,j)=>
   if bt s j=44 then
    match vd_ s f (j+1) with
    | .error k=>.error k
    | .ok (ts,k)=>.ok (t::ts,k)
   else .ok ([t],j)
end
def zdk (s:BA) (T:Nat->Except Nat (PT×Nat)) (A:Nat->Except Nat (List PT×Nat)) (i:Nat):Except Nat (PT×Nat):=
 if zu_ (bt s i) then .ok (.leaf (bt s i) i,i+1)
 else if bt s i=91\/bt s i=123 then
  match T (i+1) with
  | .error k=>.error k
  | .ok (t,j)=>if bt s j=x7_ (bt s i) then .ok (.wrap (bt s i) i t,j+1) else .error j
 else if bt s i=40 then
  match A (i+1) with
  | .error k=>.error k
  | .ok (ts,j)=>if bt s j=41 then .ok (.alts i ts,j+1) else .error j
 else if z0_ (bt s i) then .ok (.leaf (bt s i) i,i+1)
 else .error i
def zh7 (s:BA) (T:Nat->Except Nat (PT×Nat)) (A:Nat->Except Nat (List PT×Nat)) (i:Nat):Except Nat (List PT×Nat):=
 match T i with
 | .error k=>.error k
 | .ok (t,j)=>
  if bt s j=44 then
   match A (j+1) with
   | .error k=>.error k
   | .ok (ts,k)=>.ok (t::ts,k)
  else .ok ([t],j)
theorem zac (s:BA) (f i:Nat):pTyp s (f+1) i=zdk s (pTyp s f) (vd_ s f) i:=by rw[pTyp];rfl
theorem jo_ (s:BA) (f i:Nat):vd_ s (f+1) i=zh7 s (pTyp s f) (vd_ s f) i:=by rw[vd_];rfl
theorem zqo (h:zu_ c=true):0<c:=by
 simp only[zu_,au_,beq_iff_eq] at h;omega
theorem zql (h:z0_ c=true):0<c:=by
 simp only[z0_,a9_,decide_eq_true_eq] at h;omega
theorem ze5 (s:BA) (f:Nat) :
 (∀ i,i<=s.size->(∀ t j,pTyp s f i=.ok (t,j)->i<j/\j<=s.size)/\(∀ k,pTyp s f i=.error k->i<=k/\k<=s.size))/\
 (∀ i,i<=s.size->(∀ t j,vd_ s f i=.ok (t,j)->i<j/\j<=s.size)/\(∀ k,vd_ s f i=.error k->i<=k/\k<=s.size)):=by
 induction f with
 | zero=>exact⟨λ i hi=>⟨λ t j h=>by simp[pTyp] at h,λ k h=>by simp[pTyp] at h;omega⟩,λ i hi=>⟨λ t j h=>by simp[vd_] at h,λ k h=>by simp[vd_] at h;omega⟩⟩
 | succ f ih=>
  obtain⟨ihT,ihA⟩:=ih;refine⟨λ i hi=>?_,λ i hi=>?_⟩
  ·rw[pTyp];split
   ·rename_i hb;have:=zl_ (zqo hb);exact⟨λ t j h=>by simp only[af_,ab_] at h;omega,λ k h=>by cases h⟩
   ·split
    ·rename_i hb;have hl:=zl_ (s:=s) (i:=i) (by omega);have:=ihT (i+1) (by omega)
     cases hp:pTyp s f (i+1) with
     | error k=>exact⟨λ t j h=>by simp at h,λ k' h=>by simp at h;have:=this.2 k hp;omega⟩
     | ok r=>
      obtain⟨t,j⟩:=r;have:=this.1 t j hp;simp only;split
      ·rename_i hc;have hj:=zl_ (s:=s) (i:=j) (by rw[hc];unfold x7_;split<;>omega);exact⟨λ t j h=>by simp only[af_,ab_] at h;omega,λ k h=>by cases h⟩
      ·exact⟨λ t j h=>(nomatch h),λ k h=>by simp only[b4_] at h;omega⟩
    ·split
     ·rename_i hb;have hl:=zl_ (s:=s) (i:=i) (by omega);have:=ihA (i+1) (by omega)
      cases hp:vd_ s f (i+1) with
      | error k=>exact⟨λ t j h=>by simp at h,λ k' h=>by simp at h;have:=this.2 k hp;omega⟩
      | ok r=>
       obtain⟨t,j⟩:=r;have:=this.1 t j hp;simp only;split
       ·rename_i hc;have hj:=zl_ (s:=s) (i:=j) (by omega);exact⟨λ t j h=>by simp only[af_,ab_] at h;omega,λ k h=>by cases h⟩
       ·exact⟨λ t j h=>(nomatch h),λ k h=>by simp only[b4_] at h;omega⟩
     ·split
      ·rename_i hb;have:=zl_ (zql hb);exact⟨λ t j h=>by simp only[af_,ab_] at h;omega,λ k h=>by cases h⟩
      ·exact⟨λ t j h=>(nomatch h),λ k h=>by simp only[b4_] at h;omega⟩
  ·rw[vd_];have hT:=ihT i hi
   cases hp:pTyp s f i with
   | error k=>exact⟨λ t j h=>by simp at h,λ k' h=>by simp at h;have:=hT.2 k hp;omega⟩
   | ok r=>
    obtain⟨t,j⟩:=r;have h1:=hT.1 t j hp;simp only;split
    ·rename_i hc;have hj:=zl_ (s:=s) (i:=j) (by omega);have hA:=ihA (j+1) (by omega)
     cases hq:vd_ s f (j+1) with
     | error k=>exact⟨λ t j h=>by simp at h,λ k' h=>by simp at h;have:=hA.2 k hq;omega⟩
     | ok r=>
      obtain⟨ts,k⟩:=r;have:=hA.1 ts k hq;exact⟨λ t j h=>by simp only[af_,ab_] at h;omega,λ k h=>by cases h⟩
    ·exact⟨λ t j h=>by simp only[af_,ab_] at h;omega,λ k h=>by cases h⟩
theorem zfm {T T':Nat->Except Nat (PT×Nat)}{A A':Nat->Except Nat (List PT×Nat)}(hT:i<s.size->T (i+1)=T' (i+1)) (hA:i<s.size->A (i+1)=A' (i+1)):zdk s T A i=zdk s T' A' i:=by
 unfold zdk;split
 ·rfl
 ·split
  ·rename_i hb;rw[hT (zl_ (by omega))]
  ·split
   ·rename_i hb;rw[hA (zl_ (by omega))]
   ·rfl
theorem zfn {T T':Nat->Except Nat (PT×Nat)}{A A':Nat->Except Nat (List PT×Nat)}(hT:T i=T' i) (hA:∀ t j,T' i=.ok (t,j)->j<s.size->A (j+1)=A' (j+1)):zh7 s T A i=zh7 s T' A' i:=by
 unfold zh7;rw[hT]
 cases hp:T' i with
 | error k=>rfl
 | ok r=>
  obtain⟨t,j⟩:=r;simp only;split
  ·rename_i hc;rw[hA t j hp (zl_ (by omega))]
  ·rfl
theorem zw9 (s:BA) (f:Nat) :
 (∀ i,i<=s.size->2*(s.size-i)<f->pTyp s (f+1) i=pTyp s f i)/\
 (∀ i,i<=s.size->2*(s.size-i)+1<f->vd_ s (f+1) i=vd_ s f i):=by
 induction f with
 | zero=>exact⟨λ i _ h=>by omega,λ i _ h=>by omega⟩
 | succ f ih=>
  obtain⟨ihT,ihA⟩:=ih;refine⟨λ i hi h=>?_,λ i hi h=>?_⟩
  ·rw[zac s (f+1),zac s f];exact zfm (λ hl=>ihT (i+1) (by omega) (by omega)) (λ hl=>ihA (i+1) (by omega) (by omega))
  ·rw[jo_ s (f+1),jo_ s f];refine zfn (ihT i hi (by omega)) (λ t j hp hl=>?_);have h1:=((ze5 s f).1 i hi).1 t j hp;exact ihA (j+1) (by omega) (by omega)
theorem zcc (s:BA) (i:Nat) (hi:i<=s.size) (f:Nat) (d:Nat) :
 (2*(s.size-i)<f->pTyp s (f+d) i=pTyp s f i)/\(2*(s.size-i)+1<f->vd_ s (f+d) i=vd_ s f i):=by
 induction d with
 | zero=>exact⟨λ _=>rfl,λ _=>rfl⟩
 | succ d ih=>
  refine⟨λ h=>?_,λ h=>?_⟩
  ·rw[<- a0_,(zw9 s (f+d)).1 i hi (by omega),ih.1 h]
  ·rw[<- a0_,(zw9 s (f+d)).2 i hi (by omega),ih.2 h]
def pT (s:BA) (i:Nat):Except Nat (PT×Nat):=pTyp s (2*s.size+2) i
def pA (s:BA) (i:Nat):Except Nat (List PT×Nat):=vd_ s (2*s.size+3) i
theorem v7_ (hi:i<=s.size):(∀ t j,pT s i=.ok (t,j)->i<j/\j<=s.size)/\(∀ k,pT s i=.error k->i<=k/\k<=s.size):=(ze5 s _).1 i hi
theorem zsa (s:BA) (i:Nat):pT s i=zdk s (pT s) (pA s) i:=by
 show pTyp s (2*s.size+1+1) i=_;rw[zac];refine zfm (λ hl=>?_) (λ hl=>?_)
 ·exact((zcc s (i+1) (by omega) (2*s.size+1) 1).1 (by omega)).symm
 ·exact((zcc s (i+1) (by omega) (2*s.size+1) 2).2 (by omega)).symm
theorem z02 (s:BA) (i:Nat) (hi:i<=s.size):pA s i=zh7 s (pT s) (pA s) i:=by
 show vd_ s (2*s.size+2+1) i=_;rw[jo_];refine zfn rfl (λ t j hp hl=>?_);have h1:=(v7_ hi).1 t j hp;exact((zcc s (j+1) (by omega) (2*s.size+2) 1).2 (by omega)).symm
structure TR where
 kind:Nat
 subs:List Nat
 deriving Inhabited
def PT.kind:PT->Nat
 | .leaf c _=>c
 | .wrap c _ _=>c
 | .alts _ _=>40
def PT.place:PT->Nat
 | .leaf _ p=>p
 | .wrap _ p _=>p
 | .alts p _=>p
mutual
def flat (b:Nat):PT->List TR
 | .leaf c _=>[⟨c,[]⟩]
 | .wrap c _ t=>flat b t++[⟨c,[b+(flat b t).length-1]⟩]
 | .alts _ ts=>zyg b ts++[⟨40,nums b ts⟩]
def zyg (b:Nat):List PT->List TR
 | []=>[]
 | t::r=>flat b t++zyg (b+(flat b t).length) r
def nums (b:Nat):List PT->List Nat
 | []=>[]
 | t::r=>(b+(flat b t).length-1)::nums (b+(flat b t).length) r
end
mutual
def ya_:PT->List (Nat×Nat)
 | .leaf c p=>if zu_ c then [] else [(c,p)]
 | .wrap _ _ t=>ya_ t
 | .alts _ ts=>xf_ ts
def xf_:List PT->List (Nat×Nat)
 | []=>[]
 | t::r=>ya_ t++xf_ r
end
def zkn (seen:List Nat) (t:PT) (m:Int):Int:=if (t.kind=40\/t.kind∈seen)/\(m<0\/(t.place:Int)<m) then (t.place:Int) else m
mutual
def mix:PT->Int->Int
 | .leaf _ _,m=>m
 | .wrap _ _ t,m=>mix t m
 | .alts _ ts,m=>mixs [] ts m
def mixs (seen:List Nat):List PT->Int->Int
 | [],m=>m
 | t::r,m=>mixs (seen++[t.kind]) r (zkn seen t (mix t m))
end
def zn0 (ds:List PT):Except Nat (List PT×Nat)->Except Nat (List PT×Nat)
 | .error k=>.error k
 | .ok (r,j)=>.ok (ds++r,j)
theorem zuo (x:Except Nat (List PT×Nat)):zn0 [] x=x:=by
 match x with
 | .error k=>rfl
 | .ok (r,j)=>rfl
theorem znx (ds es:List PT) (x:Except Nat (List PT×Nat)):zn0 ds (zn0 es x)=zn0 (ds++es) x:=by
 match x with
 | .error k=>rfl
 | .ok (r,j)=>simp[zn0]
theorem zx0 (s:BA) (i:Nat) (hi:i<=s.size):pA s i =
 match pT s i with
 | .error k=>.error k
 | .ok (t,j)=>if bt s j=44 then zn0 [t] (pA s (j+1)) else .ok ([t],j):=by
 rw[z02 s i hi];unfold zh7
 cases pT s i with
 | error k=>rfl
 | ok r=>
  obtain⟨t,j⟩:=r;simp only;split
  ·cases pA s (j+1) with
   | error k=>rfl
   | ok r=>rfl
  ·rfl
def zmy (c:Nat):Bool:=c==40||c==91||c==123||c==60
def zgg (c:Nat):Bool:=c==41||c==93||c==125||c==62
def zf7 (c o:Nat):Nat:=if zmy c then o+1 else if zgg c then o-1 else o
def pDef (s:BA):Nat->Nat->Nat->Option Nat
 | 0,_,_=>none
 | n+1,i,o=>if o=0/\(bt s i=44\/bt s i=41) then some i else pDef s n (i+1) (zf7 (bt s i) o)
def pD (s:BA) (i o:Nat):Option Nat:=pDef s (s.size-i) i o
theorem zzr {o:Nat}(h:s.size<=i):pD s i o=none:=by
 unfold pD;rw[show s.size-i=0 by omega];rfl
theorem zxz (o:Nat) (h:i<s.size):pD s i o=if o=0/\(bt s i=44\/bt s i=41) then some i else pD s (i+1) (zf7 (bt s i) o):=by
 unfold pD;rw[show s.size-i=(s.size-(i+1))+1 by omega]
 rfl
theorem zmw (s:BA) (n:Nat):∀ i o e,pDef s n i o=some e->i<=e/\e<i+n:=by
 induction n with
 | zero=>intro i o e h;simp[pDef] at h
 | succ n ih=>
  intro i o e h;unfold pDef at h;split at h
  ·simp only[ad_] at h;omega
  ·have:=ih _ _ _ h;omega
theorem zcv {o e:Nat}(h:pD s i o=some e):i<=e/\e<s.size:=by
 have:=zmw s _ i o e h;omega
structure PF where
 letter:Nat
 place:Nat
 ty:PT
 dflt:Option (Nat×Nat)
 deriving Inhabited
def xa_ (s:BA) (i:Nat):Except Nat (PF×Nat):=
 if zn_ (bt s i) then
  if bt s (i+1)=58 then
   match pT s (i+2) with
   | .error k=>.error k
   | .ok (t,j)=>
    if bt s j=61 then
     match pD s (j+1) 0 with
     | none=>.error s.size
     | some e=>.ok (⟨bt s i,i,t,some (j+1,e)⟩,e)
    else .ok (⟨bt s i,i,t,none⟩,j)
  else .error (i+1)
 else .error i
theorem ve_ (h:zn_ c=true):0<c:=by
 simp only[zn_,a9_,decide_eq_true_eq] at h;omega
theorem jg_ (hi:i<=s.size):(∀ f j,xa_ s i=.ok (f,j)->i+2<j/\j<=s.size)/\(∀ k,xa_ s i=.error k->i<=k/\k<=s.size):=by
 unfold xa_;split
 ·rename_i h1;have l1:=zl_ (ve_ h1);split
  ·rename_i h2;have l2:=zl_ (s:=s) (i:=i+1) (by omega);have hb:=v7_ (s:=s) (i:=i+2) (by omega)
   cases hp:pT s (i+2) with
   | error k=>exact⟨λ f j h=>(nomatch h),λ k' h=>by simp only[b4_] at h;have:=hb.2 k hp;omega⟩
   | ok r=>
    obtain⟨t,j⟩:=r;have:=hb.1 t j hp;simp only;split
    ·cases hd:pD s (j+1) 0 with
     | none=>exact⟨λ f j h=>(nomatch h),λ k' h=>by simp only[b4_] at h;omega⟩
     | some e=>
      have:=zcv hd;exact⟨λ f j h=>by simp only[af_,ab_] at h;omega,λ k' h=>(nomatch h)⟩
    ·exact⟨λ f j h=>by simp only[af_,ab_] at h;omega,λ k' h=>(nomatch h)⟩
  ·exact⟨λ f j h=>(nomatch h),λ k' h=>by simp only[b4_] at h;omega⟩
 ·exact⟨λ f j h=>(nomatch h),λ k' h=>by simp only[b4_] at h;omega⟩
def xb_ (s:BA):Nat->Nat->Except Nat (List PF×Nat)
 | 0,i=>.error i
 | n+1,i=>
  match xa_ s i with
  | .error k=>.error k
  | .ok (f,j)=>
   if bt s j=41 then .ok ([f],j+1)
   else if bt s j=44 then
    match xb_ s n (j+1) with
    | .error k=>.error k
    | .ok (fs,k)=>.ok (f::fs,k)
   else .error j
def zam (s:BA) (i:Nat):Except Nat (List PF×Nat):=xb_ s (s.size+1-i) i
def zej (ds:List PF):Except Nat (List PF×Nat)->Except Nat (List PF×Nat)
 | .error k=>.error k
 | .ok (r,j)=>.ok (ds++r,j)
theorem zq7 (x:Except Nat (List PF×Nat)):zej [] x=x:=by
 match x with
 | .error k=>rfl
 | .ok (r,j)=>rfl
theorem zi9 (ds es:List PF) (x:Except Nat (List PF×Nat)):zej ds (zej es x)=zej (ds++es) x:=by
 match x with
 | .error k=>rfl
 | .ok (r,j)=>simp[zej]
theorem zig (s:BA) (n:Nat):∀ i d,i<=s.size->s.size-i<n->xb_ s (n+d) i=xb_ s n i:=by
 induction n with
 | zero=>intro i d hi h;omega
 | succ n ih=>
  intro i d hi h;rw[show n+1+d=(n+d)+1 by omega];unfold xb_
  cases hp:xa_ s i with
  | error k=>rfl
  | ok r=>
   obtain⟨f,j⟩:=r;have hb:=(jg_ hi).1 f j hp;simp only;split
   ·rfl
   ·split
    ·rename_i h44;have:=zl_ (s:=s) (i:=j) (by omega);rw[ih (j+1) d (by omega) (by omega)]
    ·rfl
theorem zj9 (s:BA) (i:Nat) (hi:i<=s.size):zam s i =
 match xa_ s i with
 | .error k=>.error k
 | .ok (f,j)=>if bt s j=41 then .ok ([f],j+1) else if bt s j=44 then zej [f] (zam s (j+1)) else .error j:=by
 unfold zam;rw[show s.size+1-i=(s.size-i)+1 by omega]
 conv=>lhs;unfold xb_
 cases hp:xa_ s i with
 | error k=>rfl
 | ok r=>
  obtain⟨f,j⟩:=r;have hb:=(jg_ hi).1 f j hp;simp only;split
  ·rfl
  ·split
   ·rename_i h44;have:=zl_ (s:=s) (i:=j) (by omega);have hf:=zig s (s.size+1-(j+1)) (j+1) (s.size-i-(s.size+1-(j+1))) (by omega) (by omega);rw[show s.size+1-(j+1)+(s.size-i-(s.size+1-(j+1)))=s.size-i by omega] at hf;rw[hf]
    cases xb_ s (s.size+1-(j+1)) (j+1) with
    | error k=>rfl
    | ok r=>rfl
   ·rfl
def xy_ (s:BA) (i:Nat):Except Nat (List PF×Nat):=
 if bt s i=40 then
  if bt s (i+1)=41 then .ok ([],i+2) else zam s (i+1)
 else .error i
def za8 (s:BA):Nat->Nat->Except Nat (List (Nat×Nat)×Nat)
 | 0,i=>.error i
 | n+1,i=>
  if zn_ (bt s i) then
   if bt s (i+1)=44 then
    match za8 s n (i+2) with
    | .error k=>.error k
    | .ok (l,k)=>.ok ((bt s i,i)::l,k)
   else .ok ([(bt s i,i)],i+1)
  else .error i
def zer (s:BA) (i:Nat):Except Nat (List (Nat×Nat)×Nat):=za8 s (s.size+1-i) i
def za0 (s:BA) (i:Nat):Except Nat ((List (Nat×Nat)×Option (Nat×Nat))×Nat):=
 if bt s i=40 then
  match zer s (i+1) with
  | .error k=>.error k
  | .ok (l,j)=>
   if bt s j=33 then
    if zn_ (bt s (j+1)) then
     if bt s (j+2)=41 then .ok ((l,some (bt s (j+1),j+1)),j+3) else .error (j+2)
    else .error (j+1)
   else if bt s j=41 then .ok ((l,none),j+1) else .error j
 else .error i
def finE (s:BA) (l:List (Nat×Nat)) (j:Nat):Except Nat ((List (Nat×Nat)×Option (Nat×Nat))×Nat):=
 if bt s j=33 then
  if zn_ (bt s (j+1)) then
   if bt s (j+2)=41 then .ok ((l,some (bt s (j+1),j+1)),j+3) else .error (j+2)
  else .error (j+1)
 else if bt s j=41 then .ok ((l,none),j+1) else .error j
def zhz (s:BA) (ds:List (Nat×Nat)):Except Nat (List (Nat×Nat)×Nat)->Except Nat ((List (Nat×Nat)×Option (Nat×Nat))×Nat)
 | .error k=>.error k
 | .ok (l,j)=>finE s (ds++l) j
theorem zvv (s:BA) (i:Nat):za0 s i=if bt s i=40 then zhz s [] (zer s (i+1)) else .error i:=by
 unfold za0;split
 ·cases zer s (i+1) with
  | error k=>rfl
  | ok q=>rfl
 ·rfl
theorem zmp (s:BA) (n:Nat):∀ i d,s.size-i<n->za8 s (n+d) i=za8 s n i:=by
 induction n with
 | zero=>intro i d h;omega
 | succ n ih=>
  intro i d h;rw[show n+1+d=(n+d)+1 by omega];unfold za8;split
  ·rename_i hs;have:=zl_ (ve_ hs);split
   ·rw[ih (i+2) d (by omega)]
   ·rfl
  ·rfl
theorem zpp (s:BA) (i:Nat):zer s i =
 if zn_ (bt s i) then
  if bt s (i+1)=44 then
   match zer s (i+2) with
   | .error k=>.error k
   | .ok (l,k)=>.ok ((bt s i,i)::l,k)
  else .ok ([(bt s i,i)],i+1)
 else .error i:=by
 by_cases hs:zn_ (bt s i)=true
 ·have hl:=zl_ (ve_ hs);unfold zer;rw[show s.size+1-i=(s.size-i)+1 by omega]
  conv=>lhs;unfold za8
  rw[if_pos hs,if_pos hs];split
  ·rename_i h44;have:=zl_ (s:=s) (i:=i+1) (by omega);have hf:=zmp s (s.size+1-(i+2)) (i+2) (s.size-i-(s.size+1-(i+2))) (by omega);rw[show s.size+1-(i+2)+(s.size-i-(s.size+1-(i+2)))=s.size-i by omega] at hf;rw[hf];try rfl
  ·rfl
 ·rw[if_neg hs];unfold zer
  cases s.size+1-i with
  | zero=>rfl
  | succ n=>unfold za8;rw[if_neg hs]
theorem zny (s:BA) (ds:List (Nat×Nat)) (i:Nat):zhz s ds (zer s i) =
 if zn_ (bt s i) then
  if bt s (i+1)=44 then zhz s (ds++[(bt s i,i)]) (zer s (i+2)) else finE s (ds++[(bt s i,i)]) (i+1)
 else .error i:=by
 rw[zpp];split
 ·split
  ·cases zer s (i+2) with
   | error k=>rfl
   | ok q=>simp[zhz]
  ·rfl
 ·rfl
inductive PB where
 | recd (fs:List PF)
 | enum (l:List (Nat×Nat)) (o:Option (Nat×Nat))
 | bytes (n:Nat)
 deriving Inhabited
def v8_ (s:BA) (i:Nat):Except Nat (PB×Nat):=
 if bt s i=114 then
  match xy_ s (i+1) with
  | .error k=>.error k
  | .ok (ds,j)=>.ok (.recd ds,j)
 else if bt s i=101 then
  match za0 s (i+1) with
  | .error k=>.error k
  | .ok ((l,o),j)=>.ok (.enum l o,j)
 else if bt s i=102 then
  if 48<=bt s (i+1)/\bt s (i+1)<=57 then .ok (.bytes (bt s (i+1)-48),i+2) else .error (i+1)
 else .error i
structure PD where
 letter:Nat
 place:Nat
 body:PB
 deriving Inhabited
def xz_ (s:BA):Nat->Nat->Except Nat (List PD×Nat)
 | 0,i=>.ok ([],i)
 | n+1,i=>
  if z0_ (bt s i)=true/\i+1<s.size then
   if bt s (i+1)=61 then
    match v8_ s (i+2) with
    | .error k=>.error k
    | .ok (pb,j)=>
     if bt s j=59 then
      match xz_ s n (j+1) with
      | .error k=>.error k
      | .ok (ds,e)=>.ok (⟨bt s i,i,pb⟩::ds,e)
     else .error j
   else .error (i+1)
  else .ok ([],i)
def zq_ (s:BA):Except Nat (List PD×PT):=
 match xz_ s 6 0 with
 | .error k=>.error k
 | .ok (ds,i)=>
  match pT s i with
  | .error k=>.error k
  | .ok (t,j)=>if j<s.size then .error j else .ok (ds,t)
def zek (ds:List PD):Except Nat (List PD×Nat)->Except Nat (List PD×Nat)
 | .error k=>.error k
 | .ok (r,j)=>.ok (ds++r,j)
theorem zq8 (x:Except Nat (List PD×Nat)):zek [] x=x:=by
 match x with
 | .error k=>rfl
 | .ok (r,j)=>rfl
theorem zhg (s:BA) (n i:Nat) (ds:List PD):zek ds (xz_ s (n+1) i) =
 if z0_ (bt s i)=true/\i+1<s.size then
  if bt s (i+1)=61 then
   match v8_ s (i+2) with
   | .error k=>.error k
   | .ok (pb,j)=>if bt s j=59 then zek (ds++[⟨bt s i,i,pb⟩]) (xz_ s n (j+1)) else .error j
  else .error (i+1)
 else .ok (ds,i):=by
 conv=>lhs;unfold xz_
 split
 ·split
  ·cases v8_ s (i+2) with
   | error k=>rfl
   | ok q=>
    obtain⟨pb,j⟩:=q;simp only;split
    ·cases xz_ s n (j+1) with
     | error k=>rfl
     | ok q=>simp[zek]
    ·rfl
  ·rfl
 ·simp[zek]
end Go.Proofs.YthmjjpkjgjklmaaGreatDoor
