import Derived.Test.YtiifagiebikmdaaGreatDoorRows
namespace Go.Proofs.YtiifagiebikmdaaGreatDoor
def bt (s:ByteArray) (i:Nat):Nat:=if h:i<s.size then (s[i]'h).toNat else 0
theorem bt_lt (s:ByteArray) (i:Nat):bt s i<256:=by
 unfold bt;split
 ·exact UInt8.toNat_lt _
 ·omega
theorem bt_pos {s:ByteArray}{i:Nat}(h:0<bt s i):i<s.size:=by
 unfold bt at h;split at h
 ·assumption
 ·omega
theorem bt_eq (s:ByteArray) (i:Nat) (h:i<s.size):bt s i=(s[i]'h).toNat:=by unfold bt;rw[dif_pos h]
theorem bt_end {s:ByteArray}{i:Nat}(h:s.size≤i):bt s i=0:=by unfold bt;rw[dif_neg (by omega)]
inductive PT where
 | leaf (c:Nat) (p:Nat)
 | wrap (c:Nat) (p:Nat) (t:PT)
 | alts (p:Nat) (ts:List PT)
 deriving Inhabited
def isBase (c:Nat):Bool:=c==110||c==116||c==105||c==108||c==115
def isName (c:Nat):Bool:=decide (65≤c)&&decide (c≤70)
def isSmall (c:Nat):Bool:=decide (97≤c)&&decide (c≤122)
def closing (c:Nat):Nat:=if c==123 then 125 else 93
mutual
def pTyp (s:ByteArray):Nat→Nat→Except Nat (PT×Nat)
 | 0,i=>.error i
 | f+1,i=>
  if isBase (bt s i) then .ok (.leaf (bt s i) i,i+1)
  else if bt s i=91∨bt s i=123 then
   match pTyp s f (i+1) with
   | .error k=>.error k
   | .ok (t,j)=>if bt s j=closing (bt s i) then .ok (.wrap (bt s i) i t,j+1) else .error j
  else if bt s i=40 then
   match pAlts s f (i+1) with
   | .error k=>.error k
   | .ok (ts,j)=>if bt s j=41 then .ok (.alts i ts,j+1) else .error j
  else if isName (bt s i) then .ok (.leaf (bt s i) i,i+1)
  else .error i
def pAlts (s:ByteArray):Nat→Nat→Except Nat (List PT×Nat)
 | 0,i=>.error i
 | f+1,i=>
  match pTyp s f i with
  | .error k=>.error k
  | .ok (t,j)=>
   if bt s j=44 then
    match pAlts s f (j+1) with
    | .error k=>.error k
    | .ok (ts,k)=>.ok (t::ts,k)
   else .ok ([t],j)
end
def stepT (s:ByteArray) (T:Nat→Except Nat (PT×Nat)) (A:Nat→Except Nat (List PT×Nat)) (i:Nat):Except Nat (PT×Nat):=
 if isBase (bt s i) then .ok (.leaf (bt s i) i,i+1)
 else if bt s i=91∨bt s i=123 then
  match T (i+1) with
  | .error k=>.error k
  | .ok (t,j)=>if bt s j=closing (bt s i) then .ok (.wrap (bt s i) i t,j+1) else .error j
 else if bt s i=40 then
  match A (i+1) with
  | .error k=>.error k
  | .ok (ts,j)=>if bt s j=41 then .ok (.alts i ts,j+1) else .error j
 else if isName (bt s i) then .ok (.leaf (bt s i) i,i+1)
 else .error i
def stepA (s:ByteArray) (T:Nat→Except Nat (PT×Nat)) (A:Nat→Except Nat (List PT×Nat)) (i:Nat):Except Nat (List PT×Nat):=
 match T i with
 | .error k=>.error k
 | .ok (t,j)=>
  if bt s j=44 then
   match A (j+1) with
   | .error k=>.error k
   | .ok (ts,k)=>.ok (t::ts,k)
  else .ok ([t],j)
theorem pTyp_succ (s:ByteArray) (f i:Nat):pTyp s (f+1) i=stepT s (pTyp s f) (pAlts s f) i:=by rw[pTyp];rfl
theorem pAlts_succ (s:ByteArray) (f i:Nat):pAlts s (f+1) i=stepA s (pTyp s f) (pAlts s f) i:=by rw[pAlts];rfl
theorem isBase_pos {c:Nat}(h:isBase c=true):0<c:=by
 simp only[isBase,Bool.or_eq_true,beq_iff_eq] at h;omega
theorem isName_pos {c:Nat}(h:isName c=true):0<c:=by
 simp only[isName,Bool.and_eq_true,decide_eq_true_eq] at h;omega
theorem p_bounds (s:ByteArray) (f:Nat) :
 (∀ i,i≤s.size→(∀ t j,pTyp s f i=.ok (t,j)→i<j∧j≤s.size)∧(∀ k,pTyp s f i=.error k→i≤k∧k≤s.size))∧
 (∀ i,i≤s.size→(∀ t j,pAlts s f i=.ok (t,j)→i<j∧j≤s.size)∧(∀ k,pAlts s f i=.error k→i≤k∧k≤s.size)):=by
 induction f with
 | zero=>exact⟨fun i hi=>⟨fun t j h=>by simp[pTyp] at h,fun k h=>by simp[pTyp] at h;omega⟩,fun i hi=>⟨fun t j h=>by simp[pAlts] at h,fun k h=>by simp[pAlts] at h;omega⟩⟩
 | succ f ih=>
  obtain⟨ihT,ihA⟩:=ih
  refine⟨fun i hi=>?_,fun i hi=>?_⟩
  ·rw[pTyp]
   split
   ·rename_i hb
    have:=bt_pos (isBase_pos hb)
    exact⟨fun t j h=>by simp only[Except.ok.injEq,Prod.mk.injEq] at h;omega,fun k h=>by cases h⟩
   ·split
    ·rename_i hb
     have hl:=bt_pos (s:=s) (i:=i) (by omega)
     have:=ihT (i+1) (by omega)
     cases hp:pTyp s f (i+1) with
     | error k=>exact⟨fun t j h=>by simp at h,fun k' h=>by simp at h;have:=this.2 k hp;omega⟩
     | ok r=>
      obtain⟨t,j⟩:=r
      have:=this.1 t j hp
      simp only
      split
      ·rename_i hc
       have hj:=bt_pos (s:=s) (i:=j) (by rw[hc];unfold closing;split <;> omega)
       exact⟨fun t j h=>by simp only[Except.ok.injEq,Prod.mk.injEq] at h;omega,fun k h=>by cases h⟩
      ·exact⟨fun t j h=>(nomatch h),fun k h=>by simp only[Except.error.injEq] at h;omega⟩
    ·split
     ·rename_i hb
      have hl:=bt_pos (s:=s) (i:=i) (by omega)
      have:=ihA (i+1) (by omega)
      cases hp:pAlts s f (i+1) with
      | error k=>exact⟨fun t j h=>by simp at h,fun k' h=>by simp at h;have:=this.2 k hp;omega⟩
      | ok r=>
       obtain⟨t,j⟩:=r
       have:=this.1 t j hp
       simp only
       split
       ·rename_i hc
        have hj:=bt_pos (s:=s) (i:=j) (by omega)
        exact⟨fun t j h=>by simp only[Except.ok.injEq,Prod.mk.injEq] at h;omega,fun k h=>by cases h⟩
       ·exact⟨fun t j h=>(nomatch h),fun k h=>by simp only[Except.error.injEq] at h;omega⟩
     ·split
      ·rename_i hb
       have:=bt_pos (isName_pos hb)
       exact⟨fun t j h=>by simp only[Except.ok.injEq,Prod.mk.injEq] at h;omega,fun k h=>by cases h⟩
      ·exact⟨fun t j h=>(nomatch h),fun k h=>by simp only[Except.error.injEq] at h;omega⟩
  ·rw[pAlts]
   have hT:=ihT i hi
   cases hp:pTyp s f i with
   | error k=>exact⟨fun t j h=>by simp at h,fun k' h=>by simp at h;have:=hT.2 k hp;omega⟩
   | ok r=>
    obtain⟨t,j⟩:=r
    have h1:=hT.1 t j hp
    simp only
    split
    ·rename_i hc
     have hj:=bt_pos (s:=s) (i:=j) (by omega)
     have hA:=ihA (j+1) (by omega)
     cases hq:pAlts s f (j+1) with
     | error k=>exact⟨fun t j h=>by simp at h,fun k' h=>by simp at h;have:=hA.2 k hq;omega⟩
     | ok r=>
      obtain⟨ts,k⟩:=r
      have:=hA.1 ts k hq
      exact⟨fun t j h=>by simp only[Except.ok.injEq,Prod.mk.injEq] at h;omega,fun k h=>by cases h⟩
    ·exact⟨fun t j h=>by simp only[Except.ok.injEq,Prod.mk.injEq] at h;omega,fun k h=>by cases h⟩
theorem stepT_congr {s:ByteArray}{T T':Nat→Except Nat (PT×Nat)}{A A':Nat→Except Nat (List PT×Nat)}{i:Nat}(hT:i<s.size→T (i+1)=T' (i+1)) (hA:i<s.size→A (i+1)=A' (i+1)):stepT s T A i=stepT s T' A' i:=by
 unfold stepT
 split
 ·rfl
 ·split
  ·rename_i hb
   rw[hT (bt_pos (by omega))]
  ·split
   ·rename_i hb
    rw[hA (bt_pos (by omega))]
   ·rfl
theorem stepA_congr {s:ByteArray}{T T':Nat→Except Nat (PT×Nat)}{A A':Nat→Except Nat (List PT×Nat)}{i:Nat}(hT:T i=T' i) (hA:∀ t j,T' i=.ok (t,j)→j<s.size→A (j+1)=A' (j+1)):stepA s T A i=stepA s T' A' i:=by
 unfold stepA
 rw[hT]
 cases hp:T' i with
 | error k=>rfl
 | ok r=>
  obtain⟨t,j⟩:=r
  simp only
  split
  ·rename_i hc
   rw[hA t j hp (bt_pos (by omega))]
  ·rfl
theorem p_fuel (s:ByteArray) (f:Nat) :
 (∀ i,i≤s.size→2*(s.size-i)<f→pTyp s (f+1) i=pTyp s f i)∧
 (∀ i,i≤s.size→2*(s.size-i)+1<f→pAlts s (f+1) i=pAlts s f i):=by
 induction f with
 | zero=>exact⟨fun i _ h=>by omega,fun i _ h=>by omega⟩
 | succ f ih=>
  obtain⟨ihT,ihA⟩:=ih
  refine⟨fun i hi h=>?_,fun i hi h=>?_⟩
  ·rw[pTyp_succ s (f+1),pTyp_succ s f]
   exact stepT_congr (fun hl=>ihT (i+1) (by omega) (by omega)) (fun hl=>ihA (i+1) (by omega) (by omega))
  ·rw[pAlts_succ s (f+1),pAlts_succ s f]
   refine stepA_congr (ihT i hi (by omega)) (fun t j hp hl=>?_)
   have h1:=((p_bounds s f).1 i hi).1 t j hp
   exact ihA (j+1) (by omega) (by omega)
theorem p_fuel_more (s:ByteArray) (i:Nat) (hi:i≤s.size) (f:Nat) (d:Nat) :
 (2*(s.size-i)<f→pTyp s (f+d) i=pTyp s f i)∧(2*(s.size-i)+1<f→pAlts s (f+d) i=pAlts s f i):=by
 induction d with
 | zero=>exact⟨fun _=>rfl,fun _=>rfl⟩
 | succ d ih=>
  refine⟨fun h=>?_,fun h=>?_⟩
  ·rw[← Nat.add_assoc,(p_fuel s (f+d)).1 i hi (by omega),ih.1 h]
  ·rw[← Nat.add_assoc,(p_fuel s (f+d)).2 i hi (by omega),ih.2 h]
def pT (s:ByteArray) (i:Nat):Except Nat (PT×Nat):=pTyp s (2*s.size+2) i
def pA (s:ByteArray) (i:Nat):Except Nat (List PT×Nat):=pAlts s (2*s.size+3) i
theorem pT_bounds {s:ByteArray}{i:Nat}(hi:i≤s.size):(∀ t j,pT s i=.ok (t,j)→i<j∧j≤s.size)∧(∀ k,pT s i=.error k→i≤k∧k≤s.size):=(p_bounds s _).1 i hi
theorem pT_eq (s:ByteArray) (i:Nat):pT s i=stepT s (pT s) (pA s) i:=by
 show pTyp s (2*s.size+1+1) i=_
 rw[pTyp_succ]
 refine stepT_congr (fun hl=>?_) (fun hl=>?_)
 ·exact((p_fuel_more s (i+1) (by omega) (2*s.size+1) 1).1 (by omega)).symm
 ·exact((p_fuel_more s (i+1) (by omega) (2*s.size+1) 2).2 (by omega)).symm
theorem pA_eq (s:ByteArray) (i:Nat) (hi:i≤s.size):pA s i=stepA s (pT s) (pA s) i:=by
 show pAlts s (2*s.size+2+1) i=_
 rw[pAlts_succ]
 refine stepA_congr rfl (fun t j hp hl=>?_)
 have h1:=(pT_bounds hi).1 t j hp
 exact((p_fuel_more s (j+1) (by omega) (2*s.size+2) 1).2 (by omega)).symm
structure TR where
 kind:Nat
 subs:List Nat
 deriving Inhabited
def PT.kind:PT→Nat
 | .leaf c _=>c
 | .wrap c _ _=>c
 | .alts _ _=>40
def PT.place:PT→Nat
 | .leaf _ p=>p
 | .wrap _ p _=>p
 | .alts p _=>p
mutual
def flat (b:Nat):PT→List TR
 | .leaf c _=>[⟨c,[]⟩]
 | .wrap c _ t=>flat b t++[⟨c,[b+(flat b t).length-1]⟩]
 | .alts _ ts=>flats b ts++[⟨40,nums b ts⟩]
def flats (b:Nat):List PT→List TR
 | []=>[]
 | t::r=>flat b t++flats (b+(flat b t).length) r
def nums (b:Nat):List PT→List Nat
 | []=>[]
 | t::r=>(b+(flat b t).length-1)::nums (b+(flat b t).length) r
end
mutual
def usesOf:PT→List (Nat×Nat)
 | .leaf c p=>if isBase c then [] else [(c,p)]
 | .wrap _ _ t=>usesOf t
 | .alts _ ts=>usesAll ts
def usesAll:List PT→List (Nat×Nat)
 | []=>[]
 | t::r=>usesOf t++usesAll r
end
def mixOne (seen:List Nat) (t:PT) (m:Int):Int:=if (t.kind=40∨t.kind∈seen)∧(m<0∨(t.place:Int)<m) then (t.place:Int) else m
mutual
def mix:PT→Int→Int
 | .leaf _ _,m=>m
 | .wrap _ _ t,m=>mix t m
 | .alts _ ts,m=>mixs [] ts m
def mixs (seen:List Nat):List PT→Int→Int
 | [],m=>m
 | t::r,m=>mixs (seen++[t.kind]) r (mixOne seen t (mix t m))
end
def ahead (ds:List PT):Except Nat (List PT×Nat)→Except Nat (List PT×Nat)
 | .error k=>.error k
 | .ok (r,j)=>.ok (ds++r,j)
theorem ahead_nil (x:Except Nat (List PT×Nat)):ahead [] x=x:=by
 match x with
 | .error k=>rfl
 | .ok (r,j)=>rfl
theorem ahead_ahead (ds es:List PT) (x:Except Nat (List PT×Nat)):ahead ds (ahead es x)=ahead (ds++es) x:=by
 match x with
 | .error k=>rfl
 | .ok (r,j)=>simp[ahead]
theorem pA_step (s:ByteArray) (i:Nat) (hi:i≤s.size):pA s i =
 match pT s i with
 | .error k=>.error k
 | .ok (t,j)=>if bt s j=44 then ahead [t] (pA s (j+1)) else .ok ([t],j):=by
 rw[pA_eq s i hi]
 unfold stepA
 cases pT s i with
 | error k=>rfl
 | ok r=>
  obtain⟨t,j⟩:=r
  simp only
  split
  ·cases pA s (j+1) with
   | error k=>rfl
   | ok r=>rfl
  ·rfl
def opens (c:Nat):Bool:=c==40||c==91||c==123||c==60
def closes (c:Nat):Bool:=c==41||c==93||c==125||c==62
def level (c o:Nat):Nat:=if opens c then o+1 else if closes c then o-1 else o
def pDef (s:ByteArray):Nat→Nat→Nat→Option Nat
 | 0,_,_=>none
 | n+1,i,o=>if o=0∧(bt s i=44∨bt s i=41) then some i else pDef s n (i+1) (level (bt s i) o)
def pD (s:ByteArray) (i o:Nat):Option Nat:=pDef s (s.size-i) i o
theorem pD_end {s:ByteArray}{i o:Nat}(h:s.size≤i):pD s i o=none:=by
 unfold pD;rw[show s.size-i=0 by omega];rfl
theorem pD_step {s:ByteArray}{i:Nat}(o:Nat) (h:i<s.size):pD s i o=if o=0∧(bt s i=44∨bt s i=41) then some i else pD s (i+1) (level (bt s i) o):=by
 unfold pD
 rw[show s.size-i=(s.size-(i+1))+1 by omega]
 rfl
theorem pDef_bounds (s:ByteArray) (n:Nat):∀ i o e,pDef s n i o=some e→i≤e∧e<i+n:=by
 induction n with
 | zero=>intro i o e h;simp[pDef] at h
 | succ n ih=>
  intro i o e h
  unfold pDef at h
  split at h
  ·simp only[Option.some.injEq] at h;omega
  ·have:=ih _ _ _ h;omega
theorem pD_bounds {s:ByteArray}{i o e:Nat}(h:pD s i o=some e):i≤e∧e<s.size:=by
 have:=pDef_bounds s _ i o e h
 omega
structure PF where
 letter:Nat
 place:Nat
 ty:PT
 dflt:Option (Nat×Nat)
 deriving Inhabited
def pField (s:ByteArray) (i:Nat):Except Nat (PF×Nat):=
 if isSmall (bt s i) then
  if bt s (i+1)=58 then
   match pT s (i+2) with
   | .error k=>.error k
   | .ok (t,j)=>
    if bt s j=61 then
     match pD s (j+1) 0 with
     | none=>.error s.size
     | some e=>.ok (⟨bt s i,i,t,some (j+1,e)⟩,e)
    else .ok (⟨bt s i,i,t,none⟩,j)
  else .error (i+1)
 else .error i
theorem isSmall_pos {c:Nat}(h:isSmall c=true):0<c:=by
 simp only[isSmall,Bool.and_eq_true,decide_eq_true_eq] at h;omega
theorem pField_bounds {s:ByteArray}{i:Nat}(hi:i≤s.size):(∀ f j,pField s i=.ok (f,j)→i+2<j∧j≤s.size)∧(∀ k,pField s i=.error k→i≤k∧k≤s.size):=by
 unfold pField
 split
 ·rename_i h1
  have l1:=bt_pos (isSmall_pos h1)
  split
  ·rename_i h2
   have l2:=bt_pos (s:=s) (i:=i+1) (by omega)
   have hb:=pT_bounds (s:=s) (i:=i+2) (by omega)
   cases hp:pT s (i+2) with
   | error k=>exact⟨fun f j h=>(nomatch h),fun k' h=>by simp only[Except.error.injEq] at h;have:=hb.2 k hp;omega⟩
   | ok r=>
    obtain⟨t,j⟩:=r
    have:=hb.1 t j hp
    simp only
    split
    ·cases hd:pD s (j+1) 0 with
     | none=>exact⟨fun f j h=>(nomatch h),fun k' h=>by simp only[Except.error.injEq] at h;omega⟩
     | some e=>
      have:=pD_bounds hd
      exact⟨fun f j h=>by simp only[Except.ok.injEq,Prod.mk.injEq] at h;omega,fun k' h=>(nomatch h)⟩
    ·exact⟨fun f j h=>by simp only[Except.ok.injEq,Prod.mk.injEq] at h;omega,fun k' h=>(nomatch h)⟩
  ·exact⟨fun f j h=>(nomatch h),fun k' h=>by simp only[Except.error.injEq] at h;omega⟩
 ·exact⟨fun f j h=>(nomatch h),fun k' h=>by simp only[Except.error.injEq] at h;omega⟩
def pFieldsN (s:ByteArray):Nat→Nat→Except Nat (List PF×Nat)
 | 0,i=>.error i
 | n+1,i=>
  match pField s i with
  | .error k=>.error k
  | .ok (f,j)=>
   if bt s j=41 then .ok ([f],j+1)
   else if bt s j=44 then
    match pFieldsN s n (j+1) with
    | .error k=>.error k
    | .ok (fs,k)=>.ok (f::fs,k)
   else .error j
def pFields (s:ByteArray) (i:Nat):Except Nat (List PF×Nat):=pFieldsN s (s.size+1-i) i
def aheadF (ds:List PF):Except Nat (List PF×Nat)→Except Nat (List PF×Nat)
 | .error k=>.error k
 | .ok (r,j)=>.ok (ds++r,j)
theorem aheadF_nil (x:Except Nat (List PF×Nat)):aheadF [] x=x:=by
 match x with
 | .error k=>rfl
 | .ok (r,j)=>rfl
theorem aheadF_aheadF (ds es:List PF) (x:Except Nat (List PF×Nat)):aheadF ds (aheadF es x)=aheadF (ds++es) x:=by
 match x with
 | .error k=>rfl
 | .ok (r,j)=>simp[aheadF]
theorem pFieldsN_fuel (s:ByteArray) (n:Nat):∀ i d,i≤s.size→s.size-i<n→pFieldsN s (n+d) i=pFieldsN s n i:=by
 induction n with
 | zero=>intro i d hi h;omega
 | succ n ih=>
  intro i d hi h
  rw[show n+1+d=(n+d)+1 by omega]
  unfold pFieldsN
  cases hp:pField s i with
  | error k=>rfl
  | ok r=>
   obtain⟨f,j⟩:=r
   have hb:=(pField_bounds hi).1 f j hp
   simp only
   split
   ·rfl
   ·split
    ·rename_i h44
     have:=bt_pos (s:=s) (i:=j) (by omega)
     rw[ih (j+1) d (by omega) (by omega)]
    ·rfl
theorem pFields_step (s:ByteArray) (i:Nat) (hi:i≤s.size):pFields s i =
 match pField s i with
 | .error k=>.error k
 | .ok (f,j)=>if bt s j=41 then .ok ([f],j+1) else if bt s j=44 then aheadF [f] (pFields s (j+1)) else .error j:=by
 unfold pFields
 rw[show s.size+1-i=(s.size-i)+1 by omega]
 conv=>lhs;unfold pFieldsN
 cases hp:pField s i with
 | error k=>rfl
 | ok r=>
  obtain⟨f,j⟩:=r
  have hb:=(pField_bounds hi).1 f j hp
  simp only
  split
  ·rfl
  ·split
   ·rename_i h44
    have:=bt_pos (s:=s) (i:=j) (by omega)
    have hf:=pFieldsN_fuel s (s.size+1-(j+1)) (j+1) (s.size-i-(s.size+1-(j+1))) (by omega) (by omega)
    rw[show s.size+1-(j+1)+(s.size-i-(s.size+1-(j+1)))=s.size-i by omega] at hf
    rw[hf]
    cases pFieldsN s (s.size+1-(j+1)) (j+1) with
    | error k=>rfl
    | ok r=>rfl
   ·rfl
def pRecord (s:ByteArray) (i:Nat):Except Nat (List PF×Nat):=
 if bt s i=40 then
  if bt s (i+1)=41 then .ok ([],i+2) else pFields s (i+1)
 else .error i
def pSymsN (s:ByteArray):Nat→Nat→Except Nat (List (Nat×Nat)×Nat)
 | 0,i=>.error i
 | n+1,i=>
  if isSmall (bt s i) then
   if bt s (i+1)=44 then
    match pSymsN s n (i+2) with
    | .error k=>.error k
    | .ok (l,k)=>.ok ((bt s i,i)::l,k)
   else .ok ([(bt s i,i)],i+1)
  else .error i
def pSyms (s:ByteArray) (i:Nat):Except Nat (List (Nat×Nat)×Nat):=pSymsN s (s.size+1-i) i
def pEnum (s:ByteArray) (i:Nat):Except Nat ((List (Nat×Nat)×Option (Nat×Nat))×Nat):=
 if bt s i=40 then
  match pSyms s (i+1) with
  | .error k=>.error k
  | .ok (l,j)=>
   if bt s j=33 then
    if isSmall (bt s (j+1)) then
     if bt s (j+2)=41 then .ok ((l,some (bt s (j+1),j+1)),j+3) else .error (j+2)
    else .error (j+1)
   else if bt s j=41 then .ok ((l,none),j+1) else .error j
 else .error i
def finE (s:ByteArray) (l:List (Nat×Nat)) (j:Nat):Except Nat ((List (Nat×Nat)×Option (Nat×Nat))×Nat):=
 if bt s j=33 then
  if isSmall (bt s (j+1)) then
   if bt s (j+2)=41 then .ok ((l,some (bt s (j+1),j+1)),j+3) else .error (j+2)
  else .error (j+1)
 else if bt s j=41 then .ok ((l,none),j+1) else .error j
def aheadS (s:ByteArray) (ds:List (Nat×Nat)):Except Nat (List (Nat×Nat)×Nat)→Except Nat ((List (Nat×Nat)×Option (Nat×Nat))×Nat)
 | .error k=>.error k
 | .ok (l,j)=>finE s (ds++l) j
theorem pEnum_eq (s:ByteArray) (i:Nat):pEnum s i=if bt s i=40 then aheadS s [] (pSyms s (i+1)) else .error i:=by
 unfold pEnum
 split
 ·cases pSyms s (i+1) with
  | error k=>rfl
  | ok q=>rfl
 ·rfl
theorem pSymsN_fuel (s:ByteArray) (n:Nat):∀ i d,s.size-i<n→pSymsN s (n+d) i=pSymsN s n i:=by
 induction n with
 | zero=>intro i d h;omega
 | succ n ih=>
  intro i d h
  rw[show n+1+d=(n+d)+1 by omega]
  unfold pSymsN
  split
  ·rename_i hs
   have:=bt_pos (isSmall_pos hs)
   split
   ·rw[ih (i+2) d (by omega)]
   ·rfl
  ·rfl
theorem pSyms_step (s:ByteArray) (i:Nat):pSyms s i =
 if isSmall (bt s i) then
  if bt s (i+1)=44 then
   match pSyms s (i+2) with
   | .error k=>.error k
   | .ok (l,k)=>.ok ((bt s i,i)::l,k)
  else .ok ([(bt s i,i)],i+1)
 else .error i:=by
 by_cases hs:isSmall (bt s i)=true
 ·have hl:=bt_pos (isSmall_pos hs)
  unfold pSyms
  rw[show s.size+1-i=(s.size-i)+1 by omega]
  conv=>lhs;unfold pSymsN
  rw[if_pos hs,if_pos hs]
  split
  ·rename_i h44
   have:=bt_pos (s:=s) (i:=i+1) (by omega)
   have hf:=pSymsN_fuel s (s.size+1-(i+2)) (i+2) (s.size-i-(s.size+1-(i+2))) (by omega)
   rw[show s.size+1-(i+2)+(s.size-i-(s.size+1-(i+2)))=s.size-i by omega] at hf
   rw[hf];try rfl
  ·rfl
 ·rw[if_neg hs]
  unfold pSyms
  cases s.size+1-i with
  | zero=>rfl
  | succ n=>unfold pSymsN;rw[if_neg hs]
theorem aheadS_step (s:ByteArray) (ds:List (Nat×Nat)) (i:Nat):aheadS s ds (pSyms s i) =
 if isSmall (bt s i) then
  if bt s (i+1)=44 then aheadS s (ds++[(bt s i,i)]) (pSyms s (i+2)) else finE s (ds++[(bt s i,i)]) (i+1)
 else .error i:=by
 rw[pSyms_step]
 split
 ·split
  ·cases pSyms s (i+2) with
   | error k=>rfl
   | ok q=>simp[aheadS]
  ·rfl
 ·rfl
inductive PB where
 | recd (fs:List PF)
 | enum (l:List (Nat×Nat)) (o:Option (Nat×Nat))
 | bytes (n:Nat)
 deriving Inhabited
def pDefn (s:ByteArray) (i:Nat):Except Nat (PB×Nat):=
 if bt s i=114 then
  match pRecord s (i+1) with
  | .error k=>.error k
  | .ok (ds,j)=>.ok (.recd ds,j)
 else if bt s i=101 then
  match pEnum s (i+1) with
  | .error k=>.error k
  | .ok ((l,o),j)=>.ok (.enum l o,j)
 else if bt s i=102 then
  if 48≤bt s (i+1)∧bt s (i+1)≤57 then .ok (.bytes (bt s (i+1)-48),i+2) else .error (i+1)
 else .error i
structure PD where
 letter:Nat
 place:Nat
 body:PB
 deriving Inhabited
def pDefsN (s:ByteArray):Nat→Nat→Except Nat (List PD×Nat)
 | 0,i=>.ok ([],i)
 | n+1,i=>
  if isName (bt s i)=true∧i+1<s.size then
   if bt s (i+1)=61 then
    match pDefn s (i+2) with
    | .error k=>.error k
    | .ok (pb,j)=>
     if bt s j=59 then
      match pDefsN s n (j+1) with
      | .error k=>.error k
      | .ok (ds,e)=>.ok (⟨bt s i,i,pb⟩::ds,e)
     else .error j
   else .error (i+1)
  else .ok ([],i)
def pSchema (s:ByteArray):Except Nat (List PD×PT):=
 match pDefsN s 6 0 with
 | .error k=>.error k
 | .ok (ds,i)=>
  match pT s i with
  | .error k=>.error k
  | .ok (t,j)=>if j<s.size then .error j else .ok (ds,t)
def aheadD (ds:List PD):Except Nat (List PD×Nat)→Except Nat (List PD×Nat)
 | .error k=>.error k
 | .ok (r,j)=>.ok (ds++r,j)
theorem aheadD_nil (x:Except Nat (List PD×Nat)):aheadD [] x=x:=by
 match x with
 | .error k=>rfl
 | .ok (r,j)=>rfl
theorem pDefs_step (s:ByteArray) (n i:Nat) (ds:List PD):aheadD ds (pDefsN s (n+1) i) =
 if isName (bt s i)=true∧i+1<s.size then
  if bt s (i+1)=61 then
   match pDefn s (i+2) with
   | .error k=>.error k
   | .ok (pb,j)=>if bt s j=59 then aheadD (ds++[⟨bt s i,i,pb⟩]) (pDefsN s n (j+1)) else .error j
  else .error (i+1)
 else .ok (ds,i):=by
 conv=>lhs;unfold pDefsN
 split
 ·split
  ·cases pDefn s (i+2) with
   | error k=>rfl
   | ok q=>
    obtain⟨pb,j⟩:=q
    simp only
    split
    ·cases pDefsN s n (j+1) with
     | error k=>rfl
     | ok q=>simp[aheadD]
    ·rfl
  ·rfl
 ·simp[aheadD]
end Go.Proofs.YtiifagiebikmdaaGreatDoor
