import Derived.Test.YtiifagiebikmdaaGreatDoorRows
import Derived.Test.YtiifagiebikmdaaGreatDoorA00
set_option maxHeartbeats 16000000
set_option maxRecDepth 100000
set_option linter.unusedSimpArgs false
namespace Go.Proofs.YtiifagiebikmdaaGreatDoor
variable {s:BA}{i c j:Nat}
def bt (s:BA) (i:Nat):Nat:=if h:i<s.size then (s[i]'h).toNat else 0
theorem zf4 (s:BA) (i:Nat):bt s i<256:=by
 unfold bt;split
 ·exact UInt8.toNat_lt _
 ·omega
theorem zj_ (h:0<bt s i):i<s.size:=by
 unfold bt at h;split at h
 ·assumption
 ·omega
theorem j5_ (s:BA) (i:Nat) (h:i<s.size):bt s i=(s[i]'h).toNat:=by unfold bt;rw[dif_pos h]
theorem zf5 (h:s.size<=i):bt s i=0:=by unfold bt;rw[dif_neg (by omega)]
inductive PT where
 | leaf (c:Nat) (p:Nat)
 | wrap (c:Nat) (p:Nat) (t:PT)
 | alts (p:Nat) (ts:List PT)
 deriving Inhabited
def yc_ (c:Nat):Bool:=c==110||c==116||c==105||c==108||c==115
def z5_ (c:Nat):Bool:=decide (65<=c)&&decide (c<=70)
def zi_ (c:Nat):Bool:=decide (97<=c)&&decide (c<=122)
def xq_ (c:Nat):Nat:=if c==123 then 125 else 93
mutual
def pTyp (s:BA):Nat->Nat->Except Nat (PT×Nat)
 | 0,i=>.error i
 | f+1,i=>
  if yc_ (bt s i) then .ok (.leaf (bt s i) i,i+1)
  else if bt s i=91\/bt s i=123 then
   match pTyp s f (i+1) with
   | .error k=>.error k
   | .ok (t,j)=>if bt s j=xq_ (bt s i) then .ok (.wrap (bt s i) i t,j+1) else .error j
  else if bt s i=40 then
   match x0_ s f (i+1) with
   | .error k=>.error k
   | .ok (ts,j)=>if bt s j=41 then .ok (.alts i ts,j+1) else .error j
  else if z5_ (bt s i) then .ok (.leaf (bt s i) i,i+1)
  else .error i
def x0_ (s:BA):Nat->Nat->Except Nat (List PT×Nat)
 | 0,i=>.error i
 | f+1,i=>
  match pTyp s f i with
  | .error k=>.error k
  | .ok (t,j)=>
   if bt s j=44 then
    match x0_ s f (j+1) with
    | .error k=>.error k
    | .ok (ts,k)=>.ok (t::ts,k)
   else .ok ([t],j)
end
def za6 (s:BA) (T:Nat->Except Nat (PT×Nat)) (A:Nat->Except Nat (List PT×Nat)) (i:Nat):Except Nat (PT×Nat):=
 if yc_ (bt s i) then .ok (.leaf (bt s i) i,i+1)
 else if bt s i=91\/bt s i=123 then
  match T (i+1) with
  | .error k=>.error k
  | .ok (t,j)=>if bt s j=xq_ (bt s i) then .ok (.wrap (bt s i) i t,j+1) else .error j
 else if bt s i=40 then
  match A (i+1) with
  | .error k=>.error k
  | .ok (ts,j)=>if bt s j=41 then .ok (.alts i ts,j+1) else .error j
 else if z5_ (bt s i) then .ok (.leaf (bt s i) i,i+1)
 else .error i
def zgn (s:BA) (T:Nat->Except Nat (PT×Nat)) (A:Nat->Except Nat (List PT×Nat)) (i:Nat):Except Nat (List PT×Nat):=
 match T i with
 | .error k=>.error k
 | .ok (t,j)=>
  if bt s j=44 then
   match A (j+1) with
   | .error k=>.error k
   | .ok (ts,k)=>.ok (t::ts,k)
  else .ok ([t],j)
theorem jl_ (s:BA) (f i:Nat):pTyp s (f+1) i=za6 s (pTyp s f) (x0_ s f) i:=by rw[pTyp];rfl
theorem vr_ (s:BA) (f i:Nat):x0_ s (f+1) i=zgn s (pTyp s f) (x0_ s f) i:=by rw[x0_];rfl
theorem zg6 (h:yc_ c=true):0<c:=by
 simp only[yc_,ax_,beq_iff_eq] at h;omega
theorem zpb (h:z5_ c=true):0<c:=by
 simp only[z5_,a1_,decide_eq_true_eq] at h;omega
theorem zet (s:BA) (f:Nat) :
 (∀ i,i<=s.size->(∀ t j,pTyp s f i=.ok (t,j)->i<j/\j<=s.size)/\(∀ k,pTyp s f i=.error k->i<=k/\k<=s.size))/\
 (∀ i,i<=s.size->(∀ t j,x0_ s f i=.ok (t,j)->i<j/\j<=s.size)/\(∀ k,x0_ s f i=.error k->i<=k/\k<=s.size)):=by
 induction f with
 | zero=>exact⟨λ i b=>⟨λ t j h=>by simp[pTyp] at h,λ k h=>by simp[pTyp] at h;omega⟩,λ i b=>⟨λ t j h=>by simp[x0_] at h,λ k h=>by simp[x0_] at h;omega⟩⟩
 | succ f ih=>
  obtain⟨o,n⟩:=ih;refine⟨λ i b=>?_,λ i b=>?_⟩
  ·rw[pTyp];split
   ·rename_i hb;have:=zj_ (zg6 hb);exact⟨λ t j h=>by simp only[ae_,ad_] at h;omega,λ k h=>by cases h⟩
   ·split
    ·rename_i hb;have hl:=zj_ (s:=s) (i:=i) (by omega);have:=o (i+1) (by omega)
     cases a:pTyp s f (i+1) with
     | error k=>exact⟨λ t j h=>by simp at h,λ d h=>by simp at h;have:=this.2 k a;omega⟩
     | ok r=>
      obtain⟨t,j⟩:=r;have:=this.1 t j a;simp only;split
      ·rename_i hc;have l:=zj_ (s:=s) (i:=j) (by rw[hc];unfold xq_;split<;>omega);exact⟨λ t j h=>by simp only[ae_,ad_] at h;omega,λ k h=>by cases h⟩
      ·exact⟨λ t j h=>(nomatch h),λ k h=>by simp only[b1_] at h;omega⟩
    ·split
     ·rename_i hb;have hl:=zj_ (s:=s) (i:=i) (by omega);have:=n (i+1) (by omega)
      cases a:x0_ s f (i+1) with
      | error k=>exact⟨λ t j h=>by simp at h,λ d h=>by simp at h;have:=this.2 k a;omega⟩
      | ok r=>
       obtain⟨t,j⟩:=r;have:=this.1 t j a;simp only;split
       ·rename_i hc;have l:=zj_ (s:=s) (i:=j) (by omega);exact⟨λ t j h=>by simp only[ae_,ad_] at h;omega,λ k h=>by cases h⟩
       ·exact⟨λ t j h=>(nomatch h),λ k h=>by simp only[b1_] at h;omega⟩
     ·split
      ·rename_i hb;have:=zj_ (zpb hb);exact⟨λ t j h=>by simp only[ae_,ad_] at h;omega,λ k h=>by cases h⟩
      ·exact⟨λ t j h=>(nomatch h),λ k h=>by simp only[b1_] at h;omega⟩
  ·rw[x0_];have g:=o i b
   cases a:pTyp s f i with
   | error k=>exact⟨λ t j h=>by simp at h,λ d h=>by simp at h;have:=g.2 k a;omega⟩
   | ok r=>
    obtain⟨t,j⟩:=r;have h1:=g.1 t j a;simp only;split
    ·rename_i hc;have l:=zj_ (s:=s) (i:=j) (by omega);have e:=n (j+1) (by omega)
     cases m:x0_ s f (j+1) with
     | error k=>exact⟨λ t j h=>by simp at h,λ d h=>by simp at h;have:=e.2 k m;omega⟩
     | ok r=>
      obtain⟨ts,k⟩:=r;have:=e.1 ts k m;exact⟨λ t j h=>by simp only[ae_,ad_] at h;omega,λ k h=>by cases h⟩
    ·exact⟨λ t j h=>by simp only[ae_,ad_] at h;omega,λ k h=>by cases h⟩
theorem zfb {T b:Nat->Except Nat (PT×Nat)}{A a:Nat->Except Nat (List PT×Nat)}(e:i<s.size->T (i+1)=b (i+1)) (d:i<s.size->A (i+1)=a (i+1)):za6 s T A i=za6 s b a i:=by
 unfold za6;split
 ·rfl
 ·split
  ·rename_i hb;rw[e (zj_ (by omega))]
  ·split
   ·rename_i hb;rw[d (zj_ (by omega))]
   ·rfl
theorem zfc {T a:Nat->Except Nat (PT×Nat)}{A b:Nat->Except Nat (List PT×Nat)}(e:T i=a i) (d:∀ t j,a i=.ok (t,j)->j<s.size->A (j+1)=b (j+1)):zgn s T A i=zgn s a b i:=by
 unfold zgn;rw[e]
 cases f:a i with
 | error k=>rfl
 | ok r=>
  obtain⟨t,j⟩:=r;simp only;split
  ·rename_i hc;rw[d t j f (zj_ (by omega))]
  ·rfl
theorem zvd (s:BA) (f:Nat) :
 (∀ i,i<=s.size->2*(s.size-i)<f->pTyp s (f+1) i=pTyp s f i)/\
 (∀ i,i<=s.size->2*(s.size-i)+1<f->x0_ s (f+1) i=x0_ s f i):=by
 induction f with
 | zero=>exact⟨λ i _ h=>by omega,λ i _ h=>by omega⟩
 | succ f ih=>
  obtain⟨d,b⟩:=ih;refine⟨λ i a h=>?_,λ i a h=>?_⟩
  ·rw[jl_ s (f+1),jl_ s f];exact zfb (λ hl=>d (i+1) (by omega) (by omega)) (λ hl=>b (i+1) (by omega) (by omega))
  ·rw[vr_ s (f+1),vr_ s f];refine zfc (d i a (by omega)) (λ t j e hl=>?_);have h1:=((zet s f).1 i a).1 t j e;exact b (j+1) (by omega) (by omega)
theorem zb9 (s:BA) (i:Nat) (a:i<=s.size) (f:Nat) (d:Nat) :
 (2*(s.size-i)<f->pTyp s (f+d) i=pTyp s f i)/\(2*(s.size-i)+1<f->x0_ s (f+d) i=x0_ s f i):=by
 induction d with
 | zero=>exact⟨λ _=>rfl,λ _=>rfl⟩
 | succ d ih=>
  refine⟨λ h=>?_,λ h=>?_⟩
  ·rw[<- bv_,(zvd s (f+d)).1 i a (by omega),ih.1 h]
  ·rw[<- bv_,(zvd s (f+d)).2 i a (by omega),ih.2 h]
def pT (s:BA) (i:Nat):Except Nat (PT×Nat):=pTyp s (2*s.size+2) i
def pA (s:BA) (i:Nat):Except Nat (List PT×Nat):=x0_ s (2*s.size+3) i
theorem xz_ (a:i<=s.size):(∀ t j,pT s i=.ok (t,j)->i<j/\j<=s.size)/\(∀ k,pT s i=.error k->i<=k/\k<=s.size):=(zet s _).1 i a
theorem zjn (s:BA) (i:Nat):pT s i=za6 s (pT s) (pA s) i:=by
 show pTyp s (2*s.size+1+1) i=_;rw[jl_];refine zfb (λ hl=>?_) (λ hl=>?_)
 ·exact((zb9 s (i+1) (by omega) (2*s.size+1) 1).1 (by omega)).symm
 ·exact((zb9 s (i+1) (by omega) (2*s.size+1) 2).2 (by omega)).symm
theorem zzy (s:BA) (i:Nat) (a:i<=s.size):pA s i=zgn s (pT s) (pA s) i:=by
 show x0_ s (2*s.size+2+1) i=_;rw[vr_];refine zfc rfl (λ t j b hl=>?_);have h1:=(xz_ a).1 t j b;exact((zb9 s (j+1) (by omega) (2*s.size+2) 1).2 (by omega)).symm
structure TR where
 kind:Nat
 subs:List Nat
 deriving Inhabited
def PT.kind:PT->Nat
 | .leaf c _=>c
 | .wrap c _ _=>c
 | .alts _ _=>40
def PT.place:PT->Nat
 | .leaf _ p=>p
 | .wrap _ p _=>p
 | .alts p _=>p
mutual
def flat (b:Nat):PT->List TR
 | .leaf c _=>[⟨c,[]⟩]
 | .wrap c _ t=>flat b t++[⟨c,[b+(flat b t).length-1]⟩]
 | .alts _ ts=>yl_ b ts++[⟨40,nums b ts⟩]
def yl_ (b:Nat):List PT->List TR
 | []=>[]
 | t::r=>flat b t++yl_ (b+(flat b t).length) r
def nums (b:Nat):List PT->List Nat
 | []=>[]
 | t::r=>(b+(flat b t).length-1)::nums (b+(flat b t).length) r
end
mutual
def zr_:PT->List (Nat×Nat)
 | .leaf c p=>if yc_ c then [] else [(c,p)]
 | .wrap _ _ t=>zr_ t
 | .alts _ ts=>zs_ ts
def zs_:List PT->List (Nat×Nat)
 | []=>[]
 | t::r=>zr_ t++zs_ r
end
def zbf (seen:List Nat) (t:PT) (m:Int):Int:=if (t.kind=40\/t.kind∈seen)/\(m<0\/(t.place:Int)<m) then (t.place:Int) else m
mutual
def mix:PT->Int->Int
 | .leaf _ _,m=>m
 | .wrap _ _ t,m=>mix t m
 | .alts _ ts,m=>mixs [] ts m
def mixs (seen:List Nat):List PT->Int->Int
 | [],m=>m
 | t::r,m=>mixs (seen++[t.kind]) r (zbf seen t (mix t m))
end
theorem znn (b:Nat) (t:PT):0<(flat b t).length:=by
 cases t<;>simp[flat]
theorem zrz (b:Nat) (t:PT):((flat b t)[(flat b t).length-1]?).map TR.kind=some t.kind:=by
 cases t<;>simp[flat,PT.kind]
theorem zg8 (b:Nat) (ds:List PT) (t:PT):yl_ b (ds++[t])=yl_ b ds++flat (b+(yl_ b ds).length) t:=by
 induction ds generalizing b with
 | nil=>simp[yl_]
 | cons d r ih=>simp only[a4_,yl_,ih,bo_,ah_,bv_]
theorem zj0 (b:Nat) (ds:List PT) (t:PT):nums b (ds++[t])=nums b ds++[b+(yl_ b ds).length+(flat (b+(yl_ b ds).length) t).length-1]:=by
 induction ds generalizing b with
 | nil=>simp[yl_,nums]
 | cons d r ih=>simp only[a4_,yl_,nums,ih,ah_,bv_]
theorem zfr (b:Nat) (ds:List PT):(nums b ds).length=ds.length:=by
 induction ds generalizing b with
 | nil=>rfl
 | cons d r ih=>simp[nums,ih]
theorem zd9 (ds:List PT) (t:PT):zs_ (ds++[t])=zs_ ds++zr_ t:=by
 induction ds with
 | nil=>simp[zs_]
 | cons d r ih=>simp[zs_,ih]
theorem zrk (a:List Nat) (ds:List PT) (t:PT) (m:Int):mixs a (ds++[t]) m=zbf (a++ds.map PT.kind) t (mix t (mixs a ds m)):=by
 induction ds generalizing a m with
 | nil=>simp[mixs]
 | cons d r ih=>simp[mixs,ih]
def zir (ds:List PT):Except Nat (List PT×Nat)->Except Nat (List PT×Nat)
 | .error k=>.error k
 | .ok (r,j)=>.ok (ds++r,j)
theorem zk5 (x:Except Nat (List PT×Nat)):zir [] x=x:=by
 match x with
 | .error k=>rfl
 | .ok (r,j)=>rfl
theorem zgf (ds es:List PT) (x:Except Nat (List PT×Nat)):zir ds (zir es x)=zir (ds++es) x:=by
 match x with
 | .error k=>rfl
 | .ok (r,j)=>simp[zir]
theorem zl3 (s:BA) (i:Nat) (a:i<=s.size):pA s i =
 match pT s i with
 | .error k=>.error k
 | .ok (t,j)=>if bt s j=44 then zir [t] (pA s (j+1)) else .ok ([t],j):=by
 rw[zzy s i a];unfold zgn
 cases pT s i with
 | error k=>rfl
 | ok r=>
  obtain⟨t,j⟩:=r;simp only;split
  ·cases pA s (j+1) with
   | error k=>rfl
   | ok r=>rfl
  ·rfl
theorem zqv (s:BA) (f:Nat) :
 (∀ i t j,pTyp s f i=.ok (t,j)->∀ b,i+(flat b t).length<=j/\i+(zr_ t).length<=j)/\
 (∀ i ts j,x0_ s f i=.ok (ts,j)->∀ b,i+(yl_ b ts).length<=j/\i+(zs_ ts).length<=j):=by
 induction f with
 | zero=>exact⟨λ i t j h=>by simp[pTyp] at h,λ i t j h=>by simp[x0_] at h⟩
 | succ f ih=>
  obtain⟨l,g⟩:=ih;refine⟨λ i t j h b=>?_,λ i t j h b=>?_⟩
  ·rw[jl_] at h;unfold za6 at h;split at h
   ·simp only[ae_,ad_] at h;obtain⟨rfl,rfl⟩:=h;rename_i hb
    simp[flat,zr_,hb]
   ·split at h
    ·cases a:pTyp s f (i+1) with
     | error k=>rw[a] at h;simp at h
     | ok r=>
      obtain⟨e,j'⟩:=r;rw[a] at h;simp only at h;split at h
      ·simp only[ae_,ad_] at h;obtain⟨rfl,rfl⟩:=h;have:=l _ _ _ a b;simp only[flat,zr_,ah_,aq_,ao_];omega
      ·simp at h
    ·split at h
     ·cases a:x0_ s f (i+1) with
      | error k=>rw[a] at h;simp at h
      | ok r=>
       obtain⟨e,j'⟩:=r;rw[a] at h;simp only at h;split at h
       ·simp only[ae_,ad_] at h;obtain⟨rfl,rfl⟩:=h;have:=g _ _ _ a b;simp only[flat,zr_,ah_,aq_,ao_];omega
       ·simp at h
     ·split at h
      ·simp only[ae_,ad_] at h;obtain⟨rfl,rfl⟩:=h;rename_i hb _ _ _
       simp[flat,zr_,hb]
      ·simp at h
  ·rw[vr_] at h;unfold zgn at h
   cases a:pTyp s f i with
   | error k=>rw[a] at h;simp at h
   | ok r=>
    obtain⟨e,j'⟩:=r;rw[a] at h;have h1:=l _ _ _ a b;simp only at h;split at h
    ·cases d:x0_ s f (j'+1) with
     | error k=>rw[d] at h;simp at h
     | ok r=>
      obtain⟨ts,k⟩:=r;rw[d] at h;simp only[ae_,ad_] at h;obtain⟨rfl,rfl⟩:=h;have m:=g _ _ _ d (b+(flat b e).length);simp only[yl_,zs_,ah_];omega
    ·simp only[ae_,ad_] at h;obtain⟨rfl,rfl⟩:=h;simp only[yl_,zs_,ah_,ao_];omega
theorem zhx {t:PT}(h:pT s i=.ok (t,j)) (b:Nat):i+(flat b t).length<=j/\i+(zr_ t).length<=j:=(zqv s _).1 i t j h b
theorem zne {ts:List PT}(h:pA s i=.ok (ts,j)) (b:Nat):i+(yl_ b ts).length<=j/\i+(zs_ ts).length<=j:=(zqv s _).2 i ts j h b
theorem zt2 {t:PT}(h:pT s i=.ok (t,j)):t.place=i:=by
 rw[zjn] at h;unfold za6 at h;split at h
 ·simp only[ae_,ad_] at h;obtain⟨rfl,rfl⟩:=h;rfl
 ·split at h
  ·split at h
   ·simp at h
   ·split at h
    ·simp only[ae_,ad_] at h;obtain⟨rfl,rfl⟩:=h;rfl
    ·simp at h
  ·split at h
   ·split at h
    ·simp at h
    ·split at h
     ·simp only[ae_,ad_] at h;obtain⟨rfl,rfl⟩:=h;rfl
     ·simp at h
   ·split at h
    ·simp only[ae_,ad_] at h;obtain⟨rfl,rfl⟩:=h;rfl
    ·simp at h
def zcv (c:Nat):Bool:=c==40||c==91||c==123||c==60
def zae (c:Nat):Bool:=c==41||c==93||c==125||c==62
def zbz (c o:Nat):Nat:=if zcv c then o+1 else if zae c then o-1 else o
def pDef (s:BA):Nat->Nat->Nat->Option Nat
 | 0,_,_=>none
 | n+1,i,o=>if o=0/\(bt s i=44\/bt s i=41) then some i else pDef s n (i+1) (zbz (bt s i) o)
def pD (s:BA) (i o:Nat):Option Nat:=pDef s (s.size-i) i o
theorem zvh {o:Nat}(h:s.size<=i):pD s i o=none:=by
 unfold pD;rw[show s.size-i=0 by omega];rfl
theorem zq0 (o:Nat) (h:i<s.size):pD s i o=if o=0/\(bt s i=44\/bt s i=41) then some i else pD s (i+1) (zbz (bt s i) o):=by
 unfold pD;rw[show s.size-i=(s.size-(i+1))+1 by omega]
 rfl
theorem zl2 (s:BA) (n:Nat):∀ i o e,pDef s n i o=some e->i<=e/\e<i+n:=by
 induction n with
 | zero=>intro i o e h;simp[pDef] at h
 | succ n ih=>
  intro i o e h;unfold pDef at h;split at h
  ·simp only[ag_] at h;omega
  ·have:=ih _ _ _ h;omega
theorem zfm {o e:Nat}(h:pD s i o=some e):i<=e/\e<s.size:=by
 have:=zl2 s _ i o e h;omega
structure PF where
 letter:Nat
 place:Nat
 ty:PT
 dflt:Option (Nat×Nat)
 deriving Inhabited
def ye_ (s:BA) (i:Nat):Except Nat (PF×Nat):=
 if zi_ (bt s i) then
  if bt s (i+1)=58 then
   match pT s (i+2) with
   | .error k=>.error k
   | .ok (t,j)=>
    if bt s j=61 then
     match pD s (j+1) 0 with
     | none=>.error s.size
     | some e=>.ok (⟨bt s i,i,t,some (j+1,e)⟩,e)
    else .ok (⟨bt s i,i,t,none⟩,j)
  else .error (i+1)
 else .error i
theorem xc_ (h:zi_ c=true):0<c:=by
 simp only[zi_,a1_,decide_eq_true_eq] at h;omega
theorem x4_ (g:i<=s.size):(∀ f j,ye_ s i=.ok (f,j)->i+2<j/\j<=s.size)/\(∀ k,ye_ s i=.error k->i<=k/\k<=s.size):=by
 unfold ye_;split
 ·rename_i h1;have l1:=zj_ (xc_ h1);split
  ·rename_i d;have l2:=zj_ (s:=s) (i:=i+1) (by omega);have hb:=xz_ (s:=s) (i:=i+2) (by omega)
   cases b:pT s (i+2) with
   | error k=>exact⟨λ f j h=>(nomatch h),λ a h=>by simp only[b1_] at h;have:=hb.2 k b;omega⟩
   | ok r=>
    obtain⟨t,j⟩:=r;have:=hb.1 t j b;simp only;split
    ·cases hd:pD s (j+1) 0 with
     | none=>exact⟨λ f j h=>(nomatch h),λ a h=>by simp only[b1_] at h;omega⟩
     | some e=>
      have:=zfm hd;exact⟨λ f j h=>by simp only[ae_,ad_] at h;omega,λ a h=>(nomatch h)⟩
    ·exact⟨λ f j h=>by simp only[ae_,ad_] at h;omega,λ a h=>(nomatch h)⟩
  ·exact⟨λ f j h=>(nomatch h),λ a h=>by simp only[b1_] at h;omega⟩
 ·exact⟨λ f j h=>(nomatch h),λ a h=>by simp only[b1_] at h;omega⟩
def xm_ (s:BA):Nat->Nat->Except Nat (List PF×Nat)
 | 0,i=>.error i
 | n+1,i=>
  match ye_ s i with
  | .error k=>.error k
  | .ok (f,j)=>
   if bt s j=41 then .ok ([f],j+1)
   else if bt s j=44 then
    match xm_ s n (j+1) with
    | .error k=>.error k
    | .ok (fs,k)=>.ok (f::fs,k)
   else .error j
def xn_ (s:BA) (i:Nat):Except Nat (List PF×Nat):=xm_ s (s.size+1-i) i
def v1_ (ds:List PF):Except Nat (List PF×Nat)->Except Nat (List PF×Nat)
 | .error k=>.error k
 | .ok (r,j)=>.ok (ds++r,j)
theorem zhd (x:Except Nat (List PF×Nat)):v1_ [] x=x:=by
 match x with
 | .error k=>rfl
 | .ok (r,j)=>rfl
theorem zdd (ds es:List PF) (x:Except Nat (List PF×Nat)):v1_ ds (v1_ es x)=v1_ (ds++es) x:=by
 match x with
 | .error k=>rfl
 | .ok (r,j)=>simp[v1_]
theorem zhy (s:BA) (n:Nat):∀ i d,i<=s.size->s.size-i<n->xm_ s (n+d) i=xm_ s n i:=by
 induction n with
 | zero=>intro i d a h;omega
 | succ n ih=>
  intro i d a h;rw[show n+1+d=(n+d)+1 by omega];unfold xm_
  cases b:ye_ s i with
  | error k=>rfl
  | ok r=>
   obtain⟨f,j⟩:=r;have hb:=(x4_ a).1 f j b;simp only;split
   ·rfl
   ·split
    ·rename_i e;have:=zj_ (s:=s) (i:=j) (by omega);rw[ih (j+1) d (by omega) (by omega)]
    ·rfl
theorem zea (s:BA) (i:Nat) (b:i<=s.size):xn_ s i =
 match ye_ s i with
 | .error k=>.error k
 | .ok (f,j)=>if bt s j=41 then .ok ([f],j+1) else if bt s j=44 then v1_ [f] (xn_ s (j+1)) else .error j:=by
 unfold xn_;rw[show s.size+1-i=(s.size-i)+1 by omega]
 conv=>lhs;unfold xm_
 cases d:ye_ s i with
 | error k=>rfl
 | ok r=>
  obtain⟨f,j⟩:=r;have hb:=(x4_ b).1 f j d;simp only;split
  ·rfl
  ·split
   ·rename_i e;have:=zj_ (s:=s) (i:=j) (by omega);have a:=zhy s (s.size+1-(j+1)) (j+1) (s.size-i-(s.size+1-(j+1))) (by omega) (by omega);rw[show s.size+1-(j+1)+(s.size-i-(s.size+1-(j+1)))=s.size-i by omega] at a;rw[a]
    cases xm_ s (s.size+1-(j+1)) (j+1) with
    | error k=>rfl
    | ok r=>rfl
   ·rfl
def ys_ (s:BA) (i:Nat):Except Nat (List PF×Nat):=
 if bt s i=40 then
  if bt s (i+1)=41 then .ok ([],i+2) else xn_ s (i+1)
 else .error i
def zba (s:BA):Nat->Nat->Except Nat (List (Nat×Nat)×Nat)
 | 0,i=>.error i
 | n+1,i=>
  if zi_ (bt s i) then
   if bt s (i+1)=44 then
    match zba s n (i+2) with
    | .error k=>.error k
    | .ok (l,k)=>.ok ((bt s i,i)::l,k)
   else .ok ([(bt s i,i)],i+1)
  else .error i
def zcu (s:BA) (i:Nat):Except Nat (List (Nat×Nat)×Nat):=zba s (s.size+1-i) i
def vc_ (s:BA) (i:Nat):Except Nat ((List (Nat×Nat)×Option (Nat×Nat))×Nat):=
 if bt s i=40 then
  match zcu s (i+1) with
  | .error k=>.error k
  | .ok (l,j)=>
   if bt s j=33 then
    if zi_ (bt s (j+1)) then
     if bt s (j+2)=41 then .ok ((l,some (bt s (j+1),j+1)),j+3) else .error (j+2)
    else .error (j+1)
   else if bt s j=41 then .ok ((l,none),j+1) else .error j
 else .error i
def finE (s:BA) (l:List (Nat×Nat)) (j:Nat):Except Nat ((List (Nat×Nat)×Option (Nat×Nat))×Nat):=
 if bt s j=33 then
  if zi_ (bt s (j+1)) then
   if bt s (j+2)=41 then .ok ((l,some (bt s (j+1),j+1)),j+3) else .error (j+2)
  else .error (j+1)
 else if bt s j=41 then .ok ((l,none),j+1) else .error j
def zei (s:BA) (ds:List (Nat×Nat)):Except Nat (List (Nat×Nat)×Nat)->Except Nat ((List (Nat×Nat)×Option (Nat×Nat))×Nat)
 | .error k=>.error k
 | .ok (l,j)=>finE s (ds++l) j
theorem znd (s:BA) (i:Nat):vc_ s i=if bt s i=40 then zei s [] (zcu s (i+1)) else .error i:=by
 unfold vc_;split
 ·cases zcu s (i+1) with
  | error k=>rfl
  | ok q=>rfl
 ·rfl
theorem zlv (s:BA) (n:Nat):∀ i d,s.size-i<n->zba s (n+d) i=zba s n i:=by
 induction n with
 | zero=>intro i d h;omega
 | succ n ih=>
  intro i d h;rw[show n+1+d=(n+d)+1 by omega];unfold zba;split
  ·rename_i hs;have:=zj_ (xc_ hs);split
   ·rw[ih (i+2) d (by omega)]
   ·rfl
  ·rfl
theorem zoj (s:BA) (i:Nat):zcu s i =
 if zi_ (bt s i) then
  if bt s (i+1)=44 then
   match zcu s (i+2) with
   | .error k=>.error k
   | .ok (l,k)=>.ok ((bt s i,i)::l,k)
  else .ok ([(bt s i,i)],i+1)
 else .error i:=by
 by_cases hs:zi_ (bt s i)=true
 ·have hl:=zj_ (xc_ hs);unfold zcu;rw[show s.size+1-i=(s.size-i)+1 by omega]
  conv=>lhs;unfold zba
  rw[if_pos hs,if_pos hs];split
  ·rename_i b;have:=zj_ (s:=s) (i:=i+1) (by omega);have a:=zlv s (s.size+1-(i+2)) (i+2) (s.size-i-(s.size+1-(i+2))) (by omega);rw[show s.size+1-(i+2)+(s.size-i-(s.size+1-(i+2)))=s.size-i by omega] at a;rw[a];try rfl
  ·rfl
 ·rw[if_neg hs];unfold zcu
  cases s.size+1-i with
  | zero=>rfl
  | succ n=>unfold zba;rw[if_neg hs]
theorem zcg (s:BA) (ds:List (Nat×Nat)) (i:Nat):zei s ds (zcu s i) =
 if zi_ (bt s i) then
  if bt s (i+1)=44 then zei s (ds++[(bt s i,i)]) (zcu s (i+2)) else finE s (ds++[(bt s i,i)]) (i+1)
 else .error i:=by
 rw[zoj];split
 ·split
  ·cases zcu s (i+2) with
   | error k=>rfl
   | ok q=>simp[zei]
  ·rfl
 ·rfl
inductive PB where
 | recd (fs:List PF)
 | enum (l:List (Nat×Nat)) (o:Option (Nat×Nat))
 | bytes (n:Nat)
 deriving Inhabited
def vd_ (s:BA) (i:Nat):Except Nat (PB×Nat):=
 if bt s i=114 then
  match ys_ s (i+1) with
  | .error k=>.error k
  | .ok (ds,j)=>.ok (.recd ds,j)
 else if bt s i=101 then
  match vc_ s (i+1) with
  | .error k=>.error k
  | .ok ((l,o),j)=>.ok (.enum l o,j)
 else if bt s i=102 then
  if 48<=bt s (i+1)/\bt s (i+1)<=57 then .ok (.bytes (bt s (i+1)-48),i+2) else .error (i+1)
 else .error i
structure PD where
 letter:Nat
 place:Nat
 body:PB
 deriving Inhabited
def y5_ (s:BA):Nat->Nat->Except Nat (List PD×Nat)
 | 0,i=>.ok ([],i)
 | n+1,i=>
  if z5_ (bt s i)=true/\i+1<s.size then
   if bt s (i+1)=61 then
    match vd_ s (i+2) with
    | .error k=>.error k
    | .ok (pb,j)=>
     if bt s j=59 then
      match y5_ s n (j+1) with
      | .error k=>.error k
      | .ok (ds,e)=>.ok (⟨bt s i,i,pb⟩::ds,e)
     else .error j
   else .error (i+1)
  else .ok ([],i)
def z1_ (s:BA):Except Nat (List PD×PT):=
 match y5_ s 6 0 with
 | .error k=>.error k
 | .ok (ds,i)=>
  match pT s i with
  | .error k=>.error k
  | .ok (t,j)=>if j<s.size then .error j else .ok (ds,t)
def zah (ds:List PD):Except Nat (List PD×Nat)->Except Nat (List PD×Nat)
 | .error k=>.error k
 | .ok (r,j)=>.ok (ds++r,j)
theorem zhe (x:Except Nat (List PD×Nat)):zah [] x=x:=by
 match x with
 | .error k=>rfl
 | .ok (r,j)=>rfl
theorem zbs (s:BA) (n i:Nat) (ds:List PD):zah ds (y5_ s (n+1) i) =
 if z5_ (bt s i)=true/\i+1<s.size then
  if bt s (i+1)=61 then
   match vd_ s (i+2) with
   | .error k=>.error k
   | .ok (pb,j)=>if bt s j=59 then zah (ds++[⟨bt s i,i,pb⟩]) (y5_ s n (j+1)) else .error j
  else .error (i+1)
 else .ok (ds,i):=by
 conv=>lhs;unfold y5_
 split
 ·split
  ·cases vd_ s (i+2) with
   | error k=>rfl
   | ok q=>
    obtain⟨pb,j⟩:=q;simp only;split
    ·cases y5_ s n (j+1) with
     | error k=>rfl
     | ok q=>simp[zah]
    ·rfl
  ·rfl
 ·simp[zah]
end Go.Proofs.YtiifagiebikmdaaGreatDoor
