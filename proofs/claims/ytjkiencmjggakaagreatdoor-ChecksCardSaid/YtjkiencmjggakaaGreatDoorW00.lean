import Derived.WalkKit
import Derived.Maps.AppendAt
import Derived.WalkSpells
import Derived.WalkLawsBesides
import Derived.Deep.QuietTactic
import Derived.BigQuiet
import Derived.Test.YtjkiencmjggakaaGreatDoorA00
set_option maxHeartbeats 16000000
set_option maxRecDepth 100000
set_option linter.defProp false
set_option linter.unusedSimpArgs false
open Go.Proofs.Tryz
namespace Go.Proofs.YtjkiencmjggakaaGreatDoor
variable {oi oj:Oper}{a:Act}{b t i fuel c j:Nat}{listed:Array Bool}{l cs:List Value}{v0 v v1 v2 v3 v4 v5 v6 v7:Value}{S:Nat->Prop}{q:Prop}{w':World}
def bt(s:BA)(i:Nat):Nat:=if h:i<s.size then (s[i]'h).toNat else 0
def eQ(s:BA)(i:Nat):bt s i<256:=by
 unfold bt;split
 .exact UInt8.toNat_lt _
 .omega
def zc{s:BA}(h:0<bt s i):i<s.size:=by
 unfold bt at h;split at h
 .assumption
 .omega
def vR(s:BA)(i:Nat)(h:i<s.size):bt s i=(s[i]'h).toNat:=by unfold bt;rw[dif_pos h]
def kK{s:BA}(h:s.size<=i):bt s i=0:=by unfold bt;rw[dif_neg (by omega)]
inductive PT where
 |leaf (c:Nat) (p:Nat)
 |wrap (c:Nat) (p:Nat) (t:PT)
 |alts (p:Nat) (ts:List PT)
 deriving Inhabited
def zu(c:Nat):Bool:=c==110||c==116||c==105||c==108||c==115
def zp(c:Nat):Bool:=decide (65<=c)&&decide (c<=70)
def zh(c:Nat):Bool:=decide (97<=c)&&decide (c<=122)
def yE(c:Nat):Nat:=if c==123 then 125 else 93
mutual
def vQ(s:BA):Nat->Nat->Except Nat (PT×Nat)
 | 0,i=>.error i
 |f+1,i=>
  if zu (bt s i) then .ok (.leaf (bt s i) i,i+1)
  else if bt s i=91\/bt s i=123 then
   match vQ s f (i+1) with
   | .error k=>.error k
   | .ok (t,j)=>if bt s j=yE (bt s i) then .ok (.wrap (bt s i) i t,j+1) else .error j
  else if bt s i=40 then
   match xw s f (i+1) with
   | .error k=>.error k
   | .ok (ts,j)=>if bt s j=41 then .ok (.alts i ts,j+1) else .error j
  else if zp (bt s i) then .ok (.leaf (bt s i) i,i+1)
  else .error i
def xw(s:BA):Nat->Nat->Except Nat (List PT×Nat)
 | 0,i=>.error i
 |f+1,i=>
  match vQ s f i with
  | .error k=>.error k
  | .ok (t,j)=>
   if bt s j=44 then
    match xw s f (j+1) with
    | .error k=>.error k
    | .ok (ts,k)=>.ok (t::ts,k)
   else .ok ([t],j)
end
def vP(s:BA)(T:Nat->Except Nat (PT×Nat))(A:Nat->Except Nat (List PT×Nat))(i:Nat):Except Nat (PT×Nat):=
 if zu (bt s i) then .ok (.leaf (bt s i) i,i+1)
 else if bt s i=91\/bt s i=123 then
  match T (i+1) with
  | .error k=>.error k
  | .ok (t,j)=>if bt s j=yE (bt s i) then .ok (.wrap (bt s i) i t,j+1) else .error j
 else if bt s i=40 then
  match A (i+1) with
  | .error k=>.error k
  | .ok (ts,j)=>if bt s j=41 then .ok (.alts i ts,j+1) else .error j
 else if zp (bt s i) then .ok (.leaf (bt s i) i,i+1)
 else .error i
def gq(s:BA)(T:Nat->Except Nat (PT×Nat))(A:Nat->Except Nat (List PT×Nat))(i:Nat):Except Nat (List PT×Nat):=
 match T i with
 | .error k=>.error k
 | .ok (t,j)=>
  if bt s j=44 then
   match A (j+1) with
   | .error k=>.error k
   | .ok (ts,k)=>.ok (t::ts,k)
  else .ok ([t],j)
def jE(s:BA)(f i:Nat):vQ s (f+1) i=vP s (vQ s f) (xw s f) i:=by rw[vQ];rfl
def jm(s:BA)(f i:Nat):xw s (f+1) i=gq s (vQ s f) (xw s f) i:=by rw[xw];rfl
def mM(h:zu c=true):0<c:=by
 simp only[zu,au_,beq_iff_eq]at h;omega
def oW(h:zp c=true):0<c:=by
 simp only[zp,ax_,decide_eq_true_eq]at h;omega
def fu(s:BA)(f:Nat):(∀i,i<=s.size->(∀t j,vQ s f i=.ok (t,j)->i<j/\j<=s.size)/\(∀k,vQ s f i=.error k->i<=k/\k<=s.size))/\
 (∀i,i<=s.size->(∀t j,xw s f i=.ok (t,j)->i<j/\j<=s.size)/\(∀k,xw s f i=.error k->i<=k/\k<=s.size)):=by
 induction f with
 |zero=>exact⟨λi hi=>⟨λt j h=>by simp[vQ]at h,λk h=>by simp[vQ]at h;omega⟩,λi hi=>⟨λt j h=>by simp[xw]at h,λk h=>by simp[xw]at h;omega⟩⟩
 |succ f ih=>
  obtain⟨u,p⟩:=ih;refine⟨λi hi=>?_,λi hi=>?_⟩
  .rw[vQ];split
   .rename_i hb;have:=zc (mM hb);exact⟨λt j h=>by simp only[ag_,ad_]at h;omega,λk h=>by cases h⟩
   .split
    .rename_i hb;have hl:=zc (s:=s) (i:=i) M_;have:=u (i+1) M_;cases hp:vQ s f (i+1) with
     |error k=>exact⟨λt j h=>by simp at h,λd h=>by simp at h;have:=this.2 k hp;omega⟩
     |ok r=>
      obtain⟨t,j⟩:=r;have:=this.1 t j hp;simp only;split
      .rename_i hc;have n:=zc (s:=s) (i:=j) (by rw[hc];unfold yE;split<;>omega);exact⟨λt j h=>by simp only[ag_,ad_]at h;omega,λk h=>by cases h⟩
      .exact⟨λt j h=>(nomatch h),λk h=>by simp only[b5_]at h;omega⟩
    .split
     .rename_i hb;have hl:=zc (s:=s) (i:=i) M_;have:=p (i+1) M_;cases hp:xw s f (i+1) with
      |error k=>exact⟨λt j h=>by simp at h,λd h=>by simp at h;have:=this.2 k hp;omega⟩
      |ok r=>
       obtain⟨t,j⟩:=r;have:=this.1 t j hp;simp only;split
       .rename_i hc;have n:=zc (s:=s) (i:=j) M_;exact⟨λt j h=>by simp only[ag_,ad_]at h;omega,λk h=>by cases h⟩
       .exact⟨λt j h=>(nomatch h),λk h=>by simp only[b5_]at h;omega⟩
     .split
      .rename_i hb;have:=zc (oW hb);exact⟨λt j h=>by simp only[ag_,ad_]at h;omega,λk h=>by cases h⟩
      .exact⟨λt j h=>(nomatch h),λk h=>by simp only[b5_]at h;omega⟩
  .rw[xw];have g:=u i hi;cases hp:vQ s f i with
   |error k=>exact⟨λt j h=>by simp at h,λd h=>by simp at h;have:=g.2 k hp;omega⟩
   |ok r=>
    obtain⟨t,j⟩:=r;have h1:=g.1 t j hp;simp only;split
    .rename_i hc;have n:=zc (s:=s) (i:=j) M_;have e:=p (j+1) M_;cases o:xw s f (j+1) with
     |error k=>exact⟨λt j h=>by simp at h,λd h=>by simp at h;have:=e.2 k o;omega⟩
     |ok r=>
      obtain⟨ts,k⟩:=r;have:=e.1 ts k o;exact⟨λt j h=>by simp only[ag_,ad_]at h;omega,λk h=>by cases h⟩
    .exact⟨λt j h=>by simp only[ag_,ad_]at h;omega,λk h=>by cases h⟩
def bY{s:BA}{T T':Nat->Except Nat (PT×Nat)}{A d:Nat->Except Nat (List PT×Nat)}(f:i<s.size->T (i+1)=T' (i+1))(e:i<s.size->A (i+1)=d (i+1)):vP s T A i=vP s T' d i:=by
 unfold vP;split
 .rfl
 .split
  .rename_i hb;rw[f (zc M_)]
  .split
   .rename_i hb;rw[e (zc M_)]
   .rfl
def bX{s:BA}{T T':Nat->Except Nat (PT×Nat)}{A d:Nat->Except Nat (List PT×Nat)}(f:T i=T' i)(e:∀t j,T' i=.ok (t,j)->j<s.size->A (j+1)=d (j+1)):gq s T A i=gq s T' d i:=by
 unfold gq;rw[f];cases hp:T' i with
 |error k=>rfl
 |ok r=>
  obtain⟨t,j⟩:=r;simp only;split
  .rename_i hc;rw[e t j hp (zc M_)]
  .rfl
def Jl(s:BA)(f:Nat):(∀i,i<=s.size->2*(s.size-i)<f->vQ s (f+1) i=vQ s f i)/\
 (∀i,i<=s.size->2*(s.size-i)+1<f->xw s (f+1) i=xw s f i):=by
 induction f with
 |zero=>exact⟨λi _ h=>M_,λi _ h=>M_⟩
 |succ f ih=>
  obtain⟨e,d⟩:=ih;refine⟨λi hi h=>?_,λi hi h=>?_⟩
  .rw[jE s (f+1),jE s f];exact bY (λhl=>e (i+1) M_ M_) (λhl=>d (i+1) M_ M_)
  .rw[jm s (f+1),jm s f];refine bX (e i hi M_) (λt j hp hl=>?_);have h1:=((fu s f).1 i hi).1 t j hp;exact d (j+1) M_ M_
def wj(s:BA)(i:Nat)(hi:i<=s.size)(f:Nat)(d:Nat):(2*(s.size-i)<f->vQ s (f+d) i=vQ s f i)/\(2*(s.size-i)+1<f->xw s (f+d) i=xw s f i):=by
 induction d with
 |zero=>exact⟨λ_=>rfl,λ_=>rfl⟩
 |succ d ih=>
  refine⟨λh=>?_,λh=>?_⟩
  .rw[<- br_,(Jl s (f+d)).1 i hi M_,ih.1 h]
  .rw[<- br_,(Jl s (f+d)).2 i hi M_,ih.2 h]
def pT(s:BA)(i:Nat):Except Nat (PT×Nat):=vQ s (2*s.size+2) i
def pA(s:BA)(i:Nat):Except Nat (List PT×Nat):=xw s (2*s.size+3) i
def xx{s:BA}(hi:i<=s.size):(∀t j,pT s i=.ok (t,j)->i<j/\j<=s.size)/\(∀k,pT s i=.error k->i<=k/\k<=s.size):=(fu s _).1 i hi
def kP(s:BA)(i:Nat):pT s i=vP s (pT s) (pA s) i:=by
 show vQ s (2*s.size+1+1) i=_;rw[jE];refine bY (λhl=>?_) (λhl=>?_)
 .exact((wj s (i+1) M_ (2*s.size+1) 1).1 M_).symm
 .exact((wj s (i+1) M_ (2*s.size+1) 2).2 M_).symm
def WO(s:BA)(i:Nat)(hi:i<=s.size):pA s i=gq s (pT s) (pA s) i:=by
 show xw s (2*s.size+2+1) i=_;rw[jm];refine bX rfl (λt j hp hl=>?_);have h1:=(xx hi).1 t j hp;exact((wj s (j+1) M_ (2*s.size+2) 1).2 M_).symm
structure TR where
 kind:Nat
 subs:List Nat
 deriving Inhabited
def PT.kind:PT->Nat
 | .leaf c _=>c
 | .wrap c _ _=>c
 | .alts _ _=>40
def PT.place:PT->Nat
 | .leaf _ p=>p
 | .wrap _ p _=>p
 | .alts p _=>p
mutual
def flat(b:Nat):PT->List TR
 | .leaf c _=>[⟨c,[]⟩]
 | .wrap c _ t=>flat b t++[⟨c,[b+(flat b t).length-1]⟩]
 | .alts _ ts=>zJ b ts++[⟨40,jw b ts⟩]
def zJ(b:Nat):List PT->List TR
 | []=>[]
 |t::r=>flat b t++zJ (b+(flat b t).length) r
def jw(b:Nat):List PT->List Nat
 | []=>[]
 |t::r=>(b+(flat b t).length-1)::jw (b+(flat b t).length) r
end
mutual
def zZ:PT->List (Nat×Nat)
 | .leaf c p=>if zu c then [] else [(c,p)]
 | .wrap _ _ t=>zZ t
 | .alts _ ts=>zY ts
def zY:List PT->List (Nat×Nat)
 | []=>[]
 |t::r=>zZ t++zY r
end
def qk(seen:List Nat)(t:PT)(m:Int):Int:=if (t.kind=40\/t.kind∈seen)/\(m<0\/(t.place:Int)<m) then (t.place:Int) else m
mutual
def mix:PT->Int->Int
 | .leaf _ _,m=>m
 | .wrap _ _ t,m=>mix t m
 | .alts _ ts,m=>jL [] ts m
def jL(seen:List Nat):List PT->Int->Int
 | [],m=>m
 |t::r,m=>jL (seen++[t.kind]) r (qk seen t (mix t m))
end
def mI(b:Nat)(t:PT):0<(flat b t).length:=by
 cases t<;>simp[flat]
def XF(b:Nat)(t:PT):((flat b t)[(flat b t).length-1]?).map TR.kind=some t.kind:=by
 cases t<;>simp[flat,PT.kind]
def mN(b:Nat)(ds:List PT)(t:PT):zJ b (ds++[t])=zJ b ds++flat (b+(zJ b ds).length) t:=by
 induction ds generalizing b with
 |nil=>simp[zJ]
 |cons d r ih=>simp only[bi_,zJ,ih,by_,ai_,br_]
def lN(b:Nat)(ds:List PT)(t:PT):jw b (ds++[t])=jw b ds++[b+(zJ b ds).length+(flat (b+(zJ b ds).length) t).length-1]:=by
 induction ds generalizing b with
 |nil=>simp[zJ,jw]
 |cons d r ih=>simp only[bi_,zJ,jw,ih,ai_,br_]
def wu(b:Nat)(ds:List PT):(jw b ds).length=ds.length:=by
 induction ds generalizing b with
 |nil=>rfl
 |cons d r ih=>simp[jw,ih]
def gE(ds:List PT)(t:PT):zY (ds++[t])=zY ds++zZ t:=by
 induction ds with
 |nil=>simp[zY]
 |cons d r ih=>simp[zY,ih]
def Xz(e:List Nat)(ds:List PT)(t:PT)(m:Int):jL e (ds++[t]) m=qk (e++ds.map PT.kind) t (mix t (jL e ds m)):=by
 induction ds generalizing e m with
 |nil=>simp[jL]
 |cons d r ih=>simp[jL,ih]
def pz(ds:List PT):Except Nat (List PT×Nat)->Except Nat (List PT×Nat)
 | .error k=>.error k
 | .ok (r,j)=>.ok (ds++r,j)
def rH(x:Except Nat (List PT×Nat)):pz [] x=x:=by
 match x with
 | .error k=>rfl
 | .ok (r,j)=>rfl
def bO(ds es:List PT)(x:Except Nat (List PT×Nat)):pz ds (pz es x)=pz (ds++es) x:=by
 match x with
 | .error k=>rfl
 | .ok (r,j)=>simp[pz]
def tg(s:BA)(i:Nat)(hi:i<=s.size):pA s i =
 match pT s i with
 | .error k=>.error k
 | .ok (t,j)=>if bt s j=44 then pz [t] (pA s (j+1)) else .ok ([t],j):=by
 rw[WO s i hi];unfold gq;cases pT s i with
 |error k=>rfl
 |ok r=>
  obtain⟨t,j⟩:=r;simp only;split
  .cases pA s (j+1) with
   |error k=>rfl
   |ok r=>rfl
  .rfl
def cq7_{p:Prop}(h:p:=by
 induction f with
 |zero=>exact⟨λi t j h=>by simp[vQ]at h,λi t j h=>by simp[xw]at h⟩
 |succ f ih=>
  obtain⟨g,e⟩:=ih;(first|(have:=cc1;refine⟨λi t j h=>?_,λi t j h=>?_⟩)|(refine⟨λi t j h b=>?_,λi t j h b=>?_⟩))
  .rw[jE]at h;unfold vP at h;split at h
   .simp only[ag_,ad_]at h;obtain⟨rfl,rfl⟩:=h;rename_i hb;(first|(have:=cc1;exact .inl hb)|(simp[flat,zZ,hb]))
   .split at h
    ·(try have:=cc1;rename_i hc);cases hp:vQ s f (i+1) with
     |error k=>rw[hp]at h;simp at h
     |ok r=>
      obtain⟨t',j'⟩:=r;rw[hp]at h;simp only at h;split at h
      .simp only[ag_,ad_]at h;obtain⟨rfl,rfl⟩:=h;(first|(have:=cc1;exact⟨hc,g _ _ _ hp⟩)|(have:=g _ _ _ hp b;simp only[flat,zZ,ai_,a6_,a7_];omega))
      .simp at h
    .split at h
     .cases hp:xw s f (i+1) with
      |error k=>rw[hp]at h;simp at h
      |ok r=>
       obtain⟨t',j'⟩:=r;rw[hp]at h;simp only at h;split at h
       .simp only[ag_,ad_]at h;obtain⟨rfl,rfl⟩:=h;(first|(have:=cc1;exact e _ _ _ hp)|(have:=e _ _ _ hp b;simp only[flat,zZ,ai_,a6_,a7_];omega))
       .simp at h
     .split at h
      .simp only[ag_,ad_]at h;obtain⟨rfl,rfl⟩:=h;(first|(have:=cc1;rename_i hb)|(rename_i hb _ _ _));(first|(have:=cc1;exact .inr hb)|(simp[flat,zZ,hb]))
      .simp at h
  .rw[jm]at h;unfold gq at h;cases hp:vQ s f i with
   |error k=>rw[hp]at h;simp at h
   |ok r=>
    obtain⟨t',j'⟩:=r;rw[hp]at h;(first|(have:=cc1;have h1:=g _ _ _ hp)|(have h1:=g _ _ _ hp b));simp only at h;split at h
    .cases d:xw s f (j'+1) with
     |error k=>rw[d]at h;simp at h
     |ok r=>
      obtain⟨ts,k⟩:=r;rw[d]at h;simp only[ag_,ad_]at h;obtain⟨rfl,rfl⟩:=h;(first|(have:=cc1;exact⟨by simp,h1,(e _ _ _ d).2⟩)|(have n:=e _ _ _ d (b+(flat b t').length);simp only[zJ,zY,ai_];omega))
    .simp only[ag_,ad_]at h;obtain⟨rfl,rfl⟩:=h;(first|(have:=cc1;exact⟨by simp,h1,trivial⟩)|(simp only[zJ,zY,ai_,a7_];omega))):p:=h
def Ze(s:BA)(f:Nat):(∀i t j,vQ s f i=.ok (t,j)->∀b,i+(flat b t).length<=j/\i+(zZ t).length<=j)/\
 (∀i ts j,xw s f i=.ok (ts,j)->∀b,i+(zJ b ts).length<=j/\i+(zY ts).length<=j):=by
 exact cq7_
def mg{s:BA}{t:PT}(h:pT s i=.ok (t,j))(b:Nat):i+(flat b t).length<=j/\i+(zZ t).length<=j:=(Ze s _).1 i t j h b
def iq{s:BA}{ts:List PT}(h:pA s i=.ok (ts,j))(b:Nat):i+(zJ b ts).length<=j/\i+(zY ts).length<=j:=(Ze s _).2 i ts j h b
def cq12_{p:Prop}(h:p:=by
 rw[kP]at h;unfold vP at h;split at h
 .simp only[ag_,ad_]at h;obtain⟨rfl,rfl⟩:=h;rfl
 .split at h
  .split at h
   .simp at h
   .split at h
    .simp only[ag_,ad_]at h;obtain⟨rfl,rfl⟩:=h;rfl
    .simp at h
  .split at h
   ·(try have:=cc1;rename_i d);split at h
    .simp at h
    .split at h
     .simp only[ag_,ad_]at h;obtain⟨rfl,rfl⟩:=h;(first|(have:=cc1;exact d.symm)|(rfl))
     .simp at h
   .split at h
    .simp only[ag_,ad_]at h;obtain⟨rfl,rfl⟩:=h;rfl
    .simp at h):p:=h
def sR{s:BA}{t:PT}(h:pT s i=.ok (t,j)):t.place=i:=by
 exact cq12_
def qa(c:Nat):Bool:=c==40||c==91||c==123||c==60
def jr(c:Nat):Bool:=c==41||c==93||c==125||c==62
def jB(c o:Nat):Nat:=if qa c then o+1 else if jr c then o-1 else o
def Jd(s:BA):Nat->Nat->Nat->Option Nat
 | 0,_,_=>none
 |n+1,i,o=>if o=0/\(bt s i=44\/bt s i=41) then some i else Jd s n (i+1) (jB (bt s i) o)
def pD(s:BA)(i o:Nat):Option Nat:=Jd s (s.size-i) i o
def Jt{s:BA}{o:Nat}(h:s.size<=i):pD s i o=none:=by
 unfold pD;rw[show s.size-i=0 by omega];rfl
def ZZ{s:BA}(o:Nat)(h:i<s.size):pD s i o=if o=0/\(bt s i=44\/bt s i=41) then some i else pD s (i+1) (jB (bt s i) o):=by
 unfold pD;rw[show s.size-i=(s.size-(i+1))+1 by omega];rfl
def ix(s:BA)(n:Nat):∀i o e,Jd s n i o=some e->i<=e/\e<i+n:=by
 induction n with
 |zero=>intro i o e h;simp[Jd]at h
 |succ n ih=>
  intro i o e h;unfold Jd at h;split at h
  .simp only[ah_]at h;omega
  .have:=ih _ _ _ h;omega
def lD{s:BA}{o e:Nat}(h:pD s i o=some e):i<=e/\e<s.size:=by
 have:=ix s _ i o e h;omega
structure PF where
 letter:Nat
 place:Nat
 ty:PT
 dflt:Option (Nat×Nat)
 deriving Inhabited
def zH(s:BA)(i:Nat):Except Nat (PF×Nat):=
 if zh (bt s i) then
  if bt s (i+1)=58 then
   match pT s (i+2) with
   | .error k=>.error k
   | .ok (t,j)=>
    if bt s j=61 then
     match pD s (j+1) 0 with
     |none=>.error s.size
     |some e=>.ok (⟨bt s i,i,t,some (j+1,e)⟩,e)
    else .ok (⟨bt s i,i,t,none⟩,j)
  else .error (i+1)
 else .error i
def xy(h:zh c=true):0<c:=by
 simp only[zh,ax_,decide_eq_true_eq]at h;omega
def xU{s:BA}(hi:i<=s.size):(∀f j,zH s i=.ok (f,j)->i+2<j/\j<=s.size)/\(∀k,zH s i=.error k->i<=k/\k<=s.size):=by
 unfold zH;split
 .rename_i h1;have l1:=zc (xy h1);split
  .rename_i g;have l2:=zc (s:=s) (i:=i+1) M_;have hb:=xx (s:=s) (i:=i+2) M_;cases hp:pT s (i+2) with
   |error k=>exact⟨λf j h=>(nomatch h),λd h=>by simp only[b5_]at h;have:=hb.2 k hp;omega⟩
   |ok r=>
    obtain⟨t,j⟩:=r;have:=hb.1 t j hp;simp only;split
    .cases hd:pD s (j+1) 0 with
     |none=>exact⟨λf j h=>(nomatch h),λd h=>by simp only[b5_]at h;omega⟩
     |some e=>
      have:=lD hd;exact⟨λf j h=>by simp only[ag_,ad_]at h;omega,λd h=>(nomatch h)⟩
    .exact⟨λf j h=>by simp only[ag_,ad_]at h;omega,λd h=>(nomatch h)⟩
  .exact⟨λf j h=>(nomatch h),λd h=>by simp only[b5_]at h;omega⟩
 .exact⟨λf j h=>(nomatch h),λd h=>by simp only[b5_]at h;omega⟩
def yK(s:BA):Nat->Nat->Except Nat (List PF×Nat)
 | 0,i=>.error i
 |n+1,i=>
  match zH s i with
  | .error k=>.error k
  | .ok (f,j)=>
   if bt s j=41 then .ok ([f],j+1)
   else if bt s j=44 then
    match yK s n (j+1) with
    | .error k=>.error k
    | .ok (fs,k)=>.ok (f::fs,k)
   else .error j
def yI(s:BA)(i:Nat):Except Nat (List PF×Nat):=yK s (s.size+1-i) i
def vj(ds:List PF):Except Nat (List PF×Nat)->Except Nat (List PF×Nat)
 | .error k=>.error k
 | .ok (r,j)=>.ok (ds++r,j)
def cn(x:Except Nat (List PF×Nat)):vj [] x=x:=by
 match x with
 | .error k=>rfl
 | .ok (r,j)=>rfl
def gn(ds es:List PF)(x:Except Nat (List PF×Nat)):vj ds (vj es x)=vj (ds++es) x:=by
 match x with
 | .error k=>rfl
 | .ok (r,j)=>simp[vj]
def cI(s:BA)(n:Nat):∀i d,i<=s.size->s.size-i<n->yK s (n+d) i=yK s n i:=by
 induction n with
 |zero=>intro i d hi h;omega
 |succ n ih=>
  intro i d hi h;rw[show n+1+d=(n+d)+1 by omega];unfold yK;cases hp:zH s i with
  |error k=>rfl
  |ok r=>
   obtain⟨f,j⟩:=r;have hb:=(xU hi).1 f j hp;simp only;split
   .rfl
   .split
    .rename_i e;have:=zc (s:=s) (i:=j) M_;rw[ih (j+1) d M_ M_]
    .rfl
def fh(s:BA)(i:Nat)(hi:i<=s.size):yI s i =
 match zH s i with
 | .error k=>.error k
 | .ok (f,j)=>if bt s j=41 then .ok ([f],j+1) else if bt s j=44 then vj [f] (yI s (j+1)) else .error j:=by
 unfold yI;rw[show s.size+1-i=(s.size-i)+1 by omega];conv=>lhs;unfold yK
 cases hp:zH s i with
 |error k=>rfl
 |ok r=>
  obtain⟨f,j⟩:=r;have hb:=(xU hi).1 f j hp;simp only;split
  .rfl
  .split
   .rename_i d;have:=zc (s:=s) (i:=j) M_;have hf:=cI s (s.size+1-(j+1)) (j+1) (s.size-i-(s.size+1-(j+1))) M_ M_;rw[show s.size+1-(j+1)+(s.size-i-(s.size+1-(j+1)))=s.size-i by omega]at hf;rw[hf];cases yK s (s.size+1-(j+1)) (j+1) with
    |error k=>rfl
    |ok r=>rfl
   .rfl
def yp(s:BA)(i:Nat):Except Nat (List PF×Nat):=
 if bt s i=40 then
  if bt s (i+1)=41 then .ok ([],i+2) else yI s (i+1)
 else .error i
def vA(s:BA):Nat->Nat->Except Nat (List (Nat×Nat)×Nat)
 | 0,i=>.error i
 |n+1,i=>
  if zh (bt s i) then
   if bt s (i+1)=44 then
    match vA s n (i+2) with
    | .error k=>.error k
    | .ok (l,k)=>.ok ((bt s i,i)::l,k)
   else .ok ([(bt s i,i)],i+1)
  else .error i
def qe(s:BA)(i:Nat):Except Nat (List (Nat×Nat)×Nat):=vA s (s.size+1-i) i
def xz(s:BA)(i:Nat):Except Nat ((List (Nat×Nat)×Option (Nat×Nat))×Nat):=
 if bt s i=40 then
  match qe s (i+1) with
  | .error k=>.error k
  | .ok (l,j)=>
   if bt s j=33 then
    if zh (bt s (j+1)) then
     if bt s (j+2)=41 then .ok ((l,some (bt s (j+1),j+1)),j+3) else .error (j+2)
    else .error (j+1)
   else if bt s j=41 then .ok ((l,none),j+1) else .error j
 else .error i
def iA(s:BA)(l:List (Nat×Nat))(j:Nat):Except Nat ((List (Nat×Nat)×Option (Nat×Nat))×Nat):=
 if bt s j=33 then
  if zh (bt s (j+1)) then
   if bt s (j+2)=41 then .ok ((l,some (bt s (j+1),j+1)),j+3) else .error (j+2)
  else .error (j+1)
 else if bt s j=41 then .ok ((l,none),j+1) else .error j
def wQ(s:BA)(ds:List (Nat×Nat)):Except Nat (List (Nat×Nat)×Nat)->Except Nat ((List (Nat×Nat)×Option (Nat×Nat))×Nat)
 | .error k=>.error k
 | .ok (l,j)=>iA s (ds++l) j
def iz(s:BA)(i:Nat):xz s i=if bt s i=40 then wQ s [] (qe s (i+1)) else .error i:=by
 unfold xz;split
 .cases qe s (i+1) with
  |error k=>rfl
  |ok q=>rfl
 .rfl
def sN(s:BA)(n:Nat):∀i d,s.size-i<n->vA s (n+d) i=vA s n i:=by
 induction n with
 |zero=>intro i d h;omega
 |succ n ih=>
  intro i d h;rw[show n+1+d=(n+d)+1 by omega];unfold vA;split
  .rename_i hs;have:=zc (xy hs);split
   .rw[ih (i+2) d M_]
   .rfl
  .rfl
def ai(s:BA)(i:Nat):qe s i =
 if zh (bt s i) then
  if bt s (i+1)=44 then
   match qe s (i+2) with
   | .error k=>.error k
   | .ok (l,k)=>.ok ((bt s i,i)::l,k)
  else .ok ([(bt s i,i)],i+1)
 else .error i:=by
 by_cases hs:zh (bt s i)=true
 .have hl:=zc (xy hs);unfold qe;rw[show s.size+1-i=(s.size-i)+1 by omega];conv=>lhs;unfold vA
  rw[i_ hs,i_ hs];split
  .rename_i d;have:=zc (s:=s) (i:=i+1) M_;have hf:=sN s (s.size+1-(i+2)) (i+2) (s.size-i-(s.size+1-(i+2))) M_;rw[show s.size+1-(i+2)+(s.size-i-(s.size+1-(i+2)))=s.size-i by omega]at hf;rw[hf];try rfl
  .rfl
 .rw[n_ hs];unfold qe;cases s.size+1-i with
  |zero=>rfl
  |succ n=>unfold vA;rw[n_ hs]
def wJ(s:BA)(ds:List (Nat×Nat))(i:Nat):wQ s ds (qe s i) =
 if zh (bt s i) then
  if bt s (i+1)=44 then wQ s (ds++[(bt s i,i)]) (qe s (i+2)) else iA s (ds++[(bt s i,i)]) (i+1)
 else .error i:=by
 rw[ai];split
 .split
  .cases qe s (i+2) with
   |error k=>rfl
   |ok q=>simp[wQ]
  .rfl
 .rfl
inductive PB where
 |recd (fs:List PF)
 |enum (l:List (Nat×Nat)) (o:Option (Nat×Nat))
 |bytes (n:Nat)
 deriving Inhabited
def yZ(s:BA)(i:Nat):Except Nat (PB×Nat):=
 if bt s i=114 then
  match yp s (i+1) with
  | .error k=>.error k
  | .ok (ds,j)=>.ok (.recd ds,j)
 else if bt s i=101 then
  match xz s (i+1) with
  | .error k=>.error k
  | .ok ((l,o),j)=>.ok (.enum l o,j)
 else if bt s i=102 then
  if 48<=bt s (i+1)/\bt s (i+1)<=57 then .ok (.bytes (bt s (i+1)-48),i+2) else .error (i+1)
 else .error i
structure PD where
 letter:Nat
 place:Nat
 body:PB
 deriving Inhabited
def yb(s:BA):Nat->Nat->Except Nat (List PD×Nat)
 | 0,i=>.ok ([],i)
 |n+1,i=>
  if zp (bt s i)=true/\i+1<s.size then
   if bt s (i+1)=61 then
    match yZ s (i+2) with
    | .error k=>.error k
    | .ok (pb,j)=>
     if bt s j=59 then
      match yb s n (j+1) with
      | .error k=>.error k
      | .ok (ds,e)=>.ok (⟨bt s i,i,pb⟩::ds,e)
     else .error j
   else .error (i+1)
  else .ok ([],i)
def ze(s:BA):Except Nat (List PD×PT):=
 match yb s 6 0 with
 | .error k=>.error k
 | .ok (ds,i)=>
  match pT s i with
  | .error k=>.error k
  | .ok (t,j)=>if j<s.size then .error j else .ok (ds,t)
def jt(ds:List PD):Except Nat (List PD×Nat)->Except Nat (List PD×Nat)
 | .error k=>.error k
 | .ok (r,j)=>.ok (ds++r,j)
def ci(x:Except Nat (List PD×Nat)):jt [] x=x:=by
 match x with
 | .error k=>rfl
 | .ok (r,j)=>rfl
def km(s:BA)(n i:Nat)(ds:List PD):jt ds (yb s (n+1) i) =
 if zp (bt s i)=true/\i+1<s.size then
  if bt s (i+1)=61 then
   match yZ s (i+2) with
   | .error k=>.error k
   | .ok (pb,j)=>if bt s j=59 then jt (ds++[⟨bt s i,i,pb⟩]) (yb s n (j+1)) else .error j
  else .error (i+1)
 else .ok (ds,i):=by
 conv=>lhs;unfold yb
 split
 .split
  .cases yZ s (i+2) with
   |error k=>rfl
   |ok q=>
    obtain⟨pb,j⟩:=q;simp only;split
    .cases yb s n (j+1) with
     |error k=>rfl
     |ok q=>simp[jt]
    .rfl
  .rfl
 .simp[jt]
open Go.RowKit
section
variable {P:Program} {ops:Array Oper} {md:Region.Mode} {Q:Exit->Act->World->Prop} {C:World->Prop} {m:Nat}
def zI(P:Program)(md:Region.Mode)(ops:Array Oper)(m:Nat)(C:World->Prop)(Q:Exit->Act->World->Prop):Nat->Array Bool->Act->World->Prop
 | 0,listed,a,w=>(listed.getD m true=false->C w)/\Region.ready md ops listed=[]/\Q .normal a w
 |fuel+1,listed,a,w=>(listed.getD m true=false->C w)/\(Region.ready md ops listed=[]->Q .normal a w)/\
  ∀i∈Region.ready md ops listed,wpOp P ops Q i (zI P md ops m C Q fuel (listed.setIfInBounds i true)) a w
def zI.isIn:∀{fuel:Nat}{listed:Array Bool}{a:Act}{w:World},zI P md ops m C Q fuel listed a w->listed.getD m true=false->C w
 | 0,_,_,_,h=>h.1
 | _+1,_,_,_,h=>h.1
def zI.any:∀(fuel:Nat) (listed:Array Bool) (a:Act) (w:World),zI P md ops m C Q fuel listed a w->wpAny P md ops Q fuel listed a w
 | 0,_,_,_,h=>h.2
 |fuel+1,listed,_,_,h=>⟨h.2.1,λi hi=>wpOp_mono (λd w'=>zI.any fuel (listed.setIfInBounds i true) d w') (h.2.2 i hi)⟩
def jv(P:Program)(ops:Array Oper)(C:World->Prop)(o:Oper)(v:Value)(a:Act):Prop:=
 Region.wanted o (yielded ops a.tmps)=true/\∀w,C w->(execOp a.eval o).run P w=.ok (.value v) w
def Kb(k:oi.apart ops oj=true)(o:∀cs b,oi.op≠.select cs b)(p:∀cs b,oj.op≠.select cs b)(hQ:∀c a w,Q (.panic c) (a.put oi.dst v) w->Q (.panic c) a w){K:Act->World->Prop}{a:Act}{w:World}(hy:jv P ops C oi v a)(h:oj.wp P (a.put oi.dst v) w K Q):oj.wp P a w (λg w'=>jv P ops C oi v g/\K (g.put oi.dst v) w') Q:=by
 obtain⟨h1,g,n⟩:=Oper.apart_spec k;have k:∀(b:Act),jv P ops C oi v b->∀u,jv P ops C oi v (b.put oj.dst u):=λb hb u=>
  ⟨by rw[wanted_put oi b oj.dst u n];exact hb.1,λx hx=>by rw[execOp_put oi o b oj.dst u n];exact hb.2 x hx⟩
 unfold Oper.wp at h⊢;rw[execOp_put oj p a oi.dst v h1]at h;revert h;generalize (execOp a.eval oj).run P w=r;intro h
 match r,h with
 | .ok (.value u) w',h=>exact⟨k a hy u,by rw[<- Act.put_comm a v u g];exact h⟩
 | .ok .skip w',h=>exact⟨k a hy _,by rw[<- Act.put_comm a v undef g];exact h⟩
 | .ok (.defer d) w',h=>exact⟨k { a with defers:=d::a.defers } ⟨hy.1,hy.2⟩ _,by rw[<- Act.put_comm _ v undef g,<- Act.put_defers];exact h⟩
 | .ok (.enter f args) w',h=>
  refine Calls.mono h λe n he=>?_
  match e,he with
  | .returned u,he=>exact⟨k a hy u,by rw[<- Act.put_comm a v u g];exact he⟩
  | .panicked c,he=>exact hQ _ _ _ he
  | .outgrown,he=>exact he
 | .ok (.row row args) w',h=>exact Rows.mono h λu n he=>⟨k a hy u,by rw[<- Act.put_comm a v u g];exact he⟩
 | .halt (.panic u) w',h=>exact hQ _ _ _ h
def pe(n:ops[j]?=some oj)(e:oi.apart ops oj=true)(f:∀cs b,oi.op≠.select cs b)(g:∀cs b,oj.op≠.select cs b)(hQ:∀c a w,Q (.panic c) (a.put oi.dst v) w->Q (.panic c) a w){K:Act->World->Prop}{a:Act}{w:World}(hy:jv P ops C oi v a)(h:wpOp P ops Q j K (a.put oi.dst v) w):wpOp P ops Q j (λd w'=>jv P ops C oi v d/\K (d.put oi.dst v) w') a w:=by
 obtain⟨h1,k,d⟩:=Oper.apart_spec e;unfold wpOp at h⊢;simp only[n]at h⊢;rw[wanted_put oj a oi.dst v h1]at h;by_cases hw:Region.wanted oj (yielded ops a.tmps)=true
 .rw[i_ hw]at h⊢;refine h.imp (Kb e f g hQ hy) (λ⟨x,y⟩=>⟨?_,y⟩);unfold Oper.asks at x⊢;rw[execOp_put oj g a oi.dst v h1]at x;exact x
 .rw[n_ hw]at h⊢;refine⟨⟨by rw[wanted_put oi a oj.dst undef d];exact hy.1,λx hx=>by rw[execOp_put oi f a oj.dst undef d];exact hy.2 x hx⟩,?_⟩;rw[<- Act.put_comm a v undef k];exact h
def jv.wpOp{o:Oper}{w:World}(hi:ops[i]?=some o)(hy:jv P ops C o v a)(d:C w){K:Act->World->Prop}(h:K (a.put o.dst v) w):wpOp P ops Q i K a w:=by
 unfold Go.wpOp;simp only[hi];rw[i_ hy.1];exact .inl (by unfold Oper.wp;rw[hy.2 w d];exact h)
def vg(h:listed.getD i true=false):listed.getD i false≠true:=by
 rw[Array.getD_eq_getD_getElem?]at h⊢;cases hx:listed[i]? with
 |none=>decide
 |some x=>rw[hx]at h;simp only[Option.getD_some]at h⊢;rw[h];decide
def cq6_{p:Prop}(h:p:=by
 induction fuel with
 |zero=>
  intro listed a w hm _ hr hy d;have n:C w:=d.isIn (by rw[getD_set_ne true (Ne.symm hmi)];exact hm);refine⟨λ_=>n,λh=>absurd hr (by rw[h];exact a9_),λj o=>?_⟩;by_cases f:j=i
  .subst f;(first|(have:=cc1;exact hy.wpOp hi d)|(exact hy.wpOp hi n d))
  .have:=ready_mono o f;rw[d.2.1]at this;exact absurd this a9_
 |succ fuel ih=>
  intro listed a w hm r hr hy d;have n:C w:=d.isIn (by rw[getD_set_ne true (Ne.symm hmi)];exact hm);refine⟨λ_=>n,λh=>absurd hr (by rw[h];exact a9_),λj o=>?_⟩;by_cases f:j=i
  .subst f;(first|(have:=cc1;exact hy.wpOp hi d)|(exact hy.wpOp hi n d))
  .obtain⟨u,oj,g,F⟩:=mem_ready.1 o;have H:=(mem_ready.1 hr).1;have y:∀e∈oj.after,Region.binds md e=true->e.on≠i:=λe he hb G=>vg H (G▸F e he hb);have I:j≠m:=λe=>by
    obtain⟨x,hx,hb,L⟩:=hme;rw[e,hmo]at g;obtain rfl:=Option.some.inj g;exact y x hx hb L
   (first|(have:=cc1;have z:=bV g (r j oj g f u y) (λcs b=>hsel j oj cs b g) hQ hy (d.2.2 j (ready_mono o f)))|(have z:=pe g (r j oj g f u y) (λcs b=>hsel i oi cs b hi) (λcs b=>hsel j oj cs b g) hQ hy (d.2.2 j (ready_mono o f))));refine wpOp_mono (λE w' A=>ih (listed.setIfInBounds j true) E w' (by rw[getD_set_ne true I];exact hm) (λk ok hk J D K=>?_) (ready_mono hr (Ne.symm f)) A.1 ?_) z
   .refine r k ok hk J ?_ K;by_cases B:j=k
    .subst B;exact u
    .rw[getD_set_ne true B]at D;exact D
   .rw[cc_ _ _ f];exact A.2):p:=h
def db{om:Oper}(hi:ops[i]?=some oi)(hmo:ops[m]?=some om)(hme:∃e∈om.after,Region.binds md e=true/\e.on=i)(hmi:m≠i)(hsel:∀(j:Nat) (o:Oper) cs b,ops[j]?=some o->o.op≠.select cs b)(hQ:∀c a w,Q (.panic c) (a.put oi.dst v) w->Q (.panic c) a w)(fuel:Nat):∀(listed:Array Bool) (a:Act) (w:World),listed.getD m true=false->
  (∀j oj,ops[j]?=some oj->j≠i->listed.getD j true=false->(∀e∈oj.after,Region.binds md e=true->e.on≠i)->oi.apart ops oj=true)->
  i∈Region.ready md ops listed->jv P ops C oi v a->
  zI P md ops m C Q fuel (listed.setIfInBounds i true) (a.put oi.dst v) w->zI P md ops m C Q (fuel+1) listed a w:=by
 exact cq6_
def Region.mayFirst(md:Region.Mode)(ops:Array Oper)(listed:Array Bool)(m i:Nat):Bool:=
 Region.noSelect ops&&Region.free md ops listed i&&(Region.ready md ops listed).contains i && !(listed.getD m true)&&(m != i) &&
  match ops[m]? with
  |some om=>om.after.any λe=>Region.binds md e&&e.on==i
  |none=>false
def cq15_{p:Prop}(h:p:=by
 simp only[Region.mayFirst,ax_,bne_iff_ne,Bool.not_eq_true']at hf;obtain⟨⟨⟨⟨⟨hs,hf⟩,hr⟩,hm⟩,f⟩,hx⟩:=hf;cases d:ops[m]? with
 |none=>rw[d]at hx;exact absurd hx Bool.false_ne_true
 |some om=>
  rw[d]at hx;obtain⟨e,he,hb⟩:=Array.any_eq_true'.1 hx;simp only[ax_,beq_iff_eq]at hb;(first|(have:=cc1;exact cG hi d ⟨e,he,hb⟩ f (Region.noSelect_spec hs) hQ fuel listed a w hm (Region.free_spec hi hf) (by simpa using hr) hg h)|(exact db hi d ⟨e,he,hb⟩ f (Region.noSelect_spec hs) hQ fuel listed a w hm (Region.free_spec hi hf) (by simpa using hr) ⟨hg,hy⟩ h))):p:=h
def xD(i:Nat)(v:Value){w:World}(hi:ops[i]?=some oi)(hf:Region.mayFirst md ops listed m i=true)(hQ:∀c a w,Q (.panic c) (a.put oi.dst v) w->Q (.panic c) a w)(hg:Region.wanted oi (yielded ops a.tmps)=true)(hy:∀w,C w->(execOp a.eval oi).run P w=.ok (.value v) w)(h:zI P md ops m C Q fuel (listed.setIfInBounds i true) (a.put oi.dst v) w):zI P md ops m C Q (fuel+1) listed a w:=by
 exact cq15_
def ta_(i:Nat){w:World}(hi:ops[i]?=some oi)(hf:(Region.mayFirst md ops listed m i && Region.wanted oi (yielded ops a.tmps))=true)(hQ:∀c a w,Q (.panic c) (a.put oi.dst v) w->Q (.panic c) a w)(hy:∀w,C w->(execOp a.eval oi).run P w=.ok (.value v) w)(h:zI P md ops m C Q fuel (listed.setIfInBounds i true) (a.put oi.dst v) w):zI P md ops m C Q (fuel+1) listed a w:=by
 rw[Bool.and_eq_true]at hf;exact xD i v hi hf.1 hQ hf.2 hy h
def tb_(i:Nat){w:World}(hi:ops[i]?=some oi)(hf:Region.mayFirst md ops listed m i=true)(hQ:∀c a w,Q (.panic c) (a.put oi.dst v) w->Q (.panic c) a w)(hg:Region.wanted oi (yielded ops a.tmps)=true)(hy:∀w,C w->(execOp a.eval oi).run P w=.ok (.value v) w)(h:zI P md ops m C Q fuel (listed.setIfInBounds i true) (a.put oi.dst v) w):zI P md ops m C Q (fuel+1) listed a w:=xD i v hi hf hQ hg hy h
def tz_(i:Nat){w:World}(h:zI P md ops m C Q fuel (listed.setIfInBounds i true) (a.put oi.dst v) w)(hi:ops[i]?=some oi:=by rfl)(hf:(Region.mayFirst md ops listed m i&&Region.wanted oi (yielded ops a.tmps))=true:=by kernel_rfl)(hQ:∀c a w,Q (.panic c) (a.put oi.dst v) w->Q (.panic c) a w:=by exact λ_ _ _ h=>h)(hy:∀w,C w->(execOp a.eval oi).run P w=.ok (.value v) w:=by first|(rintro W ⟨h1,d,e,f,g,k,n,o⟩;go_simp<;>rfl)|(rintro W ⟨h1,d,e,f,g,k,n⟩;go_simp<;>rfl)|(rintro W ⟨h1,d,e,f,g,k⟩;go_simp<;>rfl)|(rintro W ⟨h1,d,e,f,g⟩;go_simp<;>rfl)|(rintro W ⟨h1,d,e,f⟩;go_simp<;>rfl)|(rintro W ⟨h1,d,e⟩;go_simp<;>rfl)|(rintro W ⟨h1,d⟩;go_simp<;>rfl)|(intro W h1;go_simp<;>rfl)):zI P md ops m C Q (fuel+1) listed a w:=by
 rw[ax_]at hf;exact xD i v hi hf.1 hQ hf.2 hy h
def cq16_{p:Prop}(h:p:=by
 refine⟨hC,λh0=>by rw[h0]at hr;exact absurd hr (by simp),λj d=>?_⟩;rw[hr]at d;obtain rfl:j=i:=by simpa using d
 unfold wpOp;simp only[hi];have:=h _ (λ_ _ h=>h);split
 .rename_i hg;rw[i_ hg]at this;exact .inl this
 .rename_i hg;rw[n_ hg]at this;exact this):p:=h
def zw(i:Nat){w:World}(hi:ops[i]?=some oi)(hr:Region.ready md ops listed=[i])(hC:listed.getD m true=false->C w)(h:∀K:Act->World->Prop,(∀a' w',zI P md ops m C Q fuel (listed.setIfInBounds i true) a' w'->K a' w')->if Region.wanted oi (yielded ops a.tmps)=true then oi.wp P a w K Q else K (a.put oi.dst undef) w):zI P md ops m C Q (fuel+1) listed a w:=by
 exact cq16_
def t1_(i:Nat){w:World}(c:C w)(h:q)(hi:ops[i]?=some oi:=by rfl)(hr:Region.ready md ops listed=[i]:=by kernel_rfl)(f:q->∀K:Act->World->Prop,(∀d w',zI P md ops m C Q fuel (listed.setIfInBounds i true) d w'->K d w')->if Region.wanted oi (yielded ops a.tmps)=true then oi.wp P a w K Q else K (a.put oi.dst undef) w:=by (intro e K d;go_simp;refine d _ _ ?_;exact e)):zI P md ops m C Q (fuel+1) listed a w:=zw i hi hr (λ_=>c) (f h)
def t0_(i:Nat){w:World}(h:q)(hi:ops[i]?=some oi:=by rfl)(hr:Region.ready md ops listed=[i]:=by kernel_rfl)(e:listed.getD m true=false->C w:=by exact λhm=>absurd hm (by decide))(f:q->∀K:Act->World->Prop,(∀d w',zI P md ops m C Q fuel (listed.setIfInBounds i true) d w'->K d w')->if Region.wanted oi (yielded ops a.tmps)=true then oi.wp P a w K Q else K (a.put oi.dst undef) w:=by (intro g K d;go_simp;refine d _ _ ?_;exact g)):zI P md ops m C Q (fuel+1) listed a w:=zw i hi hr e (f h)
def nH{w:World}(hr:Region.ready md ops listed=[])(d:listed.getD m true=false->C w)(h:Q .normal a w):∀fuel,zI P md ops m C Q fuel listed a w
 | 0=>⟨d,hr,h⟩
 | _+1=>⟨d,λ_=>h,λi hi=>by rw[hr]at hi;exact absurd hi a9_⟩
def td_{w:World}(h:Q .normal a w)(fuel:Nat)(hr:Region.ready md ops listed=[]:=by kernel_rfl)(d:listed.getD m true=false->C w:=by exact λhm=>absurd hm (by decide)):zI P md ops m C Q fuel listed a w:=nH hr d h fuel
def eH{id:Nat}{w:World}(m:Nat)(C:World->Prop)(hm:P.follows .mixedOrders=true)(h:zI P .any ops m C Q ops.size (Array.replicate ops.size false) a w.drew):(Code.region id ops true).wp P Q a w:=wp_region_any hm (zI.any _ _ _ _ h)
def tr_{id:Nat}{w:World}(m:Nat)(C:World->Prop)(h:zI P .any ops m C Q ops.size (Array.replicate ops.size false) a w.drew)(hm:P.follows .mixedOrders=true:=by kernel_rfl):(Code.region id ops true).wp P Q a w:=eH m C hm h
end
open Go.RowKit
section
variable {P:Program} {ops:Array Oper} {md:Region.Mode} {Q:Exit->Act->World->Prop} {C:World->Prop} {m:Nat}
def kU(ops:Array Oper)(o:Oper)(a:Act):Prop:=Region.wanted o (yielded ops a.tmps)=false
def YZ(k:oi.apart ops oj=true)(o:∀cs b,oj.op≠.select cs b)(hQ:∀c a w,Q (.panic c) (a.put oi.dst undef) w->Q (.panic c) a w){K:Act->World->Prop}{a:Act}{w:World}(hy:kU ops oi a)(h:oj.wp P (a.put oi.dst undef) w K Q):oj.wp P a w (λg w'=>kU ops oi g/\K (g.put oi.dst undef) w') Q:=by
 obtain⟨h1,g,n⟩:=Oper.apart_spec k;have k:∀(b:Act),kU ops oi b->∀u,kU ops oi (b.put oj.dst u):=λb hb u=>by
  unfold kU;rw[wanted_put oi b oj.dst u n];exact hb
 unfold Oper.wp at h⊢;rw[execOp_put oj o a oi.dst undef h1]at h;revert h;generalize (execOp a.eval oj).run P w=r;intro h
 match r,h with
 | .ok (.value u) w',h=>exact⟨k a hy u,by rw[<- Act.put_comm a undef u g];exact h⟩
 | .ok .skip w',h=>exact⟨k a hy _,by rw[<- Act.put_comm a undef undef g];exact h⟩
 | .ok (.defer d) w',h=>exact⟨k { a with defers:=d::a.defers } hy _,by rw[<- Act.put_comm _ undef undef g,<- Act.put_defers];exact h⟩
 | .ok (.enter f args) w',h=>
  refine Calls.mono h λe n he=>?_
  match e,he with
  | .returned u,he=>exact⟨k a hy u,by rw[<- Act.put_comm a undef u g];exact he⟩
  | .panicked c,he=>exact hQ _ _ _ he
  | .outgrown,he=>exact he
 | .ok (.row row args) w',h=>exact Rows.mono h λu n he=>⟨k a hy u,by rw[<- Act.put_comm a undef u g];exact he⟩
 | .halt (.panic u) w',h=>exact hQ _ _ _ h
def bV(k:ops[j]?=some oj)(e:oi.apart ops oj=true)(f:∀cs b,oj.op≠.select cs b)(hQ:∀c a w,Q (.panic c) (a.put oi.dst undef) w->Q (.panic c) a w){K:Act->World->Prop}{a:Act}{w:World}(hy:kU ops oi a)(h:wpOp P ops Q j K (a.put oi.dst undef) w):wpOp P ops Q j (λd w'=>kU ops oi d/\K (d.put oi.dst undef) w') a w:=by
 obtain⟨h1,d,g⟩:=Oper.apart_spec e;unfold wpOp at h⊢;simp only[k]at h⊢;rw[wanted_put oj a oi.dst undef h1]at h;by_cases hw:Region.wanted oj (yielded ops a.tmps)=true
 .rw[i_ hw]at h⊢;refine h.imp (YZ e f hQ hy) (λ⟨x,y⟩=>⟨?_,y⟩);unfold Oper.asks at x⊢;rw[execOp_put oj f a oi.dst undef h1]at x;exact x
 .rw[n_ hw]at h⊢;refine⟨by unfold kU;rw[wanted_put oi a oj.dst undef g];exact hy,?_⟩;rw[<- Act.put_comm a undef undef d];exact h
def kU.wpOp{o:Oper}{w:World}(hi:ops[i]?=some o)(hy:kU ops o a){K:Act->World->Prop}(h:K (a.put o.dst undef) w):wpOp P ops Q i K a w:=by
 unfold Go.wpOp;simp only[hi];rw[n_ (by rw[show Region.wanted o (yielded ops a.tmps)=false from hy];decide)];exact h
def cG{om:Oper}(hi:ops[i]?=some oi)(hmo:ops[m]?=some om)(hme:∃e∈om.after,Region.binds md e=true/\e.on=i)(hmi:m≠i)(hsel:∀(j:Nat) (o:Oper) cs b,ops[j]?=some o->o.op≠.select cs b)(hQ:∀c a w,Q (.panic c) (a.put oi.dst undef) w->Q (.panic c) a w)(fuel:Nat):∀(listed:Array Bool) (a:Act) (w:World),listed.getD m true=false->
  (∀j oj,ops[j]?=some oj->j≠i->listed.getD j true=false->(∀e∈oj.after,Region.binds md e=true->e.on≠i)->oi.apart ops oj=true)->
  i∈Region.ready md ops listed->kU ops oi a->
  zI P md ops m C Q fuel (listed.setIfInBounds i true) (a.put oi.dst undef) w->zI P md ops m C Q (fuel+1) listed a w:=by
 have cc1:=trivial
 exact cq6_
def xN(i:Nat){w:World}(hi:ops[i]?=some oi)(hf:Region.mayFirst md ops listed m i=true)(hQ:∀c a w,Q (.panic c) (a.put oi.dst undef) w->Q (.panic c) a w)(hg:Region.wanted oi (yielded ops a.tmps)=false)(h:zI P md ops m C Q fuel (listed.setIfInBounds i true) (a.put oi.dst undef) w):zI P md ops m C Q (fuel+1) listed a w:=by
 have cc1:=trivial
 exact cq15_
end
open Go.RowKit
section
variable {P:Program} {ops:Array Oper} {md:Region.Mode} {Q:Exit->Act->World->Prop} {C:World->Prop}
def yU(P:Program)(md:Region.Mode)(ops:Array Oper)(C:World->Prop)(Q:Exit->Act->World->Prop):Nat->Array Bool->Act->World->Prop
 | 0,listed,a,w=>C w/\Region.ready md ops listed=[]/\Q .normal a w
 |fuel+1,listed,a,w=>C w/\(Region.ready md ops listed=[]->Q .normal a w)/\
  ∀i∈Region.ready md ops listed,wpOp P ops Q i (yU P md ops C Q fuel (listed.setIfInBounds i true)) a w
def yU.isIn:∀{fuel:Nat}{listed:Array Bool}{a:Act}{w:World},yU P md ops C Q fuel listed a w->C w
 | 0,_,_,_,h=>h.1
 | _+1,_,_,_,h=>h.1
def yU.any:∀(fuel:Nat) (listed:Array Bool) (a:Act) (w:World),yU P md ops C Q fuel listed a w->wpAny P md ops Q fuel listed a w
 | 0,_,_,_,h=>h.2
 |fuel+1,listed,_,_,h=>⟨h.2.1,λi hi=>wpOp_mono (λd w'=>yU.any fuel (listed.setIfInBounds i true) d w') (h.2.2 i hi)⟩
def cq9_{p:Prop}(h:p:=by
 induction fuel with
 |zero=>
  intro listed a w _ hr hy d;have n:C w:=d.isIn;refine⟨n,λh=>absurd hr (by rw[h];exact a9_),λj o=>?_⟩;by_cases f:j=i
  .subst f;(first|(have:=cc1;exact hy.wpOp hi d)|(exact hy.wpOp hi n d))
  .have:=ready_mono o f;rw[d.2.1]at this;exact absurd this a9_
 |succ fuel ih=>
  intro listed a w r hr hy d;have n:C w:=d.isIn;refine⟨n,λh=>absurd hr (by rw[h];exact a9_),λj o=>?_⟩;by_cases f:j=i
  .subst f;(first|(have:=cc1;exact hy.wpOp hi d)|(exact hy.wpOp hi n d))
  .obtain⟨u,oj,g,E⟩:=mem_ready.1 o;have G:=(mem_ready.1 hr).1;have A:∀e∈oj.after,Region.binds md e=true->e.on≠i:=λe he hb F=>vg G (F▸E e he hb);(first|(have:=cc1;have x:=bV g (r j oj g f u A) (λcs b=>hsel j oj cs b g) hQ hy (d.2.2 j (ready_mono o f)))|(have x:=pe g (r j oj g f u A) (λcs b=>hsel i oi cs b hi) (λcs b=>hsel j oj cs b g) hQ hy (d.2.2 j (ready_mono o f))));refine wpOp_mono (λD w' y=>ih (listed.setIfInBounds j true) D w' (λk ok hk H B I=>?_) (ready_mono hr (Ne.symm f)) y.1 ?_) x
   .refine r k ok hk H ?_ I;by_cases z:j=k
    .subst z;exact u
    .rw[getD_set_ne true z]at B;exact B
   .rw[cc_ _ _ f];exact y.2):p:=h
def dh(hi:ops[i]?=some oi)(hsel:∀(j:Nat) (o:Oper) cs b,ops[j]?=some o->o.op≠.select cs b)(hQ:∀c a w,Q (.panic c) (a.put oi.dst v) w->Q (.panic c) a w)(fuel:Nat):∀(listed:Array Bool) (a:Act) (w:World),
  (∀j oj,ops[j]?=some oj->j≠i->listed.getD j true=false->(∀e∈oj.after,Region.binds md e=true->e.on≠i)->oi.apart ops oj=true)->
  i∈Region.ready md ops listed->jv P ops C oi v a->
  yU P md ops C Q fuel (listed.setIfInBounds i true) (a.put oi.dst v) w->yU P md ops C Q (fuel+1) listed a w:=by
 exact cq9_
def cP(hi:ops[i]?=some oi)(hsel:∀(j:Nat) (o:Oper) cs b,ops[j]?=some o->o.op≠.select cs b)(hQ:∀c a w,Q (.panic c) (a.put oi.dst undef) w->Q (.panic c) a w)(fuel:Nat):∀(listed:Array Bool) (a:Act) (w:World),
  (∀j oj,ops[j]?=some oj->j≠i->listed.getD j true=false->(∀e∈oj.after,Region.binds md e=true->e.on≠i)->oi.apart ops oj=true)->
  i∈Region.ready md ops listed->kU ops oi a->
  yU P md ops C Q fuel (listed.setIfInBounds i true) (a.put oi.dst undef) w->yU P md ops C Q (fuel+1) listed a w:=by
 have cc1:=trivial
 exact cq9_
def Region.mayAll(md:Region.Mode)(ops:Array Oper)(listed:Array Bool)(i:Nat):Bool:=
 Region.noSelect ops&&Region.free md ops listed i&&(Region.ready md ops listed).contains i
def zF(i:Nat)(v:Value){w:World}(hi:ops[i]?=some oi)(hf:Region.mayAll md ops listed i=true)(hQ:∀c a w,Q (.panic c) (a.put oi.dst v) w->Q (.panic c) a w)(hg:Region.wanted oi (yielded ops a.tmps)=true)(hy:∀w,C w->(execOp a.eval oi).run P w=.ok (.value v) w)(h:yU P md ops C Q fuel (listed.setIfInBounds i true) (a.put oi.dst v) w):yU P md ops C Q (fuel+1) listed a w:=by
 simp only[Region.mayAll,ax_]at hf;obtain⟨⟨hs,hf⟩,hr⟩:=hf;exact dh hi (Region.noSelect_spec hs) hQ fuel listed a w (Region.free_spec hi hf) (by simpa using hr) ⟨hg,hy⟩ h
def tA_(i:Nat){w:World}(hi:ops[i]?=some oi)(hf:(Region.mayAll md ops listed i && Region.wanted oi (yielded ops a.tmps))=true)(hQ:∀c a w,Q (.panic c) (a.put oi.dst v) w->Q (.panic c) a w)(hy:∀w,C w->(execOp a.eval oi).run P w=.ok (.value v) w)(h:yU P md ops C Q fuel (listed.setIfInBounds i true) (a.put oi.dst v) w):yU P md ops C Q (fuel+1) listed a w:=by
 rw[Bool.and_eq_true]at hf;exact zF i v hi hf.1 hQ hf.2 hy h
def tY_(i:Nat){w:World}(h:yU P md ops C Q fuel (listed.setIfInBounds i true) (a.put oi.dst v) w)(hi:ops[i]?=some oi:=by rfl)(hf:(Region.mayAll md ops listed i&&Region.wanted oi (yielded ops a.tmps))=true:=by kernel_rfl)(hQ:∀c a w,Q (.panic c) (a.put oi.dst v) w->Q (.panic c) a w:=by exact λ_ _ _ h=>h)(hy:∀w,C w->(execOp a.eval oi).run P w=.ok (.value v) w:=by first|(rintro W ⟨h1,d,e,f,g,k,n,o⟩;go_simp<;>rfl)|(rintro W ⟨h1,d,e,f,g,k,n⟩;go_simp<;>rfl)|(rintro W ⟨h1,d,e,f,g,k⟩;go_simp<;>rfl)|(rintro W ⟨h1,d,e,f,g⟩;go_simp<;>rfl)|(rintro W ⟨h1,d,e,f⟩;go_simp<;>rfl)|(rintro W ⟨h1,d,e⟩;go_simp<;>rfl)|(rintro W ⟨h1,d⟩;go_simp<;>rfl)|(intro W h1;go_simp<;>rfl)):yU P md ops C Q (fuel+1) listed a w:=by
 rw[ax_]at hf;exact zF i v hi hf.1 hQ hf.2 hy h
def xS(i:Nat){w:World}(hi:ops[i]?=some oi)(hf:Region.mayAll md ops listed i=true)(hQ:∀c a w,Q (.panic c) (a.put oi.dst undef) w->Q (.panic c) a w)(hg:Region.wanted oi (yielded ops a.tmps)=false)(h:yU P md ops C Q fuel (listed.setIfInBounds i true) (a.put oi.dst undef) w):yU P md ops C Q (fuel+1) listed a w:=by
 simp only[Region.mayAll,ax_]at hf;obtain⟨⟨hs,hf⟩,hr⟩:=hf;exact cP hi (Region.noSelect_spec hs) hQ fuel listed a w (Region.free_spec hi hf) (by simpa using hr) hg h
def zL(i:Nat){w:World}(hi:ops[i]?=some oi)(hr:Region.ready md ops listed=[i])(hC:C w)(h:∀K:Act->World->Prop,(∀a' w',yU P md ops C Q fuel (listed.setIfInBounds i true) a' w'->K a' w')->if Region.wanted oi (yielded ops a.tmps)=true then oi.wp P a w K Q else K (a.put oi.dst undef) w):yU P md ops C Q (fuel+1) listed a w:=by
 have cc1:=trivial
 exact cq16_
def t2_(i:Nat){w:World}(c:C w)(h:q)(hi:ops[i]?=some oi:=by rfl)(hr:Region.ready md ops listed=[i]:=by kernel_rfl)(f:q->∀K:Act->World->Prop,(∀d w',yU P md ops C Q fuel (listed.setIfInBounds i true) d w'->K d w')->if Region.wanted oi (yielded ops a.tmps)=true then oi.wp P a w K Q else K (a.put oi.dst undef) w:=by (intro e K d;go_simp;refine d _ _ ?_;exact e)):yU P md ops C Q (fuel+1) listed a w:=zL i hi hr c (f h)
def yh{w:World}(hr:Region.ready md ops listed=[])(d:C w)(h:Q .normal a w):∀fuel,yU P md ops C Q fuel listed a w
 | 0=>⟨d,hr,h⟩
 | _+1=>⟨d,λ_=>h,λi hi=>by rw[hr]at hi;exact absurd hi a9_⟩
def dq{id:Nat}{w:World}(C:World->Prop)(hm:P.follows .mixedOrders=true)(h:yU P .any ops C Q ops.size (Array.replicate ops.size false) a w.drew):(Code.region id ops true).wp P Q a w:=wp_region_any hm (yU.any _ _ _ _ h)
def tR_{id:Nat}{w:World}(C:World->Prop)(h:yU P .any ops C Q ops.size (Array.replicate ops.size false) a w.drew)(hm:P.follows .mixedOrders=true:=by kernel_rfl):(Code.region id ops true).wp P Q a w:=dq C hm h
end
open Go.RowKit
def zi(u:World)(o:Obj):(u.alloc o).heap.size=u.heap.size+1:=by show(u.heap.push _).size=_;simp
section
variable {P:Program} {ops:Array Oper} {md:Region.Mode} {Q:Exit->Act->World->Prop} {C:World->Prop} {m:Nat}
def Pk(md:Region.Mode)(ops:Array Oper)(listed:Array Bool)(i:Nat)(B:List Nat):Prop:=
 ∀b∈B,listed.getD b true=false/\∃ob,ops[b]?=some ob/\∃e∈ob.after,Region.binds md e=true/\(e.on=i\/e.on∈B)
def cF{B:List Nat}(hi:ops[i]?=some oi)(p:m∈B)(d:i∉B)(A:∀(j:Nat) (o:Oper) cs b,ops[j]?=some o->o.op≠.select cs b)(hQ:∀c a w,Q (.panic c) (a.put oi.dst v) w->Q (.panic c) a w)(fuel:Nat):∀(listed:Array Bool) (a:Act) (w:World),Pk md ops listed i B->
  (∀j oj,ops[j]?=some oj->j≠i->listed.getD j true=false->(∀e∈oj.after,Region.binds md e=true->e.on≠i)->oi.apart ops oj=true)->
  i∈Region.ready md ops listed->jv P ops C oi v a->
  zI P md ops m C Q fuel (listed.setIfInBounds i true) (a.put oi.dst v) w->zI P md ops m C Q (fuel+1) listed a w:=by
 have r:m≠i:=λe=>d (e▸p);induction fuel with
 |zero=>
  intro listed a w hB _ hr hy f;have g:C w:=f.isIn (by rw[getD_set_ne true (Ne.symm r)];exact(hB m p).1);refine⟨λ_=>g,λh=>absurd hr (by rw[h];exact a9_),λj n=>?_⟩;by_cases d:j=i
  .subst d;exact hy.wpOp hi g f
  .have:=ready_mono n d;rw[f.2.1]at this;exact absurd this a9_
 |succ fuel ih=>
  intro listed a w hB u hr hy f;have g:C w:=f.isIn (by rw[getD_set_ne true (Ne.symm r)];exact(hB m p).1);refine⟨λ_=>g,λh=>absurd hr (by rw[h];exact a9_),λj n=>?_⟩;by_cases d:j=i
  .subst d;exact hy.wpOp hi g f
  .obtain⟨y,oj,p,r⟩:=mem_ready.1 n;have D:=(mem_ready.1 hr).1;have z:∀e∈oj.after,Region.binds md e=true->e.on≠i:=λe he hb g=>vg D (g▸r e he hb);have E:j∉B:=λD=>by
    obtain⟨_,g,ho,x,hx,hb,g⟩:=hB j D;rw[p]at ho;obtain rfl:=Option.some.inj ho;rcases g with g|g
    .exact z x hx hb g
    .exact vg (hB _ g).1 (r x hx hb)
   have r:=pe p (u j oj p d y z) (λcs b=>A i oi cs b hi) (λcs b=>A j oj cs b p) hQ hy (f.2.2 j (ready_mono n d));refine wpOp_mono (λg w' f=>ih (listed.setIfInBounds j true) g w' (λb hb=>⟨by rw[getD_set_ne true (show j≠b from λe=>E (e▸hb))];exact(hB b hb).1,(hB b hb).2⟩) (λk ok hk g n p=>?_) (ready_mono hr (Ne.symm d)) f.1 ?_) r
   .refine u k ok hk g ?_ p;by_cases g:j=k
    .subst g;exact y
    .rw[getD_set_ne true g]at n;exact n
   .rw[cc_ _ _ d];exact f.2
def Region.mayB(md:Region.Mode)(ops:Array Oper)(listed:Array Bool)(m i:Nat)(B:List Nat):Bool:=
 Region.noSelect ops&&Region.free md ops listed i&&(Region.ready md ops listed).contains i&&B.contains m && !(B.contains i) &&
  B.all λb=>!(listed.getD b true)&&match ops[b]? with
  |some ob=>ob.after.any λe=>Region.binds md e&&(e.on==i||B.contains e.on)
  |none=>false
def dp(i:Nat)(B:List Nat)(v:Value){w:World}(hi:ops[i]?=some oi)(hf:Region.mayB md ops listed m i B=true)(hQ:∀c a w,Q (.panic c) (a.put oi.dst v) w->Q (.panic c) a w)(hg:Region.wanted oi (yielded ops a.tmps)=true)(hy:∀w,C w->(execOp a.eval oi).run P w=.ok (.value v) w)(h:zI P md ops m C Q fuel (listed.setIfInBounds i true) (a.put oi.dst v) w):zI P md ops m C Q (fuel+1) listed a w:=by
 simp only[Region.mayB,ax_,Bool.not_eq_true']at hf;obtain⟨⟨⟨⟨⟨hs,hf⟩,hr⟩,hm⟩,d⟩,hx⟩:=hf;refine cF hi (by simpa using hm) (by simpa using d) (Region.noSelect_spec hs) hQ fuel listed a w (λb hb=>?_) (Region.free_spec hi hf) (by simpa using hr) ⟨hg,hy⟩ h;have:=List.all_eq_true.1 hx b hb;simp only[ax_,Bool.not_eq_true']at this;refine⟨this.1,?_⟩;have d:=this.2;cases ho:ops[b]? with
 |none=>rw[ho]at d;exact absurd d Bool.false_ne_true
 |some ob=>
  rw[ho]at d;obtain⟨e,he,hb⟩:=Array.any_eq_true'.1 d;simp only[ax_,au_,beq_iff_eq]at hb;exact⟨ob,rfl,e,he,hb.1,hb.2.imp id (λh=>by simpa using h)⟩
def tB_(i:Nat)(B:List Nat){w:World}(h:zI P md ops m C Q fuel (listed.setIfInBounds i true) (a.put oi.dst v) w)(hi:ops[i]?=some oi:=by rfl)(hf:(Region.mayB md ops listed m i B&&Region.wanted oi (yielded ops a.tmps))=true:=by kernel_rfl)(hQ:∀c a w,Q (.panic c) (a.put oi.dst v) w->Q (.panic c) a w:=by exact λ_ _ _ h=>h)(hy:∀w,C w->(execOp a.eval oi).run P w=.ok (.value v) w:=by first|(rintro W ⟨h1,d,e,f,g,k,n,o⟩;go_simp<;>rfl)|(rintro W ⟨h1,d,e,f,g,k,n⟩;go_simp<;>rfl)|(rintro W ⟨h1,d,e,f,g,k⟩;go_simp<;>rfl)|(rintro W ⟨h1,d,e,f,g⟩;go_simp<;>rfl)|(rintro W ⟨h1,d,e,f⟩;go_simp<;>rfl)|(rintro W ⟨h1,d,e⟩;go_simp<;>rfl)|(rintro W ⟨h1,d⟩;go_simp<;>rfl)|(intro W h1;go_simp<;>rfl)):zI P md ops m C Q (fuel+1) listed a w:=by
 rw[ax_]at hf;exact dp i B v hi hf.1 hQ hf.2 hy h
def jp(i j:Nat){w:World}(hi:ops[i]?=some oi)(g:ops[j]?=some oj)(hr:Region.ready md ops listed=[i,j])(f:listed.getD m true=false->C w)(h:∀K:Act->World->Prop,(∀d w',zI P md ops m C Q fuel (listed.setIfInBounds i true) d w'->K d w')->if Region.wanted oi (yielded ops a.tmps)=true then oi.wp P a w K Q else K (a.put oi.dst undef) w)(e:∀K:Act->World->Prop,(∀d w',zI P md ops m C Q fuel (listed.setIfInBounds j true) d w'->K d w')->if Region.wanted oj (yielded ops a.tmps)=true then oj.wp P a w K Q else K (a.put oj.dst undef) w):zI P md ops m C Q (fuel+1) listed a w:=by
 refine⟨f,λh0=>by rw[h0]at hr;exact absurd hr (by simp),λk hk=>?_⟩;rw[hr]at hk;unfold wpOp;rcases(by simpa using hk:k=i\/k=j) with rfl|rfl
 .simp only[hi];have:=h _ (λ_ _ h=>h);split
  .rename_i hg;rw[i_ hg]at this;exact .inl this
  .rename_i hg;rw[n_ hg]at this;exact this
 .simp only[g];have:=e _ (λ_ _ h=>h);split
  .rename_i hg;rw[i_ hg]at this;exact .inl this
  .rename_i hg;rw[n_ hg]at this;exact this
end
open Go.RowKit
def yB(T I:TypeId)(h:∀(v:Value) (w:World),(Instr.typeAssert (.iface T v) I T true).run prog w=.ok (.tuple #[v,.bool true]) w:=by exact λ_ _=>by kernel_rfl):∀(v:Value) (w:World),(Instr.typeAssert (.iface T v) I T true).run prog w=.ok (.tuple #[v,.bool true]) w:=h
def vv(T I:TypeId)(z:Value)(h:∀(u:TypeId) (v:Value) (w:World),(Instr.typeAssert (.iface u v) I T true).run prog w=(if u=T then (pure (Value.tuple #[v,.bool true]):Sem Value) else (do pure (Value.tuple #[<- zeroValue T,.bool false]))).run prog w:=by exact λ_ _ _=>by kernel_rfl)(d:∀(w:World),(do pure (Value.tuple #[<- zeroValue T,.bool false]):Sem Value).run prog w=.ok (.tuple #[z,.bool false]) w:=by exact λ_=>by kernel_rfl):∀u,u≠T->∀(v:Value) (w:World),(Instr.typeAssert (.iface u v) I T true).run prog w=.ok (.tuple #[z,.bool false]) w:=by
 intro u hu v w;rw[h,n_ hu];exact d w
def Blk(w:World)(b:Nat)(cs:List Value)(t:TypeId):Prop:=w.heap[b]?=some (.cells cs.toArray t (0,0))
def Blk.cell{w:World}(h:Blk w b cs t)(o:Nat):w.cell? ⟨b,o,none⟩=cs[o]?:=by
 unfold Blk at h;simp[World.cell?,h]
def W_:=@Blk.cell
def Blk.th{w:World}(h:Blk w b cs t)(o:Nat):w.frozen? ⟨b,o,none⟩=false:=by
 unfold Blk at h;simp[World.frozen?,h]
def Blk.c0{w:World}(h:Blk w b (v0::l) t):w.cell? ⟨b,0,none⟩=some v0:=h.cell 0
def Blk.c1{w:World}(h:Blk w b (v0::v1::l) t):w.cell? ⟨b,1,none⟩=some v1:=h.cell 1
def Blk.c2{w:World}(h:Blk w b (v0::v1::v2::l) t):w.cell? ⟨b,2,none⟩=some v2:=h.cell 2
def Blk.c3{w:World}(h:Blk w b (v0::v1::v2::v3::l) t):w.cell? ⟨b,3,none⟩=some v3:=h.cell 3
def Blk.c4{w:World}(h:Blk w b (v0::v1::v2::v3::v4::l) t):w.cell? ⟨b,4,none⟩=some v4:=h.cell 4
def Blk.c5{w:World}(h:Blk w b (v0::v1::v2::v3::v4::v5::l) t):w.cell? ⟨b,5,none⟩=some v5:=h.cell 5
def Blk.c6{w:World}(h:Blk w b (v0::v1::v2::v3::v4::v5::v6::l) t):w.cell? ⟨b,6,none⟩=some v6:=h.cell 6
def Blk.c7{w:World}(h:Blk w b (v0::v1::v2::v3::v4::v5::v6::v7::l) t):w.cell? ⟨b,7,none⟩=some v7:=h.cell 7
def Blk.c8{w:World}{d:Value}(h:Blk w b (v0::v1::v2::v3::v4::v5::v6::v7::d::l) t):w.cell? ⟨b,8,none⟩=some d:=h.cell 8
def Blk.c9{w:World}{e d:Value}(h:Blk w b (v0::v1::v2::v3::v4::v5::v6::v7::e::d::l) t):w.cell? ⟨b,9,none⟩=some d:=h.cell 9
def Blk.d3{w:World}(h:Blk w b (v0::v1::v2::l) t):w.cell? ⟨b,0,none⟩=some v0/\w.cell? ⟨b,1,none⟩=some v1/\w.cell? ⟨b,2,none⟩=some v2:=⟨h.cell 0,h.cell 1,h.cell 2⟩
def Blk.d4{w:World}(h:Blk w b (v0::v1::v2::v3::l) t):w.cell? ⟨b,0,none⟩=some v0/\w.cell? ⟨b,1,none⟩=some v1/\w.cell? ⟨b,2,none⟩=some v2/\w.cell? ⟨b,3,none⟩=some v3:=⟨h.cell 0,h.cell 1,h.cell 2,h.cell 3⟩
def Blk.d5{w:World}(h:Blk w b (v0::v1::v2::v3::v4::l) t):w.cell? ⟨b,0,none⟩=some v0/\w.cell? ⟨b,1,none⟩=some v1/\w.cell? ⟨b,2,none⟩=some v2/\w.cell? ⟨b,3,none⟩=some v3/\w.cell? ⟨b,4,none⟩=some v4:=⟨h.cell 0,h.cell 1,h.cell 2,h.cell 3,h.cell 4⟩
def Blk.t3{w:World}(h:Blk w b l t):w.frozen? ⟨b,0,none⟩=false/\w.frozen? ⟨b,1,none⟩=false/\w.frozen? ⟨b,2,none⟩=false:=⟨h.th 0,h.th 1,h.th 2⟩
def Blk.t4{w:World}(h:Blk w b l t):w.frozen? ⟨b,0,none⟩=false/\w.frozen? ⟨b,1,none⟩=false/\w.frozen? ⟨b,2,none⟩=false/\w.frozen? ⟨b,3,none⟩=false:=⟨h.th 0,h.th 1,h.th 2,h.th 3⟩
def Blk.t5{w:World}(h:Blk w b l t):w.frozen? ⟨b,0,none⟩=false/\w.frozen? ⟨b,1,none⟩=false/\w.frozen? ⟨b,2,none⟩=false/\w.frozen? ⟨b,3,none⟩=false/\w.frozen? ⟨b,4,none⟩=false:=⟨h.th 0,h.th 1,h.th 2,h.th 3,h.th 4⟩
def Blk.lt{w:World}(h:Blk w b cs t):b<w.heap.size:=by
 unfold Blk at h;exact(Array.getElem?_eq_some_iff.1 h).1
def Blk.set{w:World}(h:Blk w b cs t)(o:Nat)(v:Value):Blk (w.setCell ⟨b,o,none⟩ v) b (cs.set o v) t:=by
 unfold Blk at *;simp[World.setCell,Array.getElem?_modify,h]
def T_:=@Blk.set
def Blk.other{w:World}(h:Blk w b cs t){a:Addr}(v:Value)(hb:b≠a.block):Blk (w.setCell a v) b cs t:=by
 unfold Blk at *;rw[Below.heap_setCell _ _ _ _ hb];exact h
def F_:=@Blk.other
def Blk.alloc{w:World}(h:Blk w b cs t)(o:Obj):Blk (w.alloc o) b cs t:=by
 have hl:=h.lt;unfold Blk at *;rw[Below.heap_alloc _ _ _ hl];exact h
def C_:=@Blk.alloc
def Blk.drew{w:World}(h:Blk w b cs t):Blk w.drew b cs t:=h
def Blk.new(w:World)(cs:Array Value)(t:TypeId):Blk (w.alloc (.cells cs t)) w.heap.size cs.toList t:=by
 show(w.heap.push _)[w.heap.size]?=_;simp
def B_:=@Blk.new
structure Fr(w w':World)(S:Nat->Prop):Prop where
 os:w'.os=w.os
 tape:w'.tape=w.tape
 output:w'.output=w.output
 size:w.heap.size<=w'.heap.size
 block:∀k,k<w.heap.size->¬S k->w'.heap[k]?=w.heap[k]?
def Fr.refl(w:World)(S:Nat->Prop):Fr w w S:=⟨rfl,rfl,rfl,l_,λ_ _ _=>rfl⟩
def A_:=@Fr.refl
def Fr.trans{a b c:World}{T:Nat->Prop}(h:Fr a b S)(k:Fr b c T)(e:∀x,x<a.heap.size->T x->S x):Fr a c S:=
 ⟨k.os.trans h.os,k.tape.trans h.tape,k.output.trans h.output,ak_ h.size k.size,λi hi d=>(k.block i (bb_ hi h.size) (λt=>d (e i hi t))).trans (h.block i hi d)⟩
def Fr.mono{a b:World}{T:Nat->Prop}(h:Fr a b S)(d:∀x,x<a.heap.size->S x->T x):Fr a b T:=
 ⟨h.os,h.tape,h.output,h.size,λi hi hn=>h.block i hi (λs=>hn (d i hi s))⟩
def Fr.drew{a b:World}(h:Fr a b S):Fr a b.drew S:=⟨h.os,h.tape,h.output,h.size,h.block⟩
def Fr.alloc{a b:World}(h:Fr a b S)(o:Obj):Fr a (b.alloc o) S:=
 h.trans ⟨rfl,rfl,rfl,by simp,λk hk _=>Below.heap_alloc _ _ _ hk⟩ (T:=λ_=>False) v_
def Fr.setCell{a b:World}(h:Fr a b S)(p:Addr)(v:Value)(hp:p.block<a.heap.size->S p.block):Fr a (b.setCell p v) S:=
 h.trans (T:=λx=>x=p.block) ⟨rfl,rfl,rfl,by simp[World.setCell],λk _ d=>Below.heap_setCell _ _ _ _ d⟩ (λ_ hx e=>e▸hp (e▸hx))
def Fr.gw{a b c:World}{row:Option Nat}(h:Fr a b S)(hg:b.grownBy c row)(hr:∀k,row=some k->k<a.heap.size->S k):Fr a c S:=
 h.trans (T:=λx=>row=some x) ⟨hg.os,hg.tape,hg.output,hg.size,λk hk d=>hg.block k hk (λe=>d e.symm)⟩ (λx hx e=>hr x e hx)
def a_:=@Fr.gw
def Fr.bl{w:World}(h:Fr w w' S)(hb:Blk w b cs t)(d:¬S b):Blk w' b cs t:=by
 have:=h.block b hb.lt d;unfold Blk at *;rw[this];exact hb
def pk(s:BA)(i:Nat)(bad:Bool):Int:=
 if bad=true then 0 else if h:i<s.size then ((s[i]'h).toNat:Int) else 0
structure RV where
 i:Nat
 bad:Bool
 u:Value
 wr:Int
 mx:Int
def RV.cells(s:BA)(bz:Nat)(σ:RV):List Value:=
 [.string s,z_ σ.i,.bool σ.bad,P_ bz,σ.u,z_ σ.wr,z_ σ.mx]
def RAt(w:World)(br:Nat)(s:BA)(bz:Nat)(σ:RV):Prop:=Blk w br (σ.cells s bz) 68
section
variable {w:World} {br:Nat} {s:BA} {bz:Nat} {σ:RV}
def RAt.c0(h:RAt w br s bz σ):w.cell? ⟨br,0,none⟩=some (.string s):=by rw[W_ h];rfl
def RAt.c1(h:RAt w br s bz σ):w.cell? ⟨br,1,none⟩=some (z_ σ.i):=by rw[W_ h];rfl
def RAt.c2(h:RAt w br s bz σ):w.cell? ⟨br,2,none⟩=some (.bool σ.bad):=by rw[W_ h];rfl
def RAt.c3(h:RAt w br s bz σ):w.cell? ⟨br,3,none⟩=some (P_ bz):=by rw[W_ h];rfl
def RAt.c4(h:RAt w br s bz σ):w.cell? ⟨br,4,none⟩=some σ.u:=by rw[W_ h];rfl
def RAt.c5(h:RAt w br s bz σ):w.cell? ⟨br,5,none⟩=some (z_ σ.wr):=by rw[W_ h];rfl
def RAt.c6(h:RAt w br s bz σ):w.cell? ⟨br,6,none⟩=some (z_ σ.mx):=by rw[W_ h];rfl
def RAt.setI(h:RAt w br s bz σ)(n:Nat):RAt (w.setCell ⟨br,1,none⟩ (z_ n)) br s bz { σ with i:=n }:=T_ h 1 _
def RAt.setBad(h:RAt w br s bz σ)(x:Bool):RAt (w.setCell ⟨br,2,none⟩ (.bool x)) br s bz { σ with bad:=x }:=T_ h 2 _
def RAt.setU(h:RAt w br s bz σ)(x:Value):RAt (w.setCell ⟨br,4,none⟩ x) br s bz { σ with u:=x }:=T_ h 4 _
def RAt.setWr(h:RAt w br s bz σ)(x:Int):RAt (w.setCell ⟨br,5,none⟩ (z_ x)) br s bz { σ with wr:=x }:=T_ h 5 _
def RAt.setMx(h:RAt w br s bz σ)(x:Int):RAt (w.setCell ⟨br,6,none⟩ (z_ x)) br s bz { σ with mx:=x }:=T_ h 6 _
end
def RAt.th{w:World}{br:Nat}{s:BA}{bz:Nat}{σ:RV}(h:RAt w br s bz σ)(o:Nat):w.frozen? ⟨br,o,none⟩=false:=Blk.th h o
def Fr.one(w:World)(p:Addr)(v:Value):Fr w (w.setCell p v) (· = p.block):=(A_ w _).setCell p v (λ_=>rfl)
def Y_:=@Fr.one
def ya(c lo hi:Int)(w:World):Calls prog 35 #[.int .u8 c,.int .u8 lo,.int .u8 hi] w λe w'=>e=.returned (.bool (decide (lo<=c)&&decide (c<=hi)))/\w'=w:=by
 go_in;go_wp2
 .go_ret;rename_i h;exact⟨by simp[h],rfl⟩
 .go_ret;rename_i h;exact⟨by simp[show ¬lo<=c by omega],rfl⟩
def zq(w w':World):Prop:=∃n,w'=w.drewN n
def zq.refl(w:World):zq w w:=⟨0,rfl⟩
def zq.drewN(w:World)(n:Nat):zq w (w.drewN n):=⟨n,rfl⟩
def zq.drew(w:World):zq w w.drew:=⟨1,rfl⟩
def zq.trans{a b c:World}(h:zq a b)(k:zq b c):zq a c:=by
 obtain⟨n,rfl⟩:=h;obtain⟨m,rfl⟩:=k;exact⟨n+m,by simp[World.drewN,br_]⟩
def wy{w:World}{br:Nat}{s:BA}{bz:Nat}{σ:RV}(h:RAt w br s bz σ)(_hs:s.size<=300)(hi:σ.i<=300):Calls prog 36 #[P_ br] w λe w'=>e=.returned (.int .u8 (pk s σ.i σ.bad))/\zq w w':=by
 obtain⟨c0,c1,c2⟩:=h.d3;rcases σ with⟨i,bad,u,wr,mx⟩;simp only at c1 c2 hi⊢;cases bad with
 |true=>
  go_in;go_wp2;go_quiet (fail);go_wp2;go_ret;exact⟨by simp[pk],_,rfl⟩
 |false=>
  by_cases hl:i<s.size
  .have d:(i:Int)<(s.size:Int):=M_;go_in;go_wp2;go_quiet (fail);go_wp2;go_quiet (fail);go_wp2;go_ret;exact⟨by simp[pk,hl],(zq.drewN _ _).trans (zq.drewN _ _)⟩
  .go_in;go_wp2;go_quiet (fail);go_wp2;go_ret;refine⟨by simp[pk];omega,?_⟩;exact⟨_,rfl⟩
def RV.eat(s:BA)(c:Int)(σ:RV):RV:=if pk s σ.i σ.bad=c then { σ with i:=σ.i+1 } else { σ with bad:=true }
def RAt.si{w:World}{br:Nat}{s:BA}{bz:Nat}{σ:RV}(h:RAt w br s bz σ)(hw:zq w w'):RAt w' br s bz σ:=by
 obtain⟨n,rfl⟩:=hw;exact h
def Fr.si{a w:World}(h:Fr a w S)(hw:zq w w'):Fr a w' S:=by
 obtain⟨n,rfl⟩:=hw;exact⟨h.os,h.tape,h.output,h.size,h.block⟩
def Wd{w:World}{br:Nat}{s:BA}{bz:Nat}{σ:RV}{c:Int}(h:RAt w br s bz σ)(hs:s.size<=300)(hi:σ.i<=300):Calls prog 37 #[P_ br,.int .u8 c] w λe w'=>e=.returned (.tuple #[])/\RAt w' br s bz (σ.eat s c)/\Fr w w' (· = br):=by
 go_in;go_wp2_with (go_at_call 36;apply(wy h hs hi).mono;rintro e w' ⟨rfl,hw⟩;have d:=h.si hw;have c1:=d.c1;have c2:=d.c2;have f:=d.th 1;have g:=d.th 2)
 .go_end0;rename_i hc;exact⟨rfl,by rw[RV.eat,i_ (by simpa using hc)];exact d.setI (σ.i+1),((A_ w _).si hw).setCell _ _ (λ_=>rfl)⟩
 .go_end0;rename_i hc;exact⟨rfl,by rw[RV.eat,n_ (by simpa using hc)];exact d.setBad true,((A_ w _).si hw).setCell _ _ (λ_=>rfl)⟩
def RV.wrong(at_:Int)(σ:RV):RV:=if σ.wr<0\/at_<σ.wr then { σ with wr:=at_ } else σ
def Yp{w:World}{br:Nat}{s:BA}{bz:Nat}{σ:RV}{d:Int}(h:RAt w br s bz σ):Calls prog 20 #[P_ br,z_ d] w λe w'=>e=.returned (.tuple #[])/\RAt w' br s bz (σ.wrong d)/\Fr w w' (· = br):=by
 have c5:=h.c5;have f:=h.th 5;by_cases h1:σ.wr<0
 .go_in;go_wp2;go_end0;exact⟨rfl,by rw[RV.wrong,i_ (.inl h1)];exact RAt.setWr h d,(A_ w _).setCell _ _ (λ_=>rfl)⟩
 .by_cases f:d<σ.wr
  .go_in;go_wp2;go_end0;exact⟨rfl,by rw[RV.wrong,i_ (.inr f)];exact RAt.setWr h d,(A_ w _).setCell _ _ (λ_=>rfl)⟩
  .go_in;go_wp2;go_end0;exact⟨rfl,by rw[RV.wrong,n_ (λx=>x.elim (λy=>M_) (λy=>M_))];exact h,A_ w _⟩
def sF(s:BA)(i:Nat):pk s i false=(bt s i:Int):=by
 unfold pk bt;simp;split<;>rfl
def plc(s:BA)(c:Nat):Int:=match s.data.toList.findIdx? (λb=>b.toNat==c) with|some k=>k|none=>-1
open Go.RowKit
def ee(s:BA)(k:Nat)(h:k<s.size):s.data.toList[k]?=some (s[k]'h):=by
 rw[Array.getElem?_toList,Array.getElem?_eq_getElem h];rfl
def Jb{s:BA}{k:Nat}(hk:k<s.size)(hc:bt s k=c)(hn:∀j,j<k->bt s j≠c):plc s c=k:=by
 have:s.data.toList.findIdx? (λb=>b.toNat==c)=some k:=by
  rw[List.findIdx?_eq_some_iff_getElem];refine⟨by simpa using hk,?_,λj f=>?_⟩
  .have:=vR s k hk;simp only[beq_iff_eq];rw[<- hc,this];rfl
  .have d:j<s.size:=M_;have:=vR s j d;have d:=hn j f;simp only[Bool.not_eq_true,beq_eq_false_iff_ne];intro e;apply d;rw[this,<- e];rfl
 simp[plc,this]
def Ju{s:BA}(hn:∀j,j<s.size->bt s j≠c):plc s c = -1:=by
 have:s.data.toList.findIdx? (λb=>b.toNat==c)=none:=by
  rw[List.findIdx?_eq_none_iff];intro x hx;obtain⟨k,hk,rfl⟩:=List.getElem_of_mem hx;have d:k<s.size:=by simpa using hk
  have:=hn k d;rw[vR s k d]at this;simp only[beq_eq_false_iff_ne];intro e;apply this;rw[<- e];rfl
 simp[plc,this]
def GN(s:BA)(c:Nat):-1<=plc s c:=by unfold plc;split<;>omega
def vC(s:BA)(c:Nat)(w:World)(hs:s.size<=100000):Calls prog 27 #[.string s,.int .u8 c] w λe w'=>e=.returned (z_ (plc s c))/\w'=w:=by
 go_in;go_wp2;go_loop [5] (λi=>∃k:Nat,k<=s.size/\i=z_ k/\H_ (∀j,j<k->bt s j≠c)) (λi=>s.size-(intOf i).toNat);case atStart=>exact⟨0,al_ _,rfl,λj d=>absurd d (bt_ _)⟩
 case round=>
  obtain⟨k,hk,rfl,hn⟩:=hrel;go_wp2
  .have f:k<s.size:=by assumption
   have hc:(((s[k]'f).toNat:Int)==(c:Int))=true:=by assumption
   go_ret;have g:bt s k=c:=by rw[vR s k M_];have:=eq_of_beq hc;omega
   have hp:=Jb M_ g hn;exact⟨by rw[hp];rfl,rfl⟩
  .have f:k<s.size:=by assumption
   have hc:(((s[k]'f).toNat:Int)==(c:Int))=false:=by assumption
   go_round;case rel=>
    refine⟨k+1,M_,by go_num,λj d=>?_⟩;by_cases e:j=k
    .subst e;rw[vR s j M_];intro x;rw[<- x]at hc;simp at hc
    .exact hn.o j M_
   case measure=>simp[intOf];omega
  .go_ret;have hp:=Ju (s:=s) (c:=c) (λj d=>hn.o j M_);exact⟨by rw[hp];rfl,rfl⟩
def wH(s:BA)(c:Nat)(w:World)(hs:s.size<=100000):Calls prog 86 #[.string s,.int .u8 c] w λe w'=>e=.returned (.bool (decide (0<=plc s c)))/\w'=w:=by
 go_in;go_wp2_with (go_at_call 27;apply(vC s c _ hs).mono;rintro e w' ⟨rfl,rfl⟩);go_ret;exact⟨rfl,rfl⟩
def RV.small(s:BA)(σ:RV):RV:=if 97<=pk s σ.i σ.bad/\pk s σ.i σ.bad<=122 then { σ with i:=σ.i+1 } else { σ with bad:=true }
def RV.smallR(s:BA)(σ:RV):Int:=if 97<=pk s σ.i σ.bad/\pk s σ.i σ.bad<=122 then pk s σ.i σ.bad else 0
def Ya{w:World}{br:Nat}{s:BA}{bz:Nat}{σ:RV}(h:RAt w br s bz σ)(hs:s.size<=300)(hi:σ.i<=300):Calls prog 85 #[P_ br] w λe w'=>e=.returned (.int .u8 (σ.smallR s))/\RAt w' br s bz (σ.small s)/\Fr w w' (· = br):=by
 go_in;go_wp2_with (first
  |(go_at_call 36;apply(wy h hs hi).mono;rintro e w' ⟨rfl,hw⟩;have d:=h.si hw;have c1:=d.c1;have c2:=d.c2;have g:=d.th 1;have k:=d.th 2)
  |(go_at_call 35;apply(ya _ _ _ _).mono;rintro e w' ⟨rfl,rfl⟩))
 .rename_i hc;have f:¬(97<=pk s σ.i σ.bad/\pk s σ.i σ.bad<=122):=by simp at hc;omega
  go_ret;exact⟨by rw[RV.smallR,n_ f];rfl,by rw[RV.small,n_ f];exact d.setBad true,((A_ w _).si hw).setCell _ _ (λ_=>rfl)⟩
 .rename_i hc;have f:97<=pk s σ.i σ.bad/\pk s σ.i σ.bad<=122:=by simp at hc;omega
  go_ret;exact⟨by rw[RV.smallR,i_ f];rfl,by rw[RV.small,i_ f];exact d.setI (σ.i+1),((A_ w _).si hw).setCell _ _ (λ_=>rfl)⟩
end Go.Proofs.YtjkiencmjggakaaGreatDoor
