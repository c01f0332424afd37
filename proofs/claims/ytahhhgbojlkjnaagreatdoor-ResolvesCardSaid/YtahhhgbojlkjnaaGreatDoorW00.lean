import Derived.Maps.AppendAt
import Derived.WalkSpells
import Derived.WalkLawsBesides
import Derived.Deep.QuietTactic
import Derived.BigQuiet
import Derived.Deep.RegionLaw
import Derived.Test.YtahhhgbojlkjnaaGreatDoorA00
set_option maxHeartbeats 16000000
set_option maxRecDepth 100000
set_option linter.defProp false
set_option linter.unusedSimpArgs false
open Go.Proofs.Tryz
namespace Go.Proofs.YtahhhgbojlkjnaaGreatDoor
variable {b t i fuel c j n base size:Nat}{a:Act}{oi oj o:Dz}{l cs xs:Az}{listed:Dt}{v v0 v1 v2 v3 v4 v5 v6 v7:Ax}{S:Au}{w':Aw}{K:Cq}{q:Prop}{e:As}
def bt(s:BA)(i:Nat):Nat:=if h:i<s.size then (s[i]'h).toNat else 0
def qD(s:BA)(i:Nat):bt s i<256:=by
 unfold bt;split
 .exact UInt8.toNat_lt _
 .omega
def zr{s:BA}(h:0<bt s i):i<s.size:=by
 unfold bt at h;split at h
 .assumption
 .omega
def vS(s:BA)(i:Nat)(h:i<s.size):bt s i=(s[i]'h).toNat:=by unfold bt;rw[dif_pos h]
def pZ{s:BA}(h:s.size<=i):bt s i=0:=by unfold bt;rw[dif_neg zz_]
inductive PT where
 |leaf (c:Nat) (p:Nat)
 |wrap (c:Nat) (p:Nat) (t:PT)
 |alts (p:Nat) (ts:List PT)
 deriving Inhabited
abbrev Af:=List PT
def zY(c:Nat):Bool:=c==110||c==116||c==105||c==108||c==115
def zZ(c:Nat):Bool:=decide (65<=c)&&decide (c<=70)
def zt(c:Nat):Bool:=decide (97<=c)&&decide (c<=122)
def xl(c:Nat):Nat:=if c==123 then 125 else 93
mutual
def vJ(s:BA):Nat->Nat->Except Nat (PT×Nat)
 | 0,i=>.error i
 |f+1,i=>
  if zY (bt s i) then .ok (.leaf (bt s i) i,i+1)
  else if bt s i=91\/bt s i=123 then
   match vJ s f (i+1) with
   | .error k=>.error k
   | .ok (t,j)=>if bt s j=xl (bt s i) then .ok (.wrap (bt s i) i t,j+1) else .error j
  else if bt s i=40 then
   match xk s f (i+1) with
   | .error k=>.error k
   | .ok (ts,j)=>if bt s j=41 then .ok (.alts i ts,j+1) else .error j
  else if zZ (bt s i) then .ok (.leaf (bt s i) i,i+1)
  else .error i
def xk(s:BA):Nat->Nat->Except Nat (List PT×Nat)
 | 0,i=>.error i
 |f+1,i=>
  match vJ s f i with
  | .error k=>.error k
  | .ok (t,j)=>
   if bt s j=44 then
    match xk s f (j+1) with
    | .error k=>.error k
    | .ok (ts,k)=>.ok (t::ts,k)
   else .ok ([t],j)
end
def qy(s:BA)(T:Nat->Except Nat (PT×Nat))(A:Nat->Except Nat (List PT×Nat))(i:Nat):Except Nat (PT×Nat):=
 if zY (bt s i) then .ok (.leaf (bt s i) i,i+1)
 else if bt s i=91\/bt s i=123 then
  match T (i+1) with
  | .error k=>.error k
  | .ok (t,j)=>if bt s j=xl (bt s i) then .ok (.wrap (bt s i) i t,j+1) else .error j
 else if bt s i=40 then
  match A (i+1) with
  | .error k=>.error k
  | .ok (ts,j)=>if bt s j=41 then .ok (.alts i ts,j+1) else .error j
 else if zZ (bt s i) then .ok (.leaf (bt s i) i,i+1)
 else .error i
def fC(s:BA)(T:Nat->Except Nat (PT×Nat))(A:Nat->Except Nat (List PT×Nat))(i:Nat):Except Nat (List PT×Nat):=
 match T i with
 | .error k=>.error k
 | .ok (t,j)=>
  if bt s j=44 then
   match A (j+1) with
   | .error k=>.error k
   | .ok (ts,k)=>.ok (t::ts,k)
  else .ok ([t],j)
def jM(s:BA)(f i:Nat):vJ s (f+1) i=qy s (vJ s f) (xk s f) i:=by rw[vJ];rfl
def jk(s:BA)(f i:Nat):xk s (f+1) i=fC s (vJ s f) (xk s f) i:=by rw[xk];rfl
def lD(h:zY c=true):0<c:=by
 simp only[zY,av_,beq_iff_eq]at h;omega
def Zm(h:zZ c=true):0<c:=by
 simp only[zZ,a0_,decide_eq_true_eq]at h;omega
def bj(s:BA)(f:Nat):(∀i,i<=s.size->(∀t j,vJ s f i=.ok (t,j)->i<j/\j<=s.size)/\(∀k,vJ s f i=.error k->i<=k/\k<=s.size))/\
 (∀i,i<=s.size->(∀t j,xk s f i=.ok (t,j)->i<j/\j<=s.size)/\(∀k,xk s f i=.error k->i<=k/\k<=s.size)):=by
 induction f with
 |zero=>exact⟨λi d=>⟨λt j h=>by simp[vJ]at h,λk h=>by simp[vJ]at h;omega⟩,λi d=>⟨λt j h=>by simp[xk]at h,λk h=>by simp[xk]at h;omega⟩⟩
 |succ f ih=>
  obtain⟨A,z⟩:=ih;refine⟨λi d=>?_,λi d=>?_⟩
  .rw[vJ];split
   .rename_i hb;have:=zr (lD hb);exact⟨λt j h=>by simp only[ag_,ac_]at h;omega,λk h=>by cases h⟩
   .split
    .rename_i hb;have hl:=zr (s:=s) (i:=i) M_;have:=A (i+1) M_;cases hp:vJ s f (i+1) with
     |error k=>exact⟨λt j h=>by simp at h,λg h=>by simp at h;have:=this.2 k hp;omega⟩
     |ok r=>
      obtain⟨t,j⟩:=r;have:=this.1 t j hp;simp only;split
      .rename_i hc;have x:=zr (s:=s) (i:=j) (by rw[hc];unfold xl;split<;>omega);exact⟨λt j h=>by simp only[ag_,ac_]at h;omega,λk h=>by cases h⟩
      .exact⟨λt j h=>(nomatch h),λk h=>by simp only[ca_]at h;omega⟩
    .split
     .rename_i hb;have hl:=zr (s:=s) (i:=i) M_;have:=z (i+1) M_;cases hp:xk s f (i+1) with
      |error k=>exact⟨λt j h=>by simp at h,λg h=>by simp at h;have:=this.2 k hp;omega⟩
      |ok r=>
       obtain⟨t,j⟩:=r;have:=this.1 t j hp;simp only;split
       .rename_i hc;have x:=zr (s:=s) (i:=j) M_;exact⟨λt j h=>by simp only[ag_,ac_]at h;omega,λk h=>by cases h⟩
       .exact⟨λt j h=>(nomatch h),λk h=>by simp only[ca_]at h;omega⟩
     .split
      .rename_i hb;have:=zr (Zm hb);exact⟨λt j h=>by simp only[ag_,ac_]at h;omega,λk h=>by cases h⟩
      .exact⟨λt j h=>(nomatch h),λk h=>by simp only[ca_]at h;omega⟩
  .rw[xk];have u:=A i d;cases hp:vJ s f i with
   |error k=>exact⟨λt j h=>by simp at h,λg h=>by simp at h;have:=u.2 k hp;omega⟩
   |ok r=>
    obtain⟨t,j⟩:=r;have h1:=u.1 t j hp;simp only;split
    .rename_i hc;have x:=zr (s:=s) (i:=j) M_;have p:=z (j+1) M_;cases y:xk s f (j+1) with
     |error k=>exact⟨λt j h=>by simp at h,λg h=>by simp at h;have:=p.2 k y;omega⟩
     |ok r=>
      obtain⟨ts,k⟩:=r;have:=p.1 ts k y;exact⟨λt j h=>by simp only[ag_,ac_]at h;omega,λk h=>by cases h⟩
    .exact⟨λt j h=>by simp only[ag_,ac_]at h;omega,λk h=>by cases h⟩
def mf{s:BA}{T f:Nat->Except Nat (PT×Nat)}{A d:Nat->Except Nat (List PT×Nat)}(h:i<s.size->T (i+1)=f (i+1))(g:i<s.size->A (i+1)=d (i+1)):qy s T A i=qy s f d i:=by
 unfold qy;split
 .rfl
 .split
  .rename_i hb;rw[h (zr M_)]
  .split
   .rename_i hb;rw[g (zr M_)]
   .rfl
def mp{s:BA}{T d:Nat->Except Nat (PT×Nat)}{A f:Nat->Except Nat (List PT×Nat)}(h:T i=d i)(g:∀t j,d i=.ok (t,j)->j<s.size->A (j+1)=f (j+1)):fC s T A i=fC s d f i:=by
 unfold fC;rw[h];cases hp:d i with
 |error k=>rfl
 |ok r=>
  obtain⟨t,j⟩:=r;simp only;split
  .rename_i hc;rw[g t j hp (zr M_)]
  .rfl
def Jt(s:BA)(f:Nat):(∀i,i<=s.size->2*(s.size-i)<f->vJ s (f+1) i=vJ s f i)/\
 (∀i,i<=s.size->2*(s.size-i)+1<f->xk s (f+1) i=xk s f i):=by
 induction f with
 |zero=>exact⟨λi _ h=>M_,λi _ h=>M_⟩
 |succ f ih=>
  obtain⟨k,g⟩:=ih;refine⟨λi d h=>?_,λi d h=>?_⟩
  .rw[jM s (f+1),jM s f];exact mf (λhl=>k (i+1) M_ M_) (λhl=>g (i+1) M_ M_)
  .rw[jk s (f+1),jk s f];refine mp (k i d M_) (λt j hp hl=>?_);have h1:=((bj s f).1 i d).1 t j hp;exact g (j+1) M_ M_
def gi(s:BA)(i:Nat)(g:i<=s.size)(f:Nat)(d:Nat):(2*(s.size-i)<f->vJ s (f+d) i=vJ s f i)/\(2*(s.size-i)+1<f->xk s (f+d) i=xk s f i):=by
 induction d with
 |zero=>exact⟨λ_=>rfl,λ_=>rfl⟩
 |succ d ih=>
  refine⟨λh=>?_,λh=>?_⟩
  .rw[<- bv_,(Jt s (f+d)).1 i g M_,ih.1 h]
  .rw[<- bv_,(Jt s (f+d)).2 i g M_,ih.2 h]
def pT(s:BA)(i:Nat):Except Nat (PT×Nat):=vJ s (2*s.size+2) i
def pA(s:BA)(i:Nat):Except Nat (List PT×Nat):=xk s (2*s.size+3) i
def xR{s:BA}(d:i<=s.size):(∀t j,pT s i=.ok (t,j)->i<j/\j<=s.size)/\(∀k,pT s i=.error k->i<=k/\k<=s.size):=(bj s _).1 i d
def mi(s:BA)(i:Nat):pT s i=qy s (pT s) (pA s) i:=by
 show vJ s (2*s.size+1+1) i=_;rw[jM];refine mf (λhl=>?_) (λhl=>?_)
 .exact((gi s (i+1) M_ (2*s.size+1) 1).1 M_).symm
 .exact((gi s (i+1) M_ (2*s.size+1) 2).2 M_).symm
def PM(s:BA)(i:Nat)(d:i<=s.size):pA s i=fC s (pT s) (pA s) i:=by
 show xk s (2*s.size+2+1) i=_;rw[jk];refine mp rfl (λt j hp hl=>?_);have h1:=(xR d).1 t j hp;exact((gi s (j+1) M_ (2*s.size+2) 1).2 M_).symm
structure TR where
 kind:Nat
 subs:List Nat
 deriving Inhabited
abbrev Ch:=Nat->Bool->Int->List TR->List (Nat×Nat)->List Nat->Prop
abbrev Aq:=List TR
def PT.kind:PT->Nat
 | .leaf c _=>c
 | .wrap c _ _=>c
 | .alts _ _=>40
def PT.place:PT->Nat
 | .leaf _ p=>p
 | .wrap _ p _=>p
 | .alts p _=>p
mutual
def flat(b:Nat):PT->List TR
 | .leaf c _=>[⟨c,[]⟩]
 | .wrap c _ t=>flat b t++[⟨c,[b+(flat b t).length-1]⟩]
 | .alts _ ts=>zA b ts++[⟨40,qk b ts⟩]
def zA(b:Nat):List PT->List TR
 | []=>[]
 |t::r=>flat b t++zA (b+(flat b t).length) r
def qk(b:Nat):List PT->List Nat
 | []=>[]
 |t::r=>(b+(flat b t).length-1)::qk (b+(flat b t).length) r
end
mutual
def zK:PT->List (Nat×Nat)
 | .leaf c p=>if zY c then [] else [(c,p)]
 | .wrap _ _ t=>zK t
 | .alts _ ts=>zG ts
def zG:List PT->List (Nat×Nat)
 | []=>[]
 |t::r=>zK t++zG r
end
def qH(seen:Ai)(t:PT)(m:Int):Int:=if (t.kind=40\/t.kind∈seen)/\(m<0\/(t.place:Int)<m) then (t.place:Int) else m
mutual
def mix:PT->Int->Int
 | .leaf _ _,m=>m
 | .wrap _ _ t,m=>mix t m
 | .alts _ ts,m=>qZ [] ts m
def qZ(seen:Ai):List PT->Int->Int
 | [],m=>m
 |t::r,m=>qZ (seen++[t.kind]) r (qH seen t (mix t m))
end
def aw(b:Nat)(t:PT):0<(flat b t).length:=by
 cases t<;>simp[flat]
def XA(b:Nat)(t:PT):((flat b t)[(flat b t).length-1]?).map TR.kind=some t.kind:=by
 cases t<;>simp[flat,PT.kind]
def lI(b:Nat)(ds:Af)(t:PT):zA b (ds++[t])=zA b ds++flat (b+(zA b ds).length) t:=by
 induction ds generalizing b with
 |nil=>simp[zA]
 |cons d r ih=>simp only[bf_,zA,ih,bw_,ah_,bv_]
def dA(b:Nat)(ds:Af)(t:PT):qk b (ds++[t])=qk b ds++[b+(zA b ds).length+(flat (b+(zA b ds).length) t).length-1]:=by
 induction ds generalizing b with
 |nil=>simp[zA,qk]
 |cons d r ih=>simp only[bf_,zA,qk,ih,ah_,bv_]
def ma(b:Nat)(ds:Af):(qk b ds).length=ds.length:=by
 induction ds generalizing b with
 |nil=>rfl
 |cons d r ih=>simp[qk,ih]
def pC(ds:Af)(t:PT):zG (ds++[t])=zG ds++zK t:=by
 induction ds with
 |nil=>simp[zG]
 |cons d r ih=>simp[zG,ih]
def XZ(f:Ai)(ds:Af)(t:PT)(m:Int):qZ f (ds++[t]) m=qH (f++ds.map PT.kind) t (mix t (qZ f ds m)):=by
 induction ds generalizing f m with
 |nil=>simp[qZ]
 |cons d r ih=>simp[qZ,ih]
def bA(ds:Af):Except Nat (List PT×Nat)->Except Nat (List PT×Nat)
 | .error k=>.error k
 | .ok (r,j)=>.ok (ds++r,j)
def tA(x:Except Nat (List PT×Nat)):bA [] x=x:=by
 match x with
 | .error k=>rfl
 | .ok (r,j)=>rfl
def mL(ds es:Af)(x:Except Nat (List PT×Nat)):bA ds (bA es x)=bA (ds++es) x:=by
 match x with
 | .error k=>rfl
 | .ok (r,j)=>simp[bA]
def sh(s:BA)(i:Nat)(d:i<=s.size):pA s i =
 match pT s i with
 | .error k=>.error k
 | .ok (t,j)=>if bt s j=44 then bA [t] (pA s (j+1)) else .ok ([t],j):=by
 rw[PM s i d];unfold fC;cases pT s i with
 |error k=>rfl
 |ok r=>
  obtain⟨t,j⟩:=r;simp only;split
  .cases pA s (j+1) with
   |error k=>rfl
   |ok r=>rfl
  .rfl
def cq9_{p:Prop}(h:p:=by
 induction f with
 |zero=>exact⟨λi t j h=>by simp[vJ]at h,λi t j h=>by simp[xk]at h⟩
 |succ f ih=>
  obtain⟨u,g⟩:=ih;(first|(have:=cc1;refine⟨λi t j h=>?_,λi t j h=>?_⟩)|(refine⟨λi t j h b=>?_,λi t j h b=>?_⟩))
  .rw[jM]at h;unfold qy at h;split at h
   .simp only[ag_,ac_]at h;obtain⟨rfl,rfl⟩:=h;rename_i hb;(first|(have:=cc1;exact .inl hb)|(simp[flat,zK,hb]))
   .split at h
    ·(try have:=cc1;rename_i hc);cases hp:vJ s f (i+1) with
     |error k=>rw[hp]at h;simp at h
     |ok r=>
      obtain⟨t',j'⟩:=r;rw[hp]at h;simp only at h;split at h
      .simp only[ag_,ac_]at h;obtain⟨rfl,rfl⟩:=h;(first|(have:=cc1;exact⟨hc,u _ _ _ hp⟩)|(have:=u _ _ _ hp b;simp only[flat,zK,ah_,au_,ar_];omega))
      .simp at h
    .split at h
     .cases hp:xk s f (i+1) with
      |error k=>rw[hp]at h;simp at h
      |ok r=>
       obtain⟨t',j'⟩:=r;rw[hp]at h;simp only at h;split at h
       .simp only[ag_,ac_]at h;obtain⟨rfl,rfl⟩:=h;(first|(have:=cc1;exact g _ _ _ hp)|(have:=g _ _ _ hp b;simp only[flat,zK,ah_,au_,ar_];omega))
       .simp at h
     .split at h
      .simp only[ag_,ac_]at h;obtain⟨rfl,rfl⟩:=h;(first|(have:=cc1;rename_i hb)|(rename_i hb _ _ _));(first|(have:=cc1;exact .inr hb)|(simp[flat,zK,hb]))
      .simp at h
  .rw[jk]at h;unfold fC at h;cases hp:vJ s f i with
   |error k=>rw[hp]at h;simp at h
   |ok r=>
    obtain⟨t',j'⟩:=r;rw[hp]at h;(first|(have:=cc1;have h1:=u _ _ _ hp)|(have h1:=u _ _ _ hp b));simp only at h;split at h
    .cases d:xk s f (j'+1) with
     |error k=>rw[d]at h;simp at h
     |ok r=>
      obtain⟨ts,k⟩:=r;rw[d]at h;simp only[ag_,ac_]at h;obtain⟨rfl,rfl⟩:=h;(first|(have:=cc1;exact⟨by simp,h1,(g _ _ _ d).2⟩)|(have x:=g _ _ _ d (b+(flat b t').length);simp only[zA,zG,ah_];omega))
    .simp only[ag_,ac_]at h;obtain⟨rfl,rfl⟩:=h;(first|(have:=cc1;exact⟨by simp,h1,trivial⟩)|(simp only[zA,zG,ah_,ar_];omega))):p:=h
def Yy(s:BA)(f:Nat):(∀i t j,vJ s f i=.ok (t,j)->∀b,i+(flat b t).length<=j/\i+(zK t).length<=j)/\
 (∀i ts j,xk s f i=.ok (ts,j)->∀b,i+(zA b ts).length<=j/\i+(zG ts).length<=j):=by
 exact cq9_
def lp{s:BA}{t:PT}(h:pT s i=.ok (t,j))(b:Nat):i+(flat b t).length<=j/\i+(zK t).length<=j:=(Yy s _).1 i t j h b
def eQ{s:BA}{ts:Af}(h:pA s i=.ok (ts,j))(b:Nat):i+(zA b ts).length<=j/\i+(zG ts).length<=j:=(Yy s _).2 i ts j h b
def cq16_{p:Prop}(h:p:=by
 rw[mi]at h;unfold qy at h;split at h
 .simp only[ag_,ac_]at h;obtain⟨rfl,rfl⟩:=h;rfl
 .split at h
  .split at h
   .simp at h
   .split at h
    .simp only[ag_,ac_]at h;obtain⟨rfl,rfl⟩:=h;rfl
    .simp at h
  .split at h
   ·(try have:=cc1;rename_i d);split at h
    .simp at h
    .split at h
     .simp only[ag_,ac_]at h;obtain⟨rfl,rfl⟩:=h;(first|(have:=cc1;exact d.symm)|(rfl))
     .simp at h
   .split at h
    .simp only[ag_,ac_]at h;obtain⟨rfl,rfl⟩:=h;rfl
    .simp at h):p:=h
def Jn{s:BA}{t:PT}(h:pT s i=.ok (t,j)):t.place=i:=by
 exact cq16_
def ku(c:Nat):Bool:=c==40||c==91||c==123||c==60
def jR(c:Nat):Bool:=c==41||c==93||c==125||c==62
def qn(c o:Nat):Nat:=if ku c then o+1 else if jR c then o-1 else o
def Ja(s:BA):Nat->Nat->Nat->Option Nat
 | 0,_,_=>none
 |n+1,i,o=>if o=0/\(bt s i=44\/bt s i=41) then some i else Ja s n (i+1) (qn (bt s i) o)
def pD(s:BA)(i o:Nat):Option Nat:=Ja s (s.size-i) i o
def Jo{s:BA}{o:Nat}(h:s.size<=i):pD s i o=none:=by
 unfold pD;rw[show s.size-i=0 by omega];rfl
def Yv{s:BA}(o:Nat)(h:i<s.size):pD s i o=if o=0/\(bt s i=44\/bt s i=41) then some i else pD s (i+1) (qn (bt s i) o):=by
 unfold pD;rw[show s.size-i=(s.size-(i+1))+1 by omega];rfl
def eJ(s:BA)(n:Nat):∀i o e,Ja s n i o=some e->i<=e/\e<i+n:=by
 induction n with
 |zero=>intro i o e h;simp[Ja]at h
 |succ n ih=>
  intro i o e h;unfold Ja at h;split at h
  .simp only[ae_]at h;omega
  .have:=ih _ _ _ h;omega
def fm{s:BA}{o e:Nat}(h:pD s i o=some e):i<=e/\e<s.size:=by
 have:=eJ s _ i o e h;omega
structure PF where
 letter:Nat
 place:Nat
 ty:PT
 dflt:Option (Nat×Nat)
 deriving Inhabited
abbrev Cm:=PF->Value->Prop
abbrev Am:=List PF
def zS(s:BA)(i:Nat):Except Nat (PF×Nat):=
 if zt (bt s i) then
  if bt s (i+1)=58 then
   match pT s (i+2) with
   | .error k=>.error k
   | .ok (t,j)=>
    if bt s j=61 then
     match pD s (j+1) 0 with
     |none=>.error s.size
     |some e=>.ok (⟨bt s i,i,t,some (j+1,e)⟩,e)
    else .ok (⟨bt s i,i,t,none⟩,j)
  else .error (i+1)
 else .error i
def xo(h:zt c=true):0<c:=by
 simp only[zt,a0_,decide_eq_true_eq]at h;omega
def vl{s:BA}(p:i<=s.size):(∀f j,zS s i=.ok (f,j)->i+2<j/\j<=s.size)/\(∀k,zS s i=.error k->i<=k/\k<=s.size):=by
 unfold zS;split
 .rename_i h1;have l1:=zr (xo h1);split
  .rename_i g;have l2:=zr (s:=s) (i:=i+1) M_;have hb:=xR (s:=s) (i:=i+2) M_;cases hp:pT s (i+2) with
   |error k=>exact⟨λf j h=>(nomatch h),λd h=>by simp only[ca_]at h;have:=hb.2 k hp;omega⟩
   |ok r=>
    obtain⟨t,j⟩:=r;have:=hb.1 t j hp;simp only;split
    .cases hd:pD s (j+1) 0 with
     |none=>exact⟨λf j h=>(nomatch h),λd h=>by simp only[ca_]at h;omega⟩
     |some e=>
      have:=fm hd;exact⟨λf j h=>by simp only[ag_,ac_]at h;omega,λd h=>(nomatch h)⟩
    .exact⟨λf j h=>by simp only[ag_,ac_]at h;omega,λd h=>(nomatch h)⟩
  .exact⟨λf j h=>(nomatch h),λd h=>by simp only[ca_]at h;omega⟩
 .exact⟨λf j h=>(nomatch h),λd h=>by simp only[ca_]at h;omega⟩
def xj(s:BA):Nat->Nat->Except Nat (List PF×Nat)
 | 0,i=>.error i
 |n+1,i=>
  match zS s i with
  | .error k=>.error k
  | .ok (f,j)=>
   if bt s j=41 then .ok ([f],j+1)
   else if bt s j=44 then
    match xj s n (j+1) with
    | .error k=>.error k
    | .ok (fs,k)=>.ok (f::fs,k)
   else .error j
def xe(s:BA)(i:Nat):Except Nat (List PF×Nat):=xj s (s.size+1-i) i
def vF(ds:Am):Except Nat (List PF×Nat)->Except Nat (List PF×Nat)
 | .error k=>.error k
 | .ok (r,j)=>.ok (ds++r,j)
def ri(x:Except Nat (List PF×Nat)):vF [] x=x:=by
 match x with
 | .error k=>rfl
 | .ok (r,j)=>rfl
def fN(ds es:Am)(x:Except Nat (List PF×Nat)):vF ds (vF es x)=vF (ds++es) x:=by
 match x with
 | .error k=>rfl
 | .ok (r,j)=>simp[vF]
def dj(s:BA)(n:Nat):∀i d,i<=s.size->s.size-i<n->xj s (n+d) i=xj s n i:=by
 induction n with
 |zero=>intro i d g h;omega
 |succ n ih=>
  intro i d g h;rw[show n+1+d=(n+d)+1 by omega];unfold xj;cases hp:zS s i with
  |error k=>rfl
  |ok r=>
   obtain⟨f,j⟩:=r;have hb:=(vl g).1 f j hp;simp only;split
   .rfl
   .split
    .rename_i p;have:=zr (s:=s) (i:=j) M_;rw[ih (j+1) d M_ M_]
    .rfl
def bq(s:BA)(i:Nat)(g:i<=s.size):xe s i =
 match zS s i with
 | .error k=>.error k
 | .ok (f,j)=>if bt s j=41 then .ok ([f],j+1) else if bt s j=44 then vF [f] (xe s (j+1)) else .error j:=by
 unfold xe;rw[show s.size+1-i=(s.size-i)+1 by omega];conv=>lhs;unfold xj
 cases hp:zS s i with
 |error k=>rfl
 |ok r=>
  obtain⟨f,j⟩:=r;have hb:=(vl g).1 f j hp;simp only;split
  .rfl
  .split
   .rename_i h;have:=zr (s:=s) (i:=j) M_;have d:=dj s (s.size+1-(j+1)) (j+1) (s.size-i-(s.size+1-(j+1))) M_ M_;rw[show s.size+1-(j+1)+(s.size-i-(s.size+1-(j+1)))=s.size-i by omega]at d;rw[d];cases xj s (s.size+1-(j+1)) (j+1) with
    |error k=>rfl
    |ok r=>rfl
   .rfl
def yh(s:BA)(i:Nat):Except Nat (List PF×Nat):=
 if bt s i=40 then
  if bt s (i+1)=41 then .ok ([],i+2) else xe s (i+1)
 else .error i
def qC(s:BA):Nat->Nat->Except Nat (List (Nat×Nat)×Nat)
 | 0,i=>.error i
 |n+1,i=>
  if zt (bt s i) then
   if bt s (i+1)=44 then
    match qC s n (i+2) with
    | .error k=>.error k
    | .ok (l,k)=>.ok ((bt s i,i)::l,k)
   else .ok ([(bt s i,i)],i+1)
  else .error i
def kw(s:BA)(i:Nat):Except Nat (List (Nat×Nat)×Nat):=qC s (s.size+1-i) i
def xZ(s:BA)(i:Nat):Except Nat ((List (Nat×Nat)×Option (Nat×Nat))×Nat):=
 if bt s i=40 then
  match kw s (i+1) with
  | .error k=>.error k
  | .ok (l,j)=>
   if bt s j=33 then
    if zt (bt s (j+1)) then
     if bt s (j+2)=41 then .ok ((l,some (bt s (j+1),j+1)),j+3) else .error (j+2)
    else .error (j+1)
   else if bt s j=41 then .ok ((l,none),j+1) else .error j
 else .error i
def au(s:BA)(l:Av)(j:Nat):Except Nat ((List (Nat×Nat)×Option (Nat×Nat))×Nat):=
 if bt s j=33 then
  if zt (bt s (j+1)) then
   if bt s (j+2)=41 then .ok ((l,some (bt s (j+1),j+1)),j+3) else .error (j+2)
  else .error (j+1)
 else if bt s j=41 then .ok ((l,none),j+1) else .error j
def gS(s:BA)(ds:Av):Except Nat (List (Nat×Nat)×Nat)->Except Nat ((List (Nat×Nat)×Option (Nat×Nat))×Nat)
 | .error k=>.error k
 | .ok (l,j)=>au s (ds++l) j
def eX(s:BA)(i:Nat):xZ s i=if bt s i=40 then gS s [] (kw s (i+1)) else .error i:=by
 unfold xZ;split
 .cases kw s (i+1) with
  |error k=>rfl
  |ok q=>rfl
 .rfl
def ec(s:BA)(n:Nat):∀i d,s.size-i<n->qC s (n+d) i=qC s n i:=by
 induction n with
 |zero=>intro i d h;omega
 |succ n ih=>
  intro i d h;rw[show n+1+d=(n+d)+1 by omega];unfold qC;split
  .rename_i hs;have:=zr (xo hs);split
   .rw[ih (i+2) d M_]
   .rfl
  .rfl
def oa(s:BA)(i:Nat):kw s i =
 if zt (bt s i) then
  if bt s (i+1)=44 then
   match kw s (i+2) with
   | .error k=>.error k
   | .ok (l,k)=>.ok ((bt s i,i)::l,k)
  else .ok ([(bt s i,i)],i+1)
 else .error i:=by
 by_cases hs:zt (bt s i)=true
 .have hl:=zr (xo hs);unfold kw;rw[show s.size+1-i=(s.size-i)+1 by omega];conv=>lhs;unfold qC
  rw[i_ hs,i_ hs];split
  .rename_i f;have:=zr (s:=s) (i:=i+1) M_;have d:=ec s (s.size+1-(i+2)) (i+2) (s.size-i-(s.size+1-(i+2))) M_;rw[show s.size+1-(i+2)+(s.size-i-(s.size+1-(i+2)))=s.size-i by omega]at d;rw[d];try rfl
  .rfl
 .rw[n_ hs];unfold kw;cases s.size+1-i with
  |zero=>rfl
  |succ n=>unfold qC;rw[n_ hs]
def gN(s:BA)(ds:Av)(i:Nat):gS s ds (kw s i) =
 if zt (bt s i) then
  if bt s (i+1)=44 then gS s (ds++[(bt s i,i)]) (kw s (i+2)) else au s (ds++[(bt s i,i)]) (i+1)
 else .error i:=by
 rw[oa];split
 .split
  .cases kw s (i+2) with
   |error k=>rfl
   |ok q=>simp[gS]
  .rfl
 .rfl
inductive PB where
 |recd (fs:List PF)
 |enum (l:List (Nat×Nat)) (o:Option (Nat×Nat))
 |bytes (n:Nat)
 deriving Inhabited
abbrev Cl:=PB->Value->Prop
abbrev Ay:=Nat->Option PB
def xu(s:BA)(i:Nat):Except Nat (PB×Nat):=
 if bt s i=114 then
  match yh s (i+1) with
  | .error k=>.error k
  | .ok (ds,j)=>.ok (.recd ds,j)
 else if bt s i=101 then
  match xZ s (i+1) with
  | .error k=>.error k
  | .ok ((l,o),j)=>.ok (.enum l o,j)
 else if bt s i=102 then
  if 48<=bt s (i+1)/\bt s (i+1)<=57 then .ok (.bytes (bt s (i+1)-48),i+2) else .error (i+1)
 else .error i
structure PD where
 letter:Nat
 place:Nat
 body:PB
 deriving Inhabited
abbrev Ar:=List PD
def yd(s:BA):Nat->Nat->Except Nat (List PD×Nat)
 | 0,i=>.ok ([],i)
 |n+1,i=>
  if zZ (bt s i)=true/\i+1<s.size then
   if bt s (i+1)=61 then
    match xu s (i+2) with
    | .error k=>.error k
    | .ok (pb,j)=>
     if bt s j=59 then
      match yd s n (j+1) with
      | .error k=>.error k
      | .ok (ds,e)=>.ok (⟨bt s i,i,pb⟩::ds,e)
     else .error j
   else .error (i+1)
  else .ok ([],i)
def zQ(s:BA):Except Nat (List PD×PT):=
 match yd s 6 0 with
 | .error k=>.error k
 | .ok (ds,i)=>
  match pT s i with
  | .error k=>.error k
  | .ok (t,j)=>if j<s.size then .error j else .ok (ds,t)
def jT(ds:Ar):Except Nat (List PD×Nat)->Except Nat (List PD×Nat)
 | .error k=>.error k
 | .ok (r,j)=>.ok (ds++r,j)
def re(x:Except Nat (List PD×Nat)):jT [] x=x:=by
 match x with
 | .error k=>rfl
 | .ok (r,j)=>rfl
def wV(s:BA)(n i:Nat)(ds:Ar):jT ds (yd s (n+1) i) =
 if zZ (bt s i)=true/\i+1<s.size then
  if bt s (i+1)=61 then
   match xu s (i+2) with
   | .error k=>.error k
   | .ok (pb,j)=>if bt s j=59 then jT (ds++[⟨bt s i,i,pb⟩]) (yd s n (j+1)) else .error j
  else .error (i+1)
 else .ok (ds,i):=by
 conv=>lhs;unfold yd
 split
 .split
  .cases xu s (i+2) with
   |error k=>rfl
   |ok q=>
    obtain⟨pb,j⟩:=q;simp only;split
    .cases yd s n (j+1) with
     |error k=>rfl
     |ok q=>simp[jT]
    .rfl
  .rfl
 .simp[jT]
open Go.RowKit
section
variable {P:Cc} {ops:Cp} {md:Region.Mode} {Q:Ab} {C:Co} {m:Nat}
def yK(P:Cc)(md:Region.Mode)(ops:Cp)(m:Nat)(C:Co)(Q:Ab):Nat->Array Bool->Act->World->Prop
 | 0,listed,a,w=>(listed.getD m true=false->C w)/\Region.ready md ops listed=[]/\Q .normal a w
 |fuel+1,listed,a,w=>(listed.getD m true=false->C w)/\(Region.ready md ops listed=[]->Q .normal a w)/\
  ∀i∈Region.ready md ops listed,wpOp P ops Q i (yK P md ops m C Q fuel (listed.setIfInBounds i true)) a w
def yK.isIn:∀{fuel:Nat}{listed:Array Bool}{a:Act}{w:World},yK P md ops m C Q fuel listed a w->listed.getD m true=false->C w
 | 0,_,_,_,h=>h.1
 | _+1,_,_,_,h=>h.1
def yK.any:∀(fuel:Nat) (listed:Array Bool) (a:Act) (w:World),yK P md ops m C Q fuel listed a w->wpAny P md ops Q fuel listed a w
 | 0,_,_,_,h=>h.2
 |fuel+1,listed,_,_,h=>⟨h.2.1,λi d=>wpOp_mono (λa' w'=>yK.any fuel (listed.setIfInBounds i true) a' w') (h.2.2 i d)⟩
def jO(P:Cc)(ops:Cp)(C:Co)(o:Dz)(v:Ax)(a:Act):Prop:=
 Region.wanted o (yielded ops a.tmps)=true/\∀w,C w->(execOp a.eval o).run P w=.ok (.value v) w
def Kf(k:oi.apart ops oj=true)(z:∀cs b,oi.op≠.select cs b)(A:∀cs b,oj.op≠.select cs b)(y:∀c a w,Q (.panic c) (a.put oi.dst v) w->Q (.panic c) a w){K:Cq}{a:Act}{w:Aw}(hy:jO P ops C oi v a)(h:oj.wp P (a.put oi.dst v) w K Q):oj.wp P a w (λa' w'=>jO P ops C oi v a'/\K (a'.put oi.dst v) w') Q:=by
 obtain⟨h1,g,p⟩:=Oper.apart_spec k;have k:∀(b:Act),jO P ops C oi v b->∀u,jO P ops C oi v (b.put oj.dst u):=λb hb u=>
  ⟨by rw[wanted_put oi b oj.dst u p];exact hb.1,λx hx=>by rw[execOp_put oi z b oj.dst u p];exact hb.2 x hx⟩
 unfold Oper.wp at h⊢;rw[execOp_put oj A a oi.dst v h1]at h;revert h;generalize (execOp a.eval oj).run P w=r;intro h
 match r,h with
 | .ok (.value u) w',h=>exact⟨k a hy u,by rw[<- Act.put_comm a v u g];exact h⟩
 | .ok .skip w',h=>exact⟨k a hy _,by rw[<- Act.put_comm a v undef g];exact h⟩
 | .ok (.defer d) w',h=>exact⟨k { a with defers:=d::a.defers } ⟨hy.1,hy.2⟩ _,by rw[<- Act.put_comm _ v undef g,<- Act.put_defers];exact h⟩
 | .ok (.enter f args) w',h=>
  refine Calls.mono h λe p he=>?_
  match e,he with
  | .returned u,he=>exact⟨k a hy u,by rw[<- Act.put_comm a v u g];exact he⟩
  | .panicked c,he=>exact y _ _ _ he
  | .outgrown,he=>exact he
 | .ok (.row row args) w',h=>exact Rows.mono h λu p he=>⟨k a hy u,by rw[<- Act.put_comm a v u g];exact he⟩
 | .halt (.panic u) w',h=>exact y _ _ _ h
def dM(p:ops[j]?=some oj)(f:oi.apart ops oj=true)(g:∀cs b,oi.op≠.select cs b)(k:∀cs b,oj.op≠.select cs b)(u:∀c a w,Q (.panic c) (a.put oi.dst v) w->Q (.panic c) a w){K:Cq}{a:Act}{w:Aw}(hy:jO P ops C oi v a)(h:wpOp P ops Q j K (a.put oi.dst v) w):wpOp P ops Q j (λa' w'=>jO P ops C oi v a'/\K (a'.put oi.dst v) w') a w:=by
 obtain⟨h1,r,d⟩:=Oper.apart_spec f;unfold wpOp at h⊢;simp only[p]at h⊢;rw[wanted_put oj a oi.dst v h1]at h;by_cases p:Region.wanted oj (yielded ops a.tmps)=true
 .rw[i_ p]at h⊢;refine h.imp (Kf f g k u hy) (λ⟨x,y⟩=>⟨?_,y⟩);unfold Oper.asks at x⊢;rw[execOp_put oj k a oi.dst v h1]at x;exact x
 .rw[n_ p]at h⊢;refine⟨⟨by rw[wanted_put oi a oj.dst undef d];exact hy.1,λx hx=>by rw[execOp_put oi g a oj.dst undef d];exact hy.2 x hx⟩,?_⟩;rw[<- Act.put_comm a v undef r];exact h
def jO.wpOp{w:Aw}(f:ops[i]?=some o)(hy:jO P ops C o v a)(d:C w)(h:K (a.put o.dst v) w):wpOp P ops Q i K a w:=by
 unfold Go.wpOp;simp only[f];rw[i_ hy.1];exact .inl (by unfold Oper.wp;rw[hy.2 w d];exact h)
def qa(h:listed.getD i true=false):listed.getD i false≠true:=by
 rw[Array.getD_eq_getD_getElem?]at h⊢;cases hx:listed[i]? with
 |none=>decide
 |some x=>rw[hx]at h;simp only[b5_]at h⊢;rw[h];decide
def cq6_{p:Prop}(h:p:=by
 induction fuel with
 |zero=>
  intro listed a w hm _ hr hy d;have r:C w:=d.isIn (by rw[getD_set_ne true (Ne.symm hmi)];exact hm);refine⟨λ_=>r,λh=>absurd hr (by rw[h];exact bk_),λj u=>?_⟩;by_cases f:j=i
  .subst f;(first|(have _:=cc1;exact hy.wpOp hi d)|(exact hy.wpOp hi r d))
  .have:=ready_mono u f;rw[d.2.1]at this;exact absurd this bk_
 |succ fuel ih=>
  intro listed a w hm y hr hy d;have r:C w:=d.isIn (by rw[getD_set_ne true (Ne.symm hmi)];exact hm);refine⟨λ_=>r,λh=>absurd hr (by rw[h];exact bk_),λj u=>?_⟩;by_cases f:j=i
  .subst f;(first|(have _:=cc1;exact hy.wpOp hi d)|(exact hy.wpOp hi r d))
  .obtain⟨z,oj,g,G⟩:=mem_ready.1 u;have I:=(mem_ready.1 hr).1;have A:∀e∈oj.after,Region.binds md e=true->e.on≠i:=λe he hb H=>qa I (H▸G e he hb);have J:j≠m:=λe=>by
    obtain⟨x,hx,hb,N⟩:=hme;rw[e,hmo]at g;obtain rfl:=Option.some.inj g;exact A x hx hb N
   (first|(have _:=cc1;have B:=mb g (y j oj g f z A) (λcs b=>hsel j oj cs b g) hQ hy (d.2.2 j (ready_mono u f)))|(have B:=dM g (y j oj g f z A) (λcs b=>hsel i oi cs b hi) (λcs b=>hsel j oj cs b g) hQ hy (d.2.2 j (ready_mono u f))));refine wpOp_mono (λa' w' D=>ih (listed.setIfInBounds j true) a' w' (by rw[getD_set_ne true J];exact hm) (λk ok hk L F M=>?_) (ready_mono hr (Ne.symm f)) D.1 ?_) B
   .refine y k ok hk L ?_ M;by_cases E:j=k
    .subst E;exact z
    .rw[getD_set_ne true E]at F;exact F
   .rw[Array.setIfInBounds_comm _ _ f];exact D.2):p:=h
def ni{om:Dz}(hi:ops[i]?=some oi)(hmo:ops[m]?=some om)(hme:∃e∈om.after,Region.binds md e=true/\e.on=i)(hmi:m≠i)(hsel:∀(j:Nat) (o:Oper) cs b,ops[j]?=some o->o.op≠.select cs b)(hQ:∀c a w,Q (.panic c) (a.put oi.dst v) w->Q (.panic c) a w)(fuel:Nat):∀(listed:Array Bool) (a:Act) (w:World),listed.getD m true=false->
  (∀j oj,ops[j]?=some oj->j≠i->listed.getD j true=false->(∀e∈oj.after,Region.binds md e=true->e.on≠i)->oi.apart ops oj=true)->
  i∈Region.ready md ops listed->jO P ops C oi v a->
  yK P md ops m C Q fuel (listed.setIfInBounds i true) (a.put oi.dst v) w->yK P md ops m C Q (fuel+1) listed a w:=by
 exact cq6_
def Region.mayFirst(md:Region.Mode)(ops:Cp)(listed:Dt)(m i:Nat):Bool:=
 Region.noSelect ops&&Region.free md ops listed i&&(Region.ready md ops listed).contains i && !(listed.getD m true)&&(m != i) &&
  match ops[m]? with
  |some om=>om.after.any λe=>Region.binds md e&&e.on==i
  |none=>false
def cq23_{p:Prop}(h:p:=by
 simp only[Region.mayFirst,a0_,bne_iff_ne,Bool.not_eq_true']at hf;obtain⟨⟨⟨⟨⟨hs,hf⟩,hr⟩,hm⟩,f⟩,hx⟩:=hf;cases d:ops[m]? with
 |none=>rw[d]at hx;exact absurd hx Bool.false_ne_true
 |some om=>
  rw[d]at hx;obtain⟨e,he,hb⟩:=Array.any_eq_true'.1 hx;simp only[a0_,beq_iff_eq]at hb;(first|(have:=cc1;exact rU hi d ⟨e,he,hb⟩ f (Region.noSelect_spec hs) hQ fuel listed a w hm (Region.free_spec hi hf) (by simpa using hr) hg h)|(exact ni hi d ⟨e,he,hb⟩ f (Region.noSelect_spec hs) hQ fuel listed a w hm (Region.free_spec hi hf) (by simpa using hr) ⟨hg,hy⟩ h))):p:=h
def qz(i:Nat)(v:Ax){w:Aw}(hi:ops[i]?=some oi)(hf:Region.mayFirst md ops listed m i=true)(hQ:∀c a w,Q (.panic c) (a.put oi.dst v) w->Q (.panic c) a w)(hg:Region.wanted oi (yielded ops a.tmps)=true)(hy:∀w,C w->(execOp a.eval oi).run P w=.ok (.value v) w)(h:yK P md ops m C Q fuel (listed.setIfInBounds i true) (a.put oi.dst v) w):yK P md ops m C Q (fuel+1) listed a w:=by
 exact cq23_
def ta_(i:Nat){w:Aw}(g:ops[i]?=some oi)(d:(Region.mayFirst md ops listed m i && Region.wanted oi (yielded ops a.tmps))=true)(f:∀c a w,Q (.panic c) (a.put oi.dst v) w->Q (.panic c) a w)(hy:∀w,C w->(execOp a.eval oi).run P w=.ok (.value v) w)(h:yK P md ops m C Q fuel (listed.setIfInBounds i true) (a.put oi.dst v) w):yK P md ops m C Q (fuel+1) listed a w:=by
 rw[Bool.and_eq_true]at d;exact qz i v g d.1 f d.2 hy h
def tb_(i:Nat){w:Aw}(g:ops[i]?=some oi)(f:Region.mayFirst md ops listed m i=true)(d:∀c a w,Q (.panic c) (a.put oi.dst v) w->Q (.panic c) a w)(hg:Region.wanted oi (yielded ops a.tmps)=true)(hy:∀w,C w->(execOp a.eval oi).run P w=.ok (.value v) w)(h:yK P md ops m C Q fuel (listed.setIfInBounds i true) (a.put oi.dst v) w):yK P md ops m C Q (fuel+1) listed a w:=qz i v g f d hg hy h
def tz_(i:Nat){w:Aw}(h:yK P md ops m C Q fuel (listed.setIfInBounds i true) (a.put oi.dst v) w)(y:ops[i]?=some oi:=by rfl)(p:(Region.mayFirst md ops listed m i&&Region.wanted oi (yielded ops a.tmps))=true:=by kernel_rfl)(x:∀c a w,Q (.panic c) (a.put oi.dst v) w->Q (.panic c) a w:=by exact λ_ _ _ h=>h)(hy:∀w,C w->(execOp a.eval oi).run P w=.ok (.value v) w:=by first|(rintro W ⟨h1,d,f,g,k,r,u,z⟩;go_simp<;>rfl)|(rintro W ⟨h1,d,f,g,k,r,u⟩;go_simp<;>rfl)|(rintro W ⟨h1,d,f,g,k,r⟩;go_simp<;>rfl)|(rintro W ⟨h1,d,f,g,k⟩;go_simp<;>rfl)|(rintro W ⟨h1,d,f,g⟩;go_simp<;>rfl)|(rintro W ⟨h1,d,f⟩;go_simp<;>rfl)|(rintro W ⟨h1,d⟩;go_simp<;>rfl)|(intro W h1;go_simp<;>rfl)):yK P md ops m C Q (fuel+1) listed a w:=by
 rw[a0_]at p;exact qz i v y p.1 x p.2 hy h
def cq24_{p:Prop}(h:p:=by
 refine⟨hC,λh0=>by rw[h0]at hr;exact absurd hr (by simp),λj d=>?_⟩;rw[hr]at d;obtain rfl:j=i:=by simpa using d
 unfold wpOp;simp only[hi];have:=h _ (λ_ _ h=>h);split
 .rename_i hg;rw[i_ hg]at this;exact .inl this
 .rename_i hg;rw[n_ hg]at this;exact this):p:=h
def yz(i:Nat){w:Aw}(hi:ops[i]?=some oi)(hr:Region.ready md ops listed=[i])(hC:listed.getD m true=false->C w)(h:∀K:Act->World->Prop,(∀a' w',yK P md ops m C Q fuel (listed.setIfInBounds i true) a' w'->K a' w')->if Region.wanted oi (yielded ops a.tmps)=true then oi.wp P a w K Q else K (a.put oi.dst undef) w):yK P md ops m C Q (fuel+1) listed a w:=by
 exact cq24_
def t1_(i:Nat){w:Aw}(c:C w)(h:q)(k:ops[i]?=some oi:=by rfl)(hr:Region.ready md ops listed=[i]:=by kernel_rfl)(f:q->∀K:Act->World->Prop,(∀a' w',yK P md ops m C Q fuel (listed.setIfInBounds i true) a' w'->K a' w')->if Region.wanted oi (yielded ops a.tmps)=true then oi.wp P a w K Q else K (a.put oi.dst undef) w:=by (intro g K d;go_simp;refine d _ _ ?_;exact g)):yK P md ops m C Q (fuel+1) listed a w:=yz i k hr (λ_=>c) (f h)
def t0_(i:Nat){w:Aw}(h:q)(p:ops[i]?=some oi:=by rfl)(hr:Region.ready md ops listed=[i]:=by kernel_rfl)(d:listed.getD m true=false->C w:=by exact λhm=>absurd hm (by decide))(f:q->∀K:Act->World->Prop,(∀a' w',yK P md ops m C Q fuel (listed.setIfInBounds i true) a' w'->K a' w')->if Region.wanted oi (yielded ops a.tmps)=true then oi.wp P a w K Q else K (a.put oi.dst undef) w:=by (intro k K g;go_simp;refine g _ _ ?_;exact k)):yK P md ops m C Q (fuel+1) listed a w:=yz i p hr d (f h)
def iJ{w:Aw}(hr:Region.ready md ops listed=[])(d:listed.getD m true=false->C w)(h:Q .normal a w):∀fuel,yK P md ops m C Q fuel listed a w
 | 0=>⟨d,hr,h⟩
 | _+1=>⟨d,λ_=>h,λi d=>by rw[hr]at d;exact absurd d bk_⟩
def td_{w:Aw}(h:Q .normal a w)(fuel:Nat)(hr:Region.ready md ops listed=[]:=by kernel_rfl)(d:listed.getD m true=false->C w:=by exact λhm=>absurd hm (by decide)):yK P md ops m C Q fuel listed a w:=iJ hr d h fuel
def aN{id:Nat}{w:Aw}(m:Nat)(C:Co)(hm:P.follows .mixedOrders=true)(h:yK P .any ops m C Q ops.size (Array.replicate ops.size false) a w.drew):(Code.region id ops true).wp P Q a w:=wp_region_any hm (yK.any _ _ _ _ h)
def tr_{id:Nat}{w:Aw}(m:Nat)(C:Co)(h:yK P .any ops m C Q ops.size (Array.replicate ops.size false) a w.drew)(hm:P.follows .mixedOrders=true:=by kernel_rfl):(Code.region id ops true).wp P Q a w:=aN m C hm h
end
open Go.RowKit
section
variable {P:Cc} {ops:Cp} {md:Region.Mode} {Q:Ab} {C:Co} {m:Nat}
def wN(ops:Cp)(o:Dz)(a:Act):Prop:=Region.wanted o (yielded ops a.tmps)=false
def YS(k:oi.apart ops oj=true)(y:∀cs b,oj.op≠.select cs b)(p:∀c a w,Q (.panic c) (a.put oi.dst undef) w->Q (.panic c) a w){K:Cq}{a:Act}{w:Aw}(hy:wN ops oi a)(h:oj.wp P (a.put oi.dst undef) w K Q):oj.wp P a w (λa' w'=>wN ops oi a'/\K (a'.put oi.dst undef) w') Q:=by
 obtain⟨h1,g,x⟩:=Oper.apart_spec k;have k:∀(b:Act),wN ops oi b->∀u,wN ops oi (b.put oj.dst u):=λb hb u=>by
  unfold wN;rw[wanted_put oi b oj.dst u x];exact hb
 unfold Oper.wp at h⊢;rw[execOp_put oj y a oi.dst undef h1]at h;revert h;generalize (execOp a.eval oj).run P w=r;intro h
 match r,h with
 | .ok (.value u) w',h=>exact⟨k a hy u,by rw[<- Act.put_comm a undef u g];exact h⟩
 | .ok .skip w',h=>exact⟨k a hy _,by rw[<- Act.put_comm a undef undef g];exact h⟩
 | .ok (.defer d) w',h=>exact⟨k { a with defers:=d::a.defers } hy _,by rw[<- Act.put_comm _ undef undef g,<- Act.put_defers];exact h⟩
 | .ok (.enter f args) w',h=>
  refine Calls.mono h λe x he=>?_
  match e,he with
  | .returned u,he=>exact⟨k a hy u,by rw[<- Act.put_comm a undef u g];exact he⟩
  | .panicked c,he=>exact p _ _ _ he
  | .outgrown,he=>exact he
 | .ok (.row row args) w',h=>exact Rows.mono h λu x he=>⟨k a hy u,by rw[<- Act.put_comm a undef u g];exact he⟩
 | .halt (.panic u) w',h=>exact p _ _ _ h
def mb(g:ops[j]?=some oj)(d:oi.apart ops oj=true)(f:∀cs b,oj.op≠.select cs b)(r:∀c a w,Q (.panic c) (a.put oi.dst undef) w->Q (.panic c) a w){K:Cq}{a:Act}{w:Aw}(hy:wN ops oi a)(h:wpOp P ops Q j K (a.put oi.dst undef) w):wpOp P ops Q j (λa' w'=>wN ops oi a'/\K (a'.put oi.dst undef) w') a w:=by
 obtain⟨h1,k,p⟩:=Oper.apart_spec d;unfold wpOp at h⊢;simp only[g]at h⊢;rw[wanted_put oj a oi.dst undef h1]at h;by_cases g:Region.wanted oj (yielded ops a.tmps)=true
 .rw[i_ g]at h⊢;refine h.imp (YS d f r hy) (λ⟨x,y⟩=>⟨?_,y⟩);unfold Oper.asks at x⊢;rw[execOp_put oj f a oi.dst undef h1]at x;exact x
 .rw[n_ g]at h⊢;refine⟨by unfold wN;rw[wanted_put oi a oj.dst undef p];exact hy,?_⟩;rw[<- Act.put_comm a undef undef k];exact h
def wN.wpOp{w:Aw}(d:ops[i]?=some o)(hy:wN ops o a)(h:K (a.put o.dst undef) w):wpOp P ops Q i K a w:=by
 unfold Go.wpOp;simp only[d];rw[n_ (by rw[show Region.wanted o (yielded ops a.tmps)=false from hy];decide)];exact h
def rU{om:Dz}(hi:ops[i]?=some oi)(hmo:ops[m]?=some om)(hme:∃e∈om.after,Region.binds md e=true/\e.on=i)(hmi:m≠i)(hsel:∀(j:Nat) (o:Oper) cs b,ops[j]?=some o->o.op≠.select cs b)(hQ:∀c a w,Q (.panic c) (a.put oi.dst undef) w->Q (.panic c) a w)(fuel:Nat):∀(listed:Array Bool) (a:Act) (w:World),listed.getD m true=false->
  (∀j oj,ops[j]?=some oj->j≠i->listed.getD j true=false->(∀e∈oj.after,Region.binds md e=true->e.on≠i)->oi.apart ops oj=true)->
  i∈Region.ready md ops listed->wN ops oi a->
  yK P md ops m C Q fuel (listed.setIfInBounds i true) (a.put oi.dst undef) w->yK P md ops m C Q (fuel+1) listed a w:=by
 have cc1:=Nat
 exact cq6_
def vZ(i:Nat){w:Aw}(hi:ops[i]?=some oi)(hf:Region.mayFirst md ops listed m i=true)(hQ:∀c a w,Q (.panic c) (a.put oi.dst undef) w->Q (.panic c) a w)(hg:Region.wanted oi (yielded ops a.tmps)=false)(h:yK P md ops m C Q fuel (listed.setIfInBounds i true) (a.put oi.dst undef) w):yK P md ops m C Q (fuel+1) listed a w:=by
 have cc1:=Nat
 exact cq23_
end
open Go.RowKit
section
variable {P:Cc} {ops:Cp} {md:Region.Mode} {Q:Ab} {C:Co}
def yW(P:Cc)(md:Region.Mode)(ops:Cp)(C:Co)(Q:Ab):Nat->Array Bool->Act->World->Prop
 | 0,listed,a,w=>C w/\Region.ready md ops listed=[]/\Q .normal a w
 |fuel+1,listed,a,w=>C w/\(Region.ready md ops listed=[]->Q .normal a w)/\
  ∀i∈Region.ready md ops listed,wpOp P ops Q i (yW P md ops C Q fuel (listed.setIfInBounds i true)) a w
def yW.isIn:∀{fuel:Nat}{listed:Array Bool}{a:Act}{w:World},yW P md ops C Q fuel listed a w->C w
 | 0,_,_,_,h=>h.1
 | _+1,_,_,_,h=>h.1
def yW.any:∀(fuel:Nat) (listed:Array Bool) (a:Act) (w:World),yW P md ops C Q fuel listed a w->wpAny P md ops Q fuel listed a w
 | 0,_,_,_,h=>h.2
 |fuel+1,listed,_,_,h=>⟨h.2.1,λi d=>wpOp_mono (λa' w'=>yW.any fuel (listed.setIfInBounds i true) a' w') (h.2.2 i d)⟩
def cq10_{p:Prop}(h:p:=by
 induction fuel with
 |zero=>
  intro listed a w _ hr hy d;have r:C w:=d.isIn;refine⟨r,λh=>absurd hr (by rw[h];exact bk_),λj u=>?_⟩;by_cases f:j=i
  .subst f;(first|(have _:=cc1;exact hy.wpOp hi d)|(exact hy.wpOp hi r d))
  .have:=ready_mono u f;rw[d.2.1]at this;exact absurd this bk_
 |succ fuel ih=>
  intro listed a w x hr hy d;have r:C w:=d.isIn;refine⟨r,λh=>absurd hr (by rw[h];exact bk_),λj u=>?_⟩;by_cases f:j=i
  .subst f;(first|(have _:=cc1;exact hy.wpOp hi d)|(exact hy.wpOp hi r d))
  .obtain⟨y,oj,g,F⟩:=mem_ready.1 u;have H:=(mem_ready.1 hr).1;have D:∀e∈oj.after,Region.binds md e=true->e.on≠i:=λe he hb G=>qa H (G▸F e he hb);(first|(have _:=cc1;have z:=mb g (x j oj g f y D) (λcs b=>hsel j oj cs b g) hQ hy (d.2.2 j (ready_mono u f)))|(have z:=dM g (x j oj g f y D) (λcs b=>hsel i oi cs b hi) (λcs b=>hsel j oj cs b g) hQ hy (d.2.2 j (ready_mono u f))));refine wpOp_mono (λa' w' A=>ih (listed.setIfInBounds j true) a' w' (λk ok hk I E J=>?_) (ready_mono hr (Ne.symm f)) A.1 ?_) z
   .refine x k ok hk I ?_ J;by_cases B:j=k
    .subst B;exact y
    .rw[getD_set_ne true B]at E;exact E
   .rw[Array.setIfInBounds_comm _ _ f];exact A.2):p:=h
def nZ(hi:ops[i]?=some oi)(hsel:∀(j:Nat) (o:Oper) cs b,ops[j]?=some o->o.op≠.select cs b)(hQ:∀c a w,Q (.panic c) (a.put oi.dst v) w->Q (.panic c) a w)(fuel:Nat):∀(listed:Array Bool) (a:Act) (w:World),
  (∀j oj,ops[j]?=some oj->j≠i->listed.getD j true=false->(∀e∈oj.after,Region.binds md e=true->e.on≠i)->oi.apart ops oj=true)->
  i∈Region.ready md ops listed->jO P ops C oi v a->
  yW P md ops C Q fuel (listed.setIfInBounds i true) (a.put oi.dst v) w->yW P md ops C Q (fuel+1) listed a w:=by
 exact cq10_
def rC(hi:ops[i]?=some oi)(hsel:∀(j:Nat) (o:Oper) cs b,ops[j]?=some o->o.op≠.select cs b)(hQ:∀c a w,Q (.panic c) (a.put oi.dst undef) w->Q (.panic c) a w)(fuel:Nat):∀(listed:Array Bool) (a:Act) (w:World),
  (∀j oj,ops[j]?=some oj->j≠i->listed.getD j true=false->(∀e∈oj.after,Region.binds md e=true->e.on≠i)->oi.apart ops oj=true)->
  i∈Region.ready md ops listed->wN ops oi a->
  yW P md ops C Q fuel (listed.setIfInBounds i true) (a.put oi.dst undef) w->yW P md ops C Q (fuel+1) listed a w:=by
 have cc1:=Nat
 exact cq10_
def Region.mayAll(md:Region.Mode)(ops:Cp)(listed:Dt)(i:Nat):Bool:=
 Region.noSelect ops&&Region.free md ops listed i&&(Region.ready md ops listed).contains i
def zm(i:Nat)(v:Ax){w:Aw}(f:ops[i]?=some oi)(d:Region.mayAll md ops listed i=true)(g:∀c a w,Q (.panic c) (a.put oi.dst v) w->Q (.panic c) a w)(hg:Region.wanted oi (yielded ops a.tmps)=true)(hy:∀w,C w->(execOp a.eval oi).run P w=.ok (.value v) w)(h:yW P md ops C Q fuel (listed.setIfInBounds i true) (a.put oi.dst v) w):yW P md ops C Q (fuel+1) listed a w:=by
 simp only[Region.mayAll,a0_]at d;obtain⟨⟨hs,d⟩,hr⟩:=d;exact nZ f (Region.noSelect_spec hs) g fuel listed a w (Region.free_spec f d) (by simpa using hr) ⟨hg,hy⟩ h
def tA_(i:Nat){w:Aw}(g:ops[i]?=some oi)(d:(Region.mayAll md ops listed i && Region.wanted oi (yielded ops a.tmps))=true)(f:∀c a w,Q (.panic c) (a.put oi.dst v) w->Q (.panic c) a w)(hy:∀w,C w->(execOp a.eval oi).run P w=.ok (.value v) w)(h:yW P md ops C Q fuel (listed.setIfInBounds i true) (a.put oi.dst v) w):yW P md ops C Q (fuel+1) listed a w:=by
 rw[Bool.and_eq_true]at d;exact zm i v g d.1 f d.2 hy h
def tY_(i:Nat){w:Aw}(h:yW P md ops C Q fuel (listed.setIfInBounds i true) (a.put oi.dst v) w)(y:ops[i]?=some oi:=by rfl)(p:(Region.mayAll md ops listed i&&Region.wanted oi (yielded ops a.tmps))=true:=by kernel_rfl)(x:∀c a w,Q (.panic c) (a.put oi.dst v) w->Q (.panic c) a w:=by exact λ_ _ _ h=>h)(hy:∀w,C w->(execOp a.eval oi).run P w=.ok (.value v) w:=by first|(rintro W ⟨h1,d,f,g,k,r,u,z⟩;go_simp<;>rfl)|(rintro W ⟨h1,d,f,g,k,r,u⟩;go_simp<;>rfl)|(rintro W ⟨h1,d,f,g,k,r⟩;go_simp<;>rfl)|(rintro W ⟨h1,d,f,g,k⟩;go_simp<;>rfl)|(rintro W ⟨h1,d,f,g⟩;go_simp<;>rfl)|(rintro W ⟨h1,d,f⟩;go_simp<;>rfl)|(rintro W ⟨h1,d⟩;go_simp<;>rfl)|(intro W h1;go_simp<;>rfl)):yW P md ops C Q (fuel+1) listed a w:=by
 rw[a0_]at p;exact zm i v y p.1 x p.2 hy h
def vY(i:Nat){w:Aw}(f:ops[i]?=some oi)(d:Region.mayAll md ops listed i=true)(g:∀c a w,Q (.panic c) (a.put oi.dst undef) w->Q (.panic c) a w)(hg:Region.wanted oi (yielded ops a.tmps)=false)(h:yW P md ops C Q fuel (listed.setIfInBounds i true) (a.put oi.dst undef) w):yW P md ops C Q (fuel+1) listed a w:=by
 simp only[Region.mayAll,a0_]at d;obtain⟨⟨hs,d⟩,hr⟩:=d;exact rC f (Region.noSelect_spec hs) g fuel listed a w (Region.free_spec f d) (by simpa using hr) hg h
def zd(i:Nat){w:Aw}(hi:ops[i]?=some oi)(hr:Region.ready md ops listed=[i])(hC:C w)(h:∀K:Act->World->Prop,(∀a' w',yW P md ops C Q fuel (listed.setIfInBounds i true) a' w'->K a' w')->if Region.wanted oi (yielded ops a.tmps)=true then oi.wp P a w K Q else K (a.put oi.dst undef) w):yW P md ops C Q (fuel+1) listed a w:=by
 have cc1:=Nat
 exact cq24_
def t2_(i:Nat){w:Aw}(c:C w)(h:q)(k:ops[i]?=some oi:=by rfl)(hr:Region.ready md ops listed=[i]:=by kernel_rfl)(f:q->∀K:Act->World->Prop,(∀a' w',yW P md ops C Q fuel (listed.setIfInBounds i true) a' w'->K a' w')->if Region.wanted oi (yielded ops a.tmps)=true then oi.wp P a w K Q else K (a.put oi.dst undef) w:=by (intro g K d;go_simp;refine d _ _ ?_;exact g)):yW P md ops C Q (fuel+1) listed a w:=zd i k hr c (f h)
def zV{w:Aw}(hr:Region.ready md ops listed=[])(d:C w)(h:Q .normal a w):∀fuel,yW P md ops C Q fuel listed a w
 | 0=>⟨d,hr,h⟩
 | _+1=>⟨d,λ_=>h,λi d=>by rw[hr]at d;exact absurd d bk_⟩
def ns{id:Nat}{w:Aw}(C:Co)(hm:P.follows .mixedOrders=true)(h:yW P .any ops C Q ops.size (Array.replicate ops.size false) a w.drew):(Code.region id ops true).wp P Q a w:=wp_region_any hm (yW.any _ _ _ _ h)
def tR_{id:Nat}{w:Aw}(C:Co)(h:yW P .any ops C Q ops.size (Array.replicate ops.size false) a w.drew)(hm:P.follows .mixedOrders=true:=by kernel_rfl):(Code.region id ops true).wp P Q a w:=ns C hm h
end
open Go.RowKit
def yx(u:Aw)(o:Cj):(u.alloc o).heap.size=u.heap.size+1:=by show(u.heap.push _).size=_;simp
section
variable {P:Cc} {ops:Cp} {md:Region.Mode} {Q:Ab} {C:Co} {m:Nat}
end
open Go.RowKit
def xw(T I:As)(h:∀(v:Value) (w:World),(Instr.typeAssert (.iface T v) I T true).run prog w=.ok (.tuple #[v,.bool true]) w:=by exact λ_ _=>by kernel_rfl):∀(v:Value) (w:World),(Instr.typeAssert (.iface T v) I T true).run prog w=.ok (.tuple #[v,.bool true]) w:=h
def vR(T I:As)(z:Ax)(h:∀(u:TypeId) (v:Value) (w:World),(Instr.typeAssert (.iface u v) I T true).run prog w=(if u=T then (pure (Value.tuple #[v,.bool true]):Sem Value) else (do pure (Value.tuple #[<- zeroValue T,.bool false]))).run prog w:=by exact λ_ _ _=>by kernel_rfl)(d:∀(w:World),(do pure (Value.tuple #[<- zeroValue T,.bool false]):Sem Value).run prog w=.ok (.tuple #[z,.bool false]) w:=by exact λ_=>by kernel_rfl):∀u,u≠T->∀(v:Value) (w:World),(Instr.typeAssert (.iface u v) I T true).run prog w=.ok (.tuple #[z,.bool false]) w:=by
 intro u hu v w;rw[h,n_ hu];exact d w
def Blk(w:Aw)(b:Nat)(cs:Az)(t:As):Prop:=w.heap[b]?=some (.cells cs.toArray t (0,0))
def Blk.cell{w:Aw}(h:Blk w b cs t)(o:Nat):w.cell? ⟨b,o,none⟩=cs[o]?:=by
 unfold Blk at h;simp[World.cell?,h]
def G_:=@Blk.cell
def Blk.th{w:Aw}(h:Blk w b cs t)(o:Nat):w.frozen? ⟨b,o,none⟩=false:=by
 unfold Blk at h;simp[World.frozen?,h]
def Blk.c0{w:Aw}(h:Blk w b (v0::l) t):w.cell? ⟨b,0,none⟩=some v0:=h.cell 0
def Blk.c1{w:Aw}(h:Blk w b (v0::v1::l) t):w.cell? ⟨b,1,none⟩=some v1:=h.cell 1
def Blk.c2{w:Aw}(h:Blk w b (v0::v1::v2::l) t):w.cell? ⟨b,2,none⟩=some v2:=h.cell 2
def Blk.c3{w:Aw}(h:Blk w b (v0::v1::v2::v3::l) t):w.cell? ⟨b,3,none⟩=some v3:=h.cell 3
def Blk.c4{w:Aw}(h:Blk w b (v0::v1::v2::v3::v4::l) t):w.cell? ⟨b,4,none⟩=some v4:=h.cell 4
def Blk.c5{w:Aw}(h:Blk w b (v0::v1::v2::v3::v4::v5::l) t):w.cell? ⟨b,5,none⟩=some v5:=h.cell 5
def Blk.c6{w:Aw}(h:Blk w b (v0::v1::v2::v3::v4::v5::v6::l) t):w.cell? ⟨b,6,none⟩=some v6:=h.cell 6
def Blk.c7{w:Aw}(h:Blk w b (v0::v1::v2::v3::v4::v5::v6::v7::l) t):w.cell? ⟨b,7,none⟩=some v7:=h.cell 7
def Blk.c8{w:Aw}{d:Ax}(h:Blk w b (v0::v1::v2::v3::v4::v5::v6::v7::d::l) t):w.cell? ⟨b,8,none⟩=some d:=h.cell 8
def Blk.c9{w:Aw}{f d:Ax}(h:Blk w b (v0::v1::v2::v3::v4::v5::v6::v7::f::d::l) t):w.cell? ⟨b,9,none⟩=some d:=h.cell 9
def Blk.d3{w:Aw}(h:Blk w b (v0::v1::v2::l) t):w.cell? ⟨b,0,none⟩=some v0/\w.cell? ⟨b,1,none⟩=some v1/\w.cell? ⟨b,2,none⟩=some v2:=⟨h.cell 0,h.cell 1,h.cell 2⟩
def Blk.d4{w:Aw}(h:Blk w b (v0::v1::v2::v3::l) t):w.cell? ⟨b,0,none⟩=some v0/\w.cell? ⟨b,1,none⟩=some v1/\w.cell? ⟨b,2,none⟩=some v2/\w.cell? ⟨b,3,none⟩=some v3:=⟨h.cell 0,h.cell 1,h.cell 2,h.cell 3⟩
def Blk.d5{w:Aw}(h:Blk w b (v0::v1::v2::v3::v4::l) t):w.cell? ⟨b,0,none⟩=some v0/\w.cell? ⟨b,1,none⟩=some v1/\w.cell? ⟨b,2,none⟩=some v2/\w.cell? ⟨b,3,none⟩=some v3/\w.cell? ⟨b,4,none⟩=some v4:=⟨h.cell 0,h.cell 1,h.cell 2,h.cell 3,h.cell 4⟩
def Blk.t3{w:Aw}(h:Blk w b l t):w.frozen? ⟨b,0,none⟩=false/\w.frozen? ⟨b,1,none⟩=false/\w.frozen? ⟨b,2,none⟩=false:=⟨h.th 0,h.th 1,h.th 2⟩
def Blk.t4{w:Aw}(h:Blk w b l t):w.frozen? ⟨b,0,none⟩=false/\w.frozen? ⟨b,1,none⟩=false/\w.frozen? ⟨b,2,none⟩=false/\w.frozen? ⟨b,3,none⟩=false:=⟨h.th 0,h.th 1,h.th 2,h.th 3⟩
def Blk.t5{w:Aw}(h:Blk w b l t):w.frozen? ⟨b,0,none⟩=false/\w.frozen? ⟨b,1,none⟩=false/\w.frozen? ⟨b,2,none⟩=false/\w.frozen? ⟨b,3,none⟩=false/\w.frozen? ⟨b,4,none⟩=false:=⟨h.th 0,h.th 1,h.th 2,h.th 3,h.th 4⟩
def Blk.f3{w:Aw}(h:Blk w b l t):w.cell? ⟨b,0,none⟩=l[0]?/\w.cell? ⟨b,1,none⟩=l[1]?/\w.cell? ⟨b,2,none⟩=l[2]?:=⟨h.cell 0,h.cell 1,h.cell 2⟩
def Blk.f4{w:Aw}(h:Blk w b l t):w.cell? ⟨b,0,none⟩=l[0]?/\w.cell? ⟨b,1,none⟩=l[1]?/\w.cell? ⟨b,2,none⟩=l[2]?/\w.cell? ⟨b,3,none⟩=l[3]?:=⟨h.cell 0,h.cell 1,h.cell 2,h.cell 3⟩
def Blk.f5{w:Aw}(h:Blk w b l t):w.cell? ⟨b,0,none⟩=l[0]?/\w.cell? ⟨b,1,none⟩=l[1]?/\w.cell? ⟨b,2,none⟩=l[2]?/\w.cell? ⟨b,3,none⟩=l[3]?/\w.cell? ⟨b,4,none⟩=l[4]?:=⟨h.cell 0,h.cell 1,h.cell 2,h.cell 3,h.cell 4⟩
def Blk.f10{w:Aw}(h:Blk w b l t):w.cell? ⟨b,0,none⟩=l[0]?/\w.cell? ⟨b,1,none⟩=l[1]?/\w.cell? ⟨b,2,none⟩=l[2]?/\w.cell? ⟨b,3,none⟩=l[3]?/\w.cell? ⟨b,4,none⟩=l[4]?/\w.cell? ⟨b,5,none⟩=l[5]?/\w.cell? ⟨b,6,none⟩=l[6]?/\w.cell? ⟨b,7,none⟩=l[7]?/\w.cell? ⟨b,8,none⟩=l[8]?/\w.cell? ⟨b,9,none⟩=l[9]?:=⟨h.cell 0,h.cell 1,h.cell 2,h.cell 3,h.cell 4,h.cell 5,h.cell 6,h.cell 7,h.cell 8,h.cell 9⟩
def Blk.lt{w:Aw}(h:Blk w b cs t):b<w.heap.size:=by
 unfold Blk at h;exact(Array.getElem?_eq_some_iff.1 h).1
def Blk.set{w:Aw}(h:Blk w b cs t)(o:Nat)(v:Ax):Blk (w.setCell ⟨b,o,none⟩ v) b (cs.set o v) t:=by
 unfold Blk at *;simp[World.setCell,Array.getElem?_modify,h]
def C_:=@Blk.set
def Blk.ot{w:Aw}(h:Blk w b cs t){a:Addr}(v:Ax)(hb:b≠a.block):Blk (w.setCell a v) b cs t:=by
 unfold Blk at *;rw[Below.heap_setCell _ _ _ _ hb];exact h
def E_:=@Blk.ot
def Blk.alloc{w:Aw}(h:Blk w b cs t)(o:Cj):Blk (w.alloc o) b cs t:=by
 have hl:=h.lt;unfold Blk at *;rw[Below.heap_alloc _ _ _ hl];exact h
def F_:=@Blk.alloc
def Blk.drew{w:Aw}(h:Blk w b cs t):Blk w.drew b cs t:=h
def Blk.new(w:Aw)(cs:Ci)(t:As):Blk (w.alloc (.cells cs t)) w.heap.size cs.toList t:=by
 show(w.heap.push _)[w.heap.size]?=_;simp
def B_:=@Blk.new
structure Fr(w w':Aw)(S:Au):Prop where
 os:w'.os=w.os
 tape:w'.tape=w.tape
 output:w'.output=w.output
 size:w.heap.size<=w'.heap.size
 block:∀k,k<w.heap.size->¬S k->w'.heap[k]?=w.heap[k]?
def Fr.refl(w:Aw)(S:Au):Fr w w S:=⟨rfl,rfl,rfl,l_,λ_ _ _=>rfl⟩
def A_:=@Fr.refl
def Fr.trans{a b c:Aw}{T:Au}(h:Fr a b S)(k:Fr b c T)(g:∀x,x<a.heap.size->T x->S x):Fr a c S:=
 ⟨k.os.trans h.os,k.tape.trans h.tape,k.output.trans h.output,ai_ h.size k.size,λi d f=>(k.block i (bg_ d h.size) (λt=>f (g i d t))).trans (h.block i d f)⟩
def Fr.mono{a b:Aw}{T:Au}(h:Fr a b S)(f:∀x,x<a.heap.size->S x->T x):Fr a b T:=
 ⟨h.os,h.tape,h.output,h.size,λi d hn=>h.block i d (λs=>hn (f i d s))⟩
def Fr.drew{a b:Aw}(h:Fr a b S):Fr a b.drew S:=⟨h.os,h.tape,h.output,h.size,h.block⟩
def Fr.alloc{a b:Aw}(h:Fr a b S)(o:Cj):Fr a (b.alloc o) S:=
 h.trans ⟨rfl,rfl,rfl,by simp,λk hk _=>Below.heap_alloc _ _ _ hk⟩ (T:=λ_=>False) v_
def Fr.setCell{a b:Aw}(h:Fr a b S)(p:Addr)(v:Ax)(hp:p.block<a.heap.size->S p.block):Fr a (b.setCell p v) S:=
 h.trans (T:=λx=>x=p.block) ⟨rfl,rfl,rfl,by simp[World.setCell],λk _ d=>Below.heap_setCell _ _ _ _ d⟩ (λ_ hx e=>e▸hp (e▸hx))
def Fr.gr{a b c:Aw}{row:Option Nat}(h:Fr a b S)(hg:b.grownBy c row)(hr:∀k,row=some k->k<a.heap.size->S k):Fr a c S:=
 h.trans (T:=λx=>row=some x) ⟨hg.os,hg.tape,hg.output,hg.size,λk hk d=>hg.block k hk (λe=>d e.symm)⟩ (λx hx e=>hr x e hx)
def T_:=@Fr.gr
def Fr.bl{w:Aw}(h:Fr w w' S)(hb:Blk w b cs t)(d:¬S b):Blk w' b cs t:=by
 have:=h.block b hb.lt d;unfold Blk at *;rw[this];exact hb
def pk(s:BA)(i:Nat)(bad:Ap):Int:=
 if bad=true then 0 else if h:i<s.size then ((s[i]'h).toNat:Int) else 0
structure RV where
 i:Nat
 bad:Bool
 u:Value
 wr:Int
 mx:Int
def RV.cells(s:BA)(bz:Nat)(σ:RV):List Value:=
 [.string s,Z_ σ.i,.bool σ.bad,P_ bz,σ.u,Z_ σ.wr,Z_ σ.mx]
def RAt(w:Aw)(br:Nat)(s:BA)(bz:Nat)(σ:RV):Prop:=Blk w br (σ.cells s bz) 81
section
variable {w:Aw} {br:Nat} {s:BA} {bz:Nat} {σ:RV}
def RAt.c0(h:RAt w br s bz σ):w.cell? ⟨br,0,none⟩=some (.string s):=by rw[G_ h];rfl
def RAt.c1(h:RAt w br s bz σ):w.cell? ⟨br,1,none⟩=some (Z_ σ.i):=by rw[G_ h];rfl
def RAt.c2(h:RAt w br s bz σ):w.cell? ⟨br,2,none⟩=some (.bool σ.bad):=by rw[G_ h];rfl
def RAt.c3(h:RAt w br s bz σ):w.cell? ⟨br,3,none⟩=some (P_ bz):=by rw[G_ h];rfl
def RAt.c4(h:RAt w br s bz σ):w.cell? ⟨br,4,none⟩=some σ.u:=by rw[G_ h];rfl
def RAt.c5(h:RAt w br s bz σ):w.cell? ⟨br,5,none⟩=some (Z_ σ.wr):=by rw[G_ h];rfl
def RAt.c6(h:RAt w br s bz σ):w.cell? ⟨br,6,none⟩=some (Z_ σ.mx):=by rw[G_ h];rfl
def RAt.setI(h:RAt w br s bz σ)(n:Nat):RAt (w.setCell ⟨br,1,none⟩ (Z_ n)) br s bz { σ with i:=n }:=C_ h 1 _
def RAt.setBad(h:RAt w br s bz σ)(x:Ap):RAt (w.setCell ⟨br,2,none⟩ (.bool x)) br s bz { σ with bad:=x }:=C_ h 2 _
def RAt.setU(h:RAt w br s bz σ)(x:Ax):RAt (w.setCell ⟨br,4,none⟩ x) br s bz { σ with u:=x }:=C_ h 4 _
def RAt.setWr(h:RAt w br s bz σ)(x:Int):RAt (w.setCell ⟨br,5,none⟩ (Z_ x)) br s bz { σ with wr:=x }:=C_ h 5 _
def RAt.setMx(h:RAt w br s bz σ)(x:Int):RAt (w.setCell ⟨br,6,none⟩ (Z_ x)) br s bz { σ with mx:=x }:=C_ h 6 _
end
def RAt.th{w:Aw}{br:Nat}{s:BA}{bz:Nat}{σ:RV}(h:RAt w br s bz σ)(o:Nat):w.frozen? ⟨br,o,none⟩=false:=Blk.th h o
def Fr.one(w:Aw)(p:Addr)(v:Ax):Fr w (w.setCell p v) (· = p.block):=(A_ w _).setCell p v (λ_=>rfl)
def V_:=@Fr.one
def ya(c lo d:Int)(w:Aw):Calls prog 39 #[.int .u8 c,.int .u8 lo,.int .u8 d] w λe w'=>e=.returned (.bool (decide (lo<=c)&&decide (c<=d)))/\w'=w:=by
 go_in;go_wp2
 .go_ret;rename_i h;exact⟨by simp[h],rfl⟩
 .go_ret;rename_i h;exact⟨by simp[show ¬lo<=c by omega],rfl⟩
def zw(w w':Aw):Prop:=∃n,w'=w.drewN n
def zw.refl(w:Aw):zw w w:=⟨0,rfl⟩
def zw.drewN(w:Aw)(n:Nat):zw w (w.drewN n):=⟨n,rfl⟩
def zw.drew(w:Aw):zw w w.drew:=⟨1,rfl⟩
def zw.trans{a b c:Aw}(h:zw a b)(k:zw b c):zw a c:=by
 obtain⟨n,rfl⟩:=h;obtain⟨m,rfl⟩:=k;exact⟨n+m,by simp[World.drewN,bv_]⟩
def gn{w:Aw}{br:Nat}{s:BA}{bz:Nat}{σ:RV}(h:RAt w br s bz σ)(_hs:s.size<=300)(d:σ.i<=300):Calls prog 40 #[P_ br] w λe w'=>e=.returned (.int .u8 (pk s σ.i σ.bad))/\zw w w':=by
 obtain⟨c0,c1,c2⟩:=h.d3;rcases σ with⟨i,bad,u,wr,mx⟩;simp only at c1 c2 d⊢;cases bad with
 |true=>
  go_in;go_wp2;go_quiet (fail);go_wp2;go_ret;exact⟨by simp[pk],_,rfl⟩
 |false=>
  by_cases hl:i<s.size
  .have d:(i:Int)<(s.size:Int):=M_;go_in;go_wp2;go_quiet (fail);go_wp2;go_quiet (fail);go_wp2;go_ret;exact⟨by simp[pk,hl],(zw.drewN _ _).trans (zw.drewN _ _)⟩
  .go_in;go_wp2;go_quiet (fail);go_wp2;go_ret;refine⟨by simp[pk];omega,?_⟩;exact⟨_,rfl⟩
def RV.eat(s:BA)(c:Int)(σ:RV):RV:=if pk s σ.i σ.bad=c then { σ with i:=σ.i+1 } else { σ with bad:=true }
def RAt.si{w:Aw}{br:Nat}{s:BA}{bz:Nat}{σ:RV}(h:RAt w br s bz σ)(d:zw w w'):RAt w' br s bz σ:=by
 obtain⟨n,rfl⟩:=d;exact h
def Fr.si{a w:Aw}(h:Fr a w S)(d:zw w w'):Fr a w' S:=by
 obtain⟨n,rfl⟩:=d;exact⟨h.os,h.tape,h.output,h.size,h.block⟩
def Wh{w:Aw}{br:Nat}{s:BA}{bz:Nat}{σ:RV}{c:Int}(h:RAt w br s bz σ)(hs:s.size<=300)(g:σ.i<=300):Calls prog 41 #[P_ br,.int .u8 c] w λe w'=>e=.returned (.tuple #[])/\RAt w' br s bz (σ.eat s c)/\Fr w w' (· = br):=by
 go_in;go_wp2_with (go_at_call 40;apply(gn h hs g).mono;rintro e w' ⟨rfl,f⟩;have d:=h.si f;have c1:=d.c1;have c2:=d.c2;have k:=d.th 1;have p:=d.th 2)
 .go_end0;rename_i hc;exact⟨rfl,by rw[RV.eat,i_ zb_];exact d.setI (σ.i+1),((A_ w _).si f).setCell _ _ (λ_=>rfl)⟩
 .go_end0;rename_i hc;exact⟨rfl,by rw[RV.eat,n_ zb_];exact d.setBad true,((A_ w _).si f).setCell _ _ (λ_=>rfl)⟩
def RV.wrong(at_:Int)(σ:RV):RV:=if σ.wr<0\/at_<σ.wr then { σ with wr:=at_ } else σ
def YK{w:Aw}{br:Nat}{s:BA}{bz:Nat}{σ:RV}{d:Int}(h:RAt w br s bz σ):Calls prog 24 #[P_ br,Z_ d] w λe w'=>e=.returned (.tuple #[])/\RAt w' br s bz (σ.wrong d)/\Fr w w' (· = br):=by
 have c5:=h.c5;have f5:=h.th 5;by_cases h1:σ.wr<0
 .go_in;go_wp2;go_end0;exact⟨rfl,by rw[RV.wrong,i_ (.inl h1)];exact RAt.setWr h d,(A_ w _).setCell _ _ (λ_=>rfl)⟩
 .by_cases f:d<σ.wr
  .go_in;go_wp2;go_end0;exact⟨rfl,by rw[RV.wrong,i_ (.inr f)];exact RAt.setWr h d,(A_ w _).setCell _ _ (λ_=>rfl)⟩
  .go_in;go_wp2;go_end0;exact⟨rfl,by rw[RV.wrong,n_ (λx=>x.elim (λy=>M_) (λy=>M_))];exact h,A_ w _⟩
def iO(s:BA)(i:Nat):pk s i false=(bt s i:Int):=by
 unfold pk bt;simp;split<;>rfl
def plc(s:BA)(c:Nat):Int:=match s.data.toList.findIdx? (λb=>b.toNat==c) with|some k=>k|none=>-1
open Go.RowKit
def Jr{s:BA}{k:Nat}(hk:k<s.size)(hc:bt s k=c)(hn:∀j,j<k->bt s j≠c):plc s c=k:=by
 have:s.data.toList.findIdx? (λb=>b.toNat==c)=some k:=by
  rw[List.findIdx?_eq_some_iff_getElem];refine⟨by simpa using hk,?_,λj f=>?_⟩
  .have:=vS s k hk;simp only[beq_iff_eq];rw[<- hc,this];rfl
  .have d:j<s.size:=M_;have:=vS s j d;have d:=hn j f;simp only[Bool.not_eq_true,beq_eq_false_iff_ne];intro e;apply d;rw[this,<- e];rfl
 simp[plc,this]
def Jd{s:BA}(hn:∀j,j<s.size->bt s j≠c):plc s c = -1:=by
 have:s.data.toList.findIdx? (λb=>b.toNat==c)=none:=by
  rw[List.findIdx?_eq_none_iff];intro x hx;obtain⟨k,hk,rfl⟩:=List.getElem_of_mem hx;have d:k<s.size:=by simpa using hk
  have:=hn k d;rw[vS s k d]at this;simp only[beq_eq_false_iff_ne];intro e;apply this;rw[<- e];rfl
 simp[plc,this]
def Fd(s:BA)(c:Nat):-1<=plc s c:=by unfold plc;split<;>omega
def jm(s:BA)(c:Nat)(w:Aw)(hs:s.size<=100000):Calls prog 30 #[.string s,.int .u8 c] w λe w'=>e=.returned (Z_ (plc s c))/\w'=w:=by
 go_in;go_wp2;go_loop [5] (λi=>∃k:Nat,k<=s.size/\i=Z_ k/\H_ (∀j,j<k->bt s j≠c)) (λi=>s.size-(intOf i).toNat);case atStart=>exact⟨0,aj_ _,rfl,λj d=>absurd d (Nat.not_lt_zero _)⟩
 case round=>
  obtain⟨k,hk,rfl,hn⟩:=hrel;go_wp2
  .have f:k<s.size:=zv_
   have hc:(((s[k]'f).toNat:Int)==(c:Int))=true:=zv_
   go_ret;have g:bt s k=c:=by rw[vS s k M_];have:=eq_of_beq hc;omega
   have hp:=Jr M_ g hn;exact⟨by rw[hp];rfl,rfl⟩
  .have f:k<s.size:=zv_
   have hc:(((s[k]'f).toNat:Int)==(c:Int))=false:=zv_
   go_round;case rel=>
    refine⟨k+1,M_,by go_num,λj d=>?_⟩;by_cases e:j=k
    .subst e;rw[vS s j M_];intro x;rw[<- x]at hc;simp at hc
    .exact hn.o j M_
   case measure=>simp[intOf];omega
  .go_ret;have hp:=Jd (s:=s) (c:=c) (λj d=>hn.o j M_);exact⟨by rw[hp];rfl,rfl⟩
def fQ(s:BA)(c:Nat)(w:Aw)(hs:s.size<=100000):Calls prog 101 #[.string s,.int .u8 c] w λe w'=>e=.returned (.bool (decide (0<=plc s c)))/\w'=w:=by
 go_in;go_wp2_with (go_at_call 30;apply(jm s c _ hs).mono;rintro e w' ⟨rfl,rfl⟩);go_ret;exact⟨rfl,rfl⟩
def RV.small(s:BA)(σ:RV):RV:=if 97<=pk s σ.i σ.bad/\pk s σ.i σ.bad<=122 then { σ with i:=σ.i+1 } else { σ with bad:=true }
def RV.smallR(s:BA)(σ:RV):Int:=if 97<=pk s σ.i σ.bad/\pk s σ.i σ.bad<=122 then pk s σ.i σ.bad else 0
def YT{w:Aw}{br:Nat}{s:BA}{bz:Nat}{σ:RV}(h:RAt w br s bz σ)(hs:s.size<=300)(k:σ.i<=300):Calls prog 100 #[P_ br] w λe w'=>e=.returned (.int .u8 (σ.smallR s))/\RAt w' br s bz (σ.small s)/\Fr w w' (· = br):=by
 go_in;go_wp2_with (first
  |(go_at_call 40;apply(gn h hs k).mono;rintro e w' ⟨rfl,g⟩;have d:=h.si g;have c1:=d.c1;have c2:=d.c2;have p:=d.th 1;have r:=d.th 2)
  |(go_at_call 39;apply(ya _ _ _ _).mono;rintro e w' ⟨rfl,rfl⟩))
 .rename_i hc;have f:¬(97<=pk s σ.i σ.bad/\pk s σ.i σ.bad<=122):=zj_
  go_ret;exact⟨by rw[RV.smallR,n_ f];rfl,by rw[RV.small,n_ f];exact d.setBad true,((A_ w _).si g).setCell _ _ (λ_=>rfl)⟩
 .rename_i hc;have f:97<=pk s σ.i σ.bad/\pk s σ.i σ.bad<=122:=zj_
  go_ret;exact⟨by rw[RV.smallR,i_ f];rfl,by rw[RV.small,i_ f];exact d.setI (σ.i+1),((A_ w _).si g).setCell _ _ (λ_=>rfl)⟩
open Go.RowKit
def qU{P:Cc}{ops:Cp}{w:Aw}{Q:Ab}{E:Prop}(hg:o.guard=none)(s x:Operand)(t:As)(G:o.op=Op.call { callee:=Callee.builtin Builtin.append,args:=#[s,x],argTypes:=#[t,t] })(base:Nat)(e:As)(i:TypeInfo)(z:Ax)(size bytes:Nat)(h1:P.underlying t=some (.slice e))(k:P.info? e=some i)(p:i.zero=some z)(r:i.size=size)(y:i.bytes=bytes)(A:z.cells.size=size)(B:0<size)(v:Ax)(n:Nat)(xs:Az)(hs:a.eval s=v)(H:w.ownsRow base e size v n xs)(g:Addr)(m c:Nat)(f:Az)(hx:a.eval x=.slice (some g) m c)(hn:f.length=m*size)(hc:∀j u,f[j]?=some u->w.cell? (g.add j)=some u)(h:∀u∈f,u.oneCell'=true)(b1:n+m<=maxLen)(b2:(n+m)*bytes<=140737488355328)(F:base<=w.heap.size)(D:∀d w',w'.ownsRow base e size d (n+m) (xs++f)->w.grownBy w' v.ownBlock->(d.ownBlock=v.ownBlock\/d.ownBlock=some w.heap.size)->K (a.put o.dst d) w'):if Region.wanted o (yielded ops a.tmps)=true then Oper.wp P o a w K Q else E:=by
 have I:Region.wanted o (yielded ops a.tmps)=true:=by simp[Region.wanted,hg]
 rw[i_ I];obtain⟨d,w',I,r1,J,_,L⟩:=run_append_own_at (P:=P) w base t o.type e i z size bytes h1 k p r y A B v n xs H g m c f hn hc h b1 b2 F;unfold Oper.wp;simp[execOp,G,resolve,invoke,builtin,hs,hx,I,Result.andThen];exact D d w' r1 J L
def zk{w:Aw}(h:w.ownsRow base e size v n xs)(p:Fr w w' S)(k:∀g,v.ownBlock=some g->¬S g):w'.ownsRow base e size v n xs:=by
 refine⟨h.1,?_⟩;rcases h.2 with h0|⟨g,d,f,rfl,hb,hg,r⟩
 .exact .inl h0
 .refine .inr ⟨g,d,f,rfl,hb,?_,r⟩;rw[p.block g (by exact(Array.getElem?_eq_some_iff.1 hg).1) (k g rfl)];exact hg
def Fg:Tryz.prog.underlying 36=some (.slice 57):=K_
def FG:(Tryz.prog.info? 57).map (λi=>(i.zero,i.size,i.bytes))=some (some (.agg #[.int .u8 0,L_]),2,32):=K_
def zL(w:Aw)(cs:Ci)(t:As)(g:Nat)(hg:g=w.heap.size):∀j u,cs.toList[j]?=some u->(w.alloc (.cells cs t)).cell? ((⟨g,0,none⟩:Addr).add j)=some u:=by
 intro j u h;subst hg;have:=(B_ w cs t).cell j;unfold Addr.add;split
 .rename_i d;subst d;rw[this];exact h
 .simp only[bp_];rw[this];exact h
def zu{w:Aw}(h:w.ownsRow base e size v n xs)(hn:0<n):∃g d,v=.slice (some ⟨g,0,none⟩) n d:=by
 rcases h.2 with⟨_,h0⟩|⟨g,d,_,f,_⟩
 .omega
 .exact⟨g,d,f⟩
def ql{w:Aw}{k:Nat}(h:w.ownsRow base e size v n xs)(hk:k<base):v.ownBlock≠some k:=λe=>by
 have:=h.lt k e;omega
def Blk.ce{w:Aw}(h:Blk w b cs t)(o:Nat)(x:Cj):(w.alloc x).cell? ⟨b,o,none⟩=cs[o]?:=(h.alloc x).cell o
def Gk(w:Aw)(br:Nat)(s:BA)(bz:Nat)(σ:RV)(zs:Az)(tv k sv:Ax)(B n:Nat)(xs:Az)(w':Aw):Prop:=
 ∃tv',RAt w' br s bz σ/\Blk w' bz (tv'::zs) 42/\w'.ownsRow B 57 2 tv' (n+1) (xs++[k,sv])/\Fr w w' (λx=>x=bz\/tv.ownBlock=some x)/\(tv'.ownBlock=tv.ownBlock\/∃g,tv'.ownBlock=some g/\w.heap.size<=g)
def Wk{w:Aw}{br:Nat}{s:BA}{bz:Nat}{σ:RV}{zs:Az}{tv k sv:Ax}{B:Nat}(h:RAt w br s bz σ)(hz:Blk w bz (tv::zs) 42)(r:w.ownsRow B 57 2 tv n xs)(hk:k.oneCell'=true)(Z:sv.oneCell'=true)(hn:n<=1000)(hB:B<=w.heap.size)(u:br<B)(J:bz<B)(Y:br≠bz):Calls prog 68 #[P_ br,.agg #[k,sv]] w λe w'=>e=.returned (Z_ n)/\Gk w br s bz σ zs tv k sv B n xs w':=by
 obtain⟨ti,O,R,T,U⟩:=info_parts FG;have hX:∀W,Fr w W N_->W.ownsRow B 57 2 tv n xs:=λW p=>zk r p (λ_ _=>id);have V:=ql r u;have X:=ql r J;go_in;go_wp2;have h1:RAt (w.alloc (.cells #[k,sv] 57)) br s bz σ:=F_ h _;have L:=F_ hz (.cells #[k,sv] 57);have d:=B_ w #[k,sv] 57;have f:Fr w (w.alloc (.cells #[k,sv] 57)) N_:=(A_ w _).alloc _;generalize w.alloc (.cells #[k,sv] 57)=W1 at *;have c3:=h1.c3;have p:=λx=>Blk.ce h1 3 x;have z0:=L.cell 0;have u:=λx=>L.ce 0 x;have b0:=d.cell 0;have b1:=d.cell 1;simp only[aa_,ab_,RV.cells]at p z0 u b0 b1;refine tr_ 16 (λW=>z_ W br 3 (P_ bz)/\z_ W bz 0 tv/\z_ W w.heap.size 0 k/\z_ W w.heap.size 1 sv) ?_;refine tb_ 0 rfl K_ (λ_ _ _ h=>h) xq_ x9_ ?_;refine tb_ 1 rfl K_ (λ_ _ _ h=>h) xq_ x9_ ?_;refine tb_ 2 rfl K_ (λ_ _ _ h=>h) xq_ x9_ ?_;refine tb_ 3 rfl K_ (λ_ _ _ h=>h) xq_ x9_ ?_;refine tb_ 4 rfl K_ (λ_ _ _ h=>h) xq_ x9_ ?_;refine tb_ 5 rfl K_ (λ_ _ _ h=>h) xq_ x9_ ?_;refine tb_ 6 rfl K_ (λ_ _ _ h=>h) xq_ x9_ ?_;refine tb_ 7 rfl K_ (λ_ _ _ h=>h) xq_ x9_ ?_;refine tb_ 8 rfl K_ (λ_ _ _ h=>h) xq_ x9_ ?_;refine tb_ 9 rfl K_ (λ_ _ _ h=>h) xq_ x9_ ?_;refine tb_ 10 rfl K_ (λ_ _ _ h=>h) xq_ x9_ ?_;refine tb_ 11 rfl K_ (λ_ _ _ h=>h) xq_ x9_ ?_;refine t1_ 12 ⟨c3,z0,b0,b1⟩ ?_;have p:=p (.cells #[k,sv] 57);have u:=u (.cells #[k,sv] 57);have L:=(d.alloc (.cells #[k,sv] 57)).cell 0;have M:=(d.alloc (.cells #[k,sv] 57)).cell 1;refine yz 13 rfl K_ (λ_=>⟨p,u,L,M⟩) (λK p=>?_);refine qU rfl (.tmp 15) (.tmp 17) 36 rfl B 57 ti _ 2 32 Fg O R T U rfl D_ tv n xs (by simp[Act.eval]) (hX _ ((f.alloc _).drew)) _ 1 1 [k,sv] (by simp[Act.eval];rfl) x8_ (zL _ _ _ _ x8_) (by simp[hk,Z]) (by simp[maxLen];omega) M_ (by have:=f.size;simp;omega) ?_;intro u w' ho E I;refine p _ _ ?_;have D:Fr w w' (λx=>tv.ownBlock=some x):=T_ (((f.mono v_).alloc _).drew) E (λk e _=>e);have H:RAt w' br s bz σ:=D.bl h V;have G:=D.bl hz X;have A:=H.c3;have F:=G.c0;have p:=G.th 0;have p:=Fr.bl (T_ (((A_ W1 (λx=>tv.ownBlock=some x)).alloc _).drew) E (λk e _=>e)) d (λe=>by have:=r.lt _ e;omega);have N:u.ownBlock=tv.ownBlock\/∃g,u.ownBlock=some g/\w.heap.size<=g:=I.imp id (λe=>⟨_,e,by have:=f.size;simp;omega⟩);have y:=p.cell 0;have z:=p.cell 1;obtain⟨g,d,rfl⟩:=zu ho M_;refine t1_ 14 ⟨A,F,y,z⟩ ?_;refine t1_ 15 ⟨A,F,y,z⟩ ?_;refine t1_ 16 ⟨A,F,y,z⟩ ?_;refine td_ ?_ _;go_wp2;go_ret;refine⟨rfl,?_⟩;exact⟨_,E_ H _ Y,C_ G 0 _,zk ho (V_ _ _ _) (λg hg e=>ql ho J (by rw[hg];exact congrArg some e)),Fr.setCell (D.mono (λ_ _ e=>.inr e)) _ _ (λ_=>.inl rfl),N⟩
end Go.Proofs.YtahhhgbojlkjnaaGreatDoor
