import Derived.Maps.AppendAt
import Derived.WalkSpells
import Derived.WalkLawsBesides
import Derived.Deep.QuietTactic
import Derived.BigQuiet
import Derived.Test.YtokgeopihcopeaaGreatDoorA00
set_option linter.unusedVariables false
set_option maxHeartbeats 16000000
set_option maxRecDepth 100000
set_option linter.defProp false
set_option linter.unusedSimpArgs false
open Go.Proofs.Tryz
namespace Go.Proofs.YtokgeopihcopeaaGreatDoor
variable {b t i fuel c j:Nat}{oi oj:Db}{a:Act}{listed:Da}{l cs:Ay}{v0 v v1 v2 v3 v4 v5 v6 v7:Ax}{S:Az}{q:Prop}{w':Aw}
def bt(s:BA)(i:Nat):Nat:=if h:i<s.size then (s[i]'h).toNat else 0
def rG(s:BA)(i:Nat):bt s i<256:=by
 unfold bt;split
 .exact UInt8.toNat_lt _
 .omega
def zp{s:BA}(h:0<bt s i):i<s.size:=by
 unfold bt at h;split at h
 .assumption
 .omega
def xO(s:BA)(i:Nat)(h:i<s.size):bt s i=(s[i]'h).toNat:=by unfold bt;rw[dif_pos h]
def wh{s:BA}(h:s.size<=i):bt s i=0:=by unfold bt;rw[dif_neg zt_]
inductive PT where
 |leaf (c:Nat) (p:Nat)
 |wrap (c:Nat) (p:Nat) (t:PT)
 |alts (p:Nat) (ts:List PT)
 deriving Inhabited
abbrev Af:=List PT
abbrev Ev:=PT->Prop
abbrev Es:=PT×PT
def zi(c:Nat):Bool:=c==110||c==116||c==105||c==108||c==115
def zY(c:Nat):Bool:=decide (65<=c)&&decide (c<=70)
def zl(c:Nat):Bool:=decide (97<=c)&&decide (c<=122)
def xw(c:Nat):Nat:=if c==123 then 125 else 93
mutual
def vY(s:BA):Nat->Nat->Except Nat (PT×Nat)
 | 0,i=>.error i
 |f+1,i=>
  if zi (bt s i) then .ok (.leaf (bt s i) i,i+1)
  else if bt s i=91\/bt s i=123 then
   match vY s f (i+1) with
   | .error k=>.error k
   | .ok (t,j)=>if bt s j=xw (bt s i) then .ok (.wrap (bt s i) i t,j+1) else .error j
  else if bt s i=40 then
   match xy s f (i+1) with
   | .error k=>.error k
   | .ok (ts,j)=>if bt s j=41 then .ok (.alts i ts,j+1) else .error j
  else if zY (bt s i) then .ok (.leaf (bt s i) i,i+1)
  else .error i
def xy(s:BA):Nat->Nat->Except Nat (List PT×Nat)
 | 0,i=>.error i
 |f+1,i=>
  match vY s f i with
  | .error k=>.error k
  | .ok (t,j)=>
   if bt s j=44 then
    match xy s f (j+1) with
    | .error k=>.error k
    | .ok (ts,k)=>.ok (t::ts,k)
   else .ok ([t],j)
end
def vR(s:BA)(T:Nat->Except Nat (PT×Nat))(A:Nat->Except Nat (List PT×Nat))(i:Nat):Except Nat (PT×Nat):=
 if zi (bt s i) then .ok (.leaf (bt s i) i,i+1)
 else if bt s i=91\/bt s i=123 then
  match T (i+1) with
  | .error k=>.error k
  | .ok (t,j)=>if bt s j=xw (bt s i) then .ok (.wrap (bt s i) i t,j+1) else .error j
 else if bt s i=40 then
  match A (i+1) with
  | .error k=>.error k
  | .ok (ts,j)=>if bt s j=41 then .ok (.alts i ts,j+1) else .error j
 else if zY (bt s i) then .ok (.leaf (bt s i) i,i+1)
 else .error i
def wC(s:BA)(T:Nat->Except Nat (PT×Nat))(A:Nat->Except Nat (List PT×Nat))(i:Nat):Except Nat (List PT×Nat):=
 match T i with
 | .error k=>.error k
 | .ok (t,j)=>
  if bt s j=44 then
   match A (j+1) with
   | .error k=>.error k
   | .ok (ts,k)=>.ok (t::ts,k)
  else .ok ([t],j)
def jG(s:BA)(f i:Nat):vY s (f+1) i=vR s (vY s f) (xy s f) i:=by rw[vY];rfl
def jz(s:BA)(f i:Nat):xy s (f+1) i=wC s (vY s f) (xy s f) i:=by rw[xy];rfl
def rk(h:zi c=true):0<c:=by
 simp only[zi,ay_,beq_iff_eq]at h;omega
def YG(h:zY c=true):0<c:=by
 simp only[zY,a3_,decide_eq_true_eq]at h;omega
def pO(s:BA)(f:Nat):(∀i,i<=s.size->(∀t j,vY s f i=.ok (t,j)->i<j/\j<=s.size)/\(∀k,vY s f i=.error k->i<=k/\k<=s.size))/\
 (∀i,i<=s.size->(∀t j,xy s f i=.ok (t,j)->i<j/\j<=s.size)/\(∀k,xy s f i=.error k->i<=k/\k<=s.size)):=by
 induction f with
 |zero=>exact⟨λi hi=>⟨λt j h=>by simp[vY]at h,λk h=>by simp[vY]at h;omega⟩,λi hi=>⟨λt j h=>by simp[xy]at h,λk h=>by simp[xy]at h;omega⟩⟩
 |succ f ih=>
  obtain⟨u,p⟩:=ih;refine⟨λi hi=>?_,λi hi=>?_⟩
  .rw[vY];split
   .rename_i hb;have:=zp (rk hb);exact⟨λt j h=>by simp only[ae_,ad_]at h;omega,λk h=>by cases h⟩
   .split
    .rename_i hb;have hl:=zp (s:=s) (i:=i) M_;have:=u (i+1) M_;cases hp:vY s f (i+1) with
     |error k=>exact⟨λt j h=>by simp at h,λd h=>by simp at h;have:=this.2 k hp;omega⟩
     |ok r=>
      obtain⟨t,j⟩:=r;have:=this.1 t j hp;simp only;split
      .rename_i hc;have n:=zp (s:=s) (i:=j) (by rw[hc];unfold xw;split<;>omega);exact⟨λt j h=>by simp only[ae_,ad_]at h;omega,λk h=>by cases h⟩
      .exact⟨λt j h=>(nomatch h),λk h=>by simp only[ca_]at h;omega⟩
    .split
     .rename_i hb;have hl:=zp (s:=s) (i:=i) M_;have:=p (i+1) M_;cases hp:xy s f (i+1) with
      |error k=>exact⟨λt j h=>by simp at h,λd h=>by simp at h;have:=this.2 k hp;omega⟩
      |ok r=>
       obtain⟨t,j⟩:=r;have:=this.1 t j hp;simp only;split
       .rename_i hc;have n:=zp (s:=s) (i:=j) M_;exact⟨λt j h=>by simp only[ae_,ad_]at h;omega,λk h=>by cases h⟩
       .exact⟨λt j h=>(nomatch h),λk h=>by simp only[ca_]at h;omega⟩
     .split
      .rename_i hb;have:=zp (YG hb);exact⟨λt j h=>by simp only[ae_,ad_]at h;omega,λk h=>by cases h⟩
      .exact⟨λt j h=>(nomatch h),λk h=>by simp only[ca_]at h;omega⟩
  .rw[xy];have g:=u i hi;cases hp:vY s f i with
   |error k=>exact⟨λt j h=>by simp at h,λd h=>by simp at h;have:=g.2 k hp;omega⟩
   |ok r=>
    obtain⟨t,j⟩:=r;have h1:=g.1 t j hp;simp only;split
    .rename_i hc;have n:=zp (s:=s) (i:=j) M_;have e:=p (j+1) M_;cases o:xy s f (j+1) with
     |error k=>exact⟨λt j h=>by simp at h,λd h=>by simp at h;have:=e.2 k o;omega⟩
     |ok r=>
      obtain⟨ts,k⟩:=r;have:=e.1 ts k o;exact⟨λt j h=>by simp only[ae_,ad_]at h;omega,λk h=>by cases h⟩
    .exact⟨λt j h=>by simp only[ae_,ad_]at h;omega,λk h=>by cases h⟩
def mn{s:BA}{T T':Nat->Except Nat (PT×Nat)}{A d:Nat->Except Nat (List PT×Nat)}(f:i<s.size->T (i+1)=T' (i+1))(e:i<s.size->A (i+1)=d (i+1)):vR s T A i=vR s T' d i:=by
 unfold vR;split
 .rfl
 .split
  .rename_i hb;rw[f (zp M_)]
  .split
   .rename_i hb;rw[e (zp M_)]
   .rfl
def mi{s:BA}{T T':Nat->Except Nat (PT×Nat)}{A d:Nat->Except Nat (List PT×Nat)}(f:T i=T' i)(e:∀t j,T' i=.ok (t,j)->j<s.size->A (j+1)=d (j+1)):wC s T A i=wC s T' d i:=by
 unfold wC;rw[f];cases hp:T' i with
 |error k=>rfl
 |ok r=>
  obtain⟨t,j⟩:=r;simp only;split
  .rename_i hc;rw[e t j hp (zp M_)]
  .rfl
def KQ(s:BA)(f:Nat):(∀i,i<=s.size->2*(s.size-i)<f->vY s (f+1) i=vY s f i)/\
 (∀i,i<=s.size->2*(s.size-i)+1<f->xy s (f+1) i=xy s f i):=by
 induction f with
 |zero=>exact⟨λi _ h=>M_,λi _ h=>M_⟩
 |succ f ih=>
  obtain⟨e,d⟩:=ih;refine⟨λi hi h=>?_,λi hi h=>?_⟩
  .rw[jG s (f+1),jG s f];exact mn (λhl=>e (i+1) M_ M_) (λhl=>d (i+1) M_ M_)
  .rw[jz s (f+1),jz s f];refine mi (e i hi M_) (λt j hp hl=>?_);have h1:=((pO s f).1 i hi).1 t j hp;exact d (j+1) M_ M_
def wS(s:BA)(i:Nat)(hi:i<=s.size)(f:Nat)(d:Nat):(2*(s.size-i)<f->vY s (f+d) i=vY s f i)/\(2*(s.size-i)+1<f->xy s (f+d) i=xy s f i):=by
 induction d with
 |zero=>exact⟨λ_=>rfl,λ_=>rfl⟩
 |succ d ih=>
  refine⟨λh=>?_,λh=>?_⟩
  .rw[<- bd_,(KQ s (f+d)).1 i hi M_,ih.1 h]
  .rw[<- bd_,(KQ s (f+d)).2 i hi M_,ih.2 h]
def pT(s:BA)(i:Nat):Except Nat (PT×Nat):=vY s (2*s.size+2) i
def pA(s:BA)(i:Nat):Except Nat (List PT×Nat):=xy s (2*s.size+3) i
def xV{s:BA}(hi:i<=s.size):(∀t j,pT s i=.ok (t,j)->i<j/\j<=s.size)/\(∀k,pT s i=.error k->i<=k/\k<=s.size):=(pO s _).1 i hi
def wY(s:BA)(i:Nat):pT s i=vR s (pT s) (pA s) i:=by
 show vY s (2*s.size+1+1) i=_;rw[jG];refine mn (λhl=>?_) (λhl=>?_)
 .exact((wS s (i+1) M_ (2*s.size+1) 1).1 M_).symm
 .exact((wS s (i+1) M_ (2*s.size+1) 2).2 M_).symm
def PN(s:BA)(i:Nat)(hi:i<=s.size):pA s i=wC s (pT s) (pA s) i:=by
 show xy s (2*s.size+2+1) i=_;rw[jz];refine mi rfl (λt j hp hl=>?_);have h1:=(xV hi).1 t j hp;exact((wS s (j+1) M_ (2*s.size+2) 1).2 M_).symm
structure TR where
 kind:Nat
 subs:List Nat
 deriving Inhabited
abbrev Ap:=List TR
abbrev Di:=Nat->Bool->Int->List TR->List (Nat×Nat)->List Nat->Prop
def PT.kind:PT->Nat
 | .leaf c _=>c
 | .wrap c _ _=>c
 | .alts _ _=>40
def PT.place:PT->Nat
 | .leaf _ p=>p
 | .wrap _ p _=>p
 | .alts p _=>p
mutual
def flat(b:Nat):PT->List TR
 | .leaf c _=>[⟨c,[]⟩]
 | .wrap c _ t=>flat b t++[⟨c,[b+(flat b t).length-1]⟩]
 | .alts _ ts=>zN b ts++[⟨40,jN b ts⟩]
def zN(b:Nat):List PT->List TR
 | []=>[]
 |t::r=>flat b t++zN (b+(flat b t).length) r
def jN(b:Nat):List PT->List Nat
 | []=>[]
 |t::r=>(b+(flat b t).length-1)::jN (b+(flat b t).length) r
end
mutual
def zZ:PT->List (Nat×Nat)
 | .leaf c p=>if zi c then [] else [(c,p)]
 | .wrap _ _ t=>zZ t
 | .alts _ ts=>zX ts
def zX:List PT->List (Nat×Nat)
 | []=>[]
 |t::r=>zZ t++zX r
end
def qG(seen:Ao)(t:PT)(m:Int):Int:=if (t.kind=40\/t.kind∈seen)/\(m<0\/(t.place:Int)<m) then (t.place:Int) else m
mutual
def mix:PT->Int->Int
 | .leaf _ _,m=>m
 | .wrap _ _ t,m=>mix t m
 | .alts _ ts,m=>qr [] ts m
def qr(seen:Ao):List PT->Int->Int
 | [],m=>m
 |t::r,m=>qr (seen++[t.kind]) r (qG seen t (mix t m))
end
def oP(b:Nat)(t:PT):0<(flat b t).length:=by
 cases t<;>simp[flat]
def JP(b:Nat)(t:PT):((flat b t)[(flat b t).length-1]?).map TR.kind=some t.kind:=by
 cases t<;>simp[flat,PT.kind]
def rf(b:Nat)(ds:Af)(t:PT):zN b (ds++[t])=zN b ds++flat (b+(zN b ds).length) t:=by
 induction ds generalizing b with
 |nil=>simp[zN]
 |cons d r ih=>simp only[bk_,zN,ih,bx_,ag_,bd_]
def tC(b:Nat)(ds:Af)(t:PT):jN b (ds++[t])=jN b ds++[b+(zN b ds).length+(flat (b+(zN b ds).length) t).length-1]:=by
 induction ds generalizing b with
 |nil=>simp[zN,jN]
 |cons d r ih=>simp only[bk_,zN,jN,ih,ag_,bd_]
def mJ(b:Nat)(ds:Af):(jN b ds).length=ds.length:=by
 induction ds generalizing b with
 |nil=>rfl
 |cons d r ih=>simp[jN,ih]
def pM(ds:Af)(t:PT):zX (ds++[t])=zX ds++zZ t:=by
 induction ds with
 |nil=>simp[zX]
 |cons d r ih=>simp[zX,ih]
def Jg(e:Ao)(ds:Af)(t:PT)(m:Int):qr e (ds++[t]) m=qG (e++ds.map PT.kind) t (mix t (qr e ds m)):=by
 induction ds generalizing e m with
 |nil=>simp[qr]
 |cons d r ih=>simp[qr,ih]
def uj(ds:Af):Except Nat (List PT×Nat)->Except Nat (List PT×Nat)
 | .error k=>.error k
 | .ok (r,j)=>.ok (ds++r,j)
def nD(x:Except Nat (List PT×Nat)):uj [] x=x:=by
 match x with
 | .error k=>rfl
 | .ok (r,j)=>rfl
def cz(ds es:Af)(x:Except Nat (List PT×Nat)):uj ds (uj es x)=uj (ds++es) x:=by
 match x with
 | .error k=>rfl
 | .ok (r,j)=>simp[uj]
def ip(s:BA)(i:Nat)(hi:i<=s.size):pA s i =
 match pT s i with
 | .error k=>.error k
 | .ok (t,j)=>if bt s j=44 then uj [t] (pA s (j+1)) else .ok ([t],j):=by
 rw[PN s i hi];unfold wC;cases pT s i with
 |error k=>rfl
 |ok r=>
  obtain⟨t,j⟩:=r;simp only;split
  .cases pA s (j+1) with
   |error k=>rfl
   |ok r=>rfl
  .rfl
def cq11_{p:Prop}(h:p:=by
 induction f with
 |zero=>exact⟨λi t j h=>by simp[vY]at h,λi t j h=>by simp[xy]at h⟩
 |succ f ih=>
  obtain⟨g,e⟩:=ih;(first|(have:=cc1;refine⟨λi t j h=>?_,λi t j h=>?_⟩)|(refine⟨λi t j h b=>?_,λi t j h b=>?_⟩))
  .rw[jG]at h;unfold vR at h;split at h
   .cases h;rename_i hb;(first|(have:=cc1;exact .inl hb)|(simp[flat,zZ,hb]))
   .split at h
    ·(try have:=cc1;rename_i hc);cases hp:vY s f (i+1) with
     |error k=>rw[hp]at h;simp at h
     |ok r=>
      obtain⟨t',j'⟩:=r;rw[hp]at h;simp only at h;split at h
      .cases h;(first|(have:=cc1;exact⟨hc,g _ _ _ hp⟩)|(have:=g _ _ _ hp b;simp only[flat,zZ,ag_,au_,av_];omega))
      .simp at h
    .split at h
     .cases hp:xy s f (i+1) with
      |error k=>rw[hp]at h;simp at h
      |ok r=>
       obtain⟨t',j'⟩:=r;rw[hp]at h;simp only at h;split at h
       .cases h;(first|(have:=cc1;exact e _ _ _ hp)|(have:=e _ _ _ hp b;simp only[flat,zZ,ag_,au_,av_];omega))
       .simp at h
     .split at h
      .cases h;(first|(have:=cc1;rename_i hb)|(rename_i hb _ _ _));(first|(have:=cc1;exact .inr hb)|(simp[flat,zZ,hb]))
      .simp at h
  .rw[jz]at h;unfold wC at h;cases hp:vY s f i with
   |error k=>rw[hp]at h;simp at h
   |ok r=>
    obtain⟨t',j'⟩:=r;rw[hp]at h;(first|(have:=cc1;have h1:=g _ _ _ hp)|(have h1:=g _ _ _ hp b));simp only at h;split at h
    .cases d:xy s f (j'+1) with
     |error k=>rw[d]at h;simp at h
     |ok r=>
      obtain⟨ts,k⟩:=r;rw[d]at h;cases h;(first|(have:=cc1;exact⟨by simp,h1,(e _ _ _ d).2⟩)|(have n:=e _ _ _ d (b+(flat b t').length);simp only[zN,zX,ag_];omega))
    .cases h;(first|(have:=cc1;exact⟨by simp,h1,trivial⟩)|(simp only[zN,zX,ag_,av_];omega))):p:=h
def XK(s:BA)(f:Nat):(∀i t j,vY s f i=.ok (t,j)->∀b,i+(flat b t).length<=j/\i+(zZ t).length<=j)/\
 (∀i ts j,xy s f i=.ok (ts,j)->∀b,i+(zN b ts).length<=j/\i+(zX ts).length<=j):=by
 exact cq11_
def lK{s:BA}{t:PT}(h:pT s i=.ok (t,j))(b:Nat):i+(flat b t).length<=j/\i+(zZ t).length<=j:=(XK s _).1 i t j h b
def aU{s:BA}{ts:Af}(h:pA s i=.ok (ts,j))(b:Nat):i+(zN b ts).length<=j/\i+(zX ts).length<=j:=(XK s _).2 i ts j h b
def cq13_{p:Prop}(h:p:=by
 rw[wY]at h;unfold vR at h;split at h
 .simp only[ae_,ad_]at h;obtain⟨rfl,rfl⟩:=h;rfl
 .split at h
  .split at h
   .simp at h
   .split at h
    .simp only[ae_,ad_]at h;obtain⟨rfl,rfl⟩:=h;rfl
    .simp at h
  .split at h
   ·(try have:=cc1;rename_i d);split at h
    .simp at h
    .split at h
     .simp only[ae_,ad_]at h;obtain⟨rfl,rfl⟩:=h;(first|(have:=cc1;exact d.symm)|(rfl))
     .simp at h
   .split at h
    .simp only[ae_,ad_]at h;obtain⟨rfl,rfl⟩:=h;rfl
    .simp at h):p:=h
def ao{s:BA}{t:PT}(h:pT s i=.ok (t,j)):t.place=i:=by
 exact cq13_
def qS(c:Nat):Bool:=c==40||c==91||c==123||c==60
def jB(c:Nat):Bool:=c==41||c==93||c==125||c==62
def qu(c o:Nat):Nat:=if qS c then o+1 else if jB c then o-1 else o
def KF(s:BA):Nat->Nat->Nat->Option Nat
 | 0,_,_=>none
 |n+1,i,o=>if o=0/\(bt s i=44\/bt s i=41) then some i else KF s n (i+1) (qu (bt s i) o)
def pD(s:BA)(i o:Nat):Option Nat:=KF s (s.size-i) i o
def KP{s:BA}{o:Nat}(h:s.size<=i):pD s i o=none:=by
 unfold pD;rw[show s.size-i=0 by omega];rfl
def XF{s:BA}(o:Nat)(h:i<s.size):pD s i o=if o=0/\(bt s i=44\/bt s i=41) then some i else pD s (i+1) (qu (bt s i) o):=by
 unfold pD;rw[show s.size-i=(s.size-(i+1))+1 by omega];rfl
def aP(s:BA)(n:Nat):∀i o e,KF s n i o=some e->i<=e/\e<i+n:=by
 induction n with
 |zero=>intro i o e h;simp[KF]at h
 |succ n ih=>
  intro i o e h;unfold KF at h;split at h
  .simp only[af_]at h;omega
  .have:=ih _ _ _ h;omega
def gN{s:BA}{o e:Nat}(h:pD s i o=some e):i<=e/\e<s.size:=by
 have:=aP s _ i o e h;omega
structure PF where
 letter:Nat
 place:Nat
 ty:PT
 dflt:Option (Nat×Nat)
 deriving Inhabited
abbrev An:=List PF
abbrev Dn:=PF->Value->Prop
def zR(s:BA)(i:Nat):Except Nat (PF×Nat):=
 if zl (bt s i) then
  if bt s (i+1)=58 then
   match pT s (i+2) with
   | .error k=>.error k
   | .ok (t,j)=>
    if bt s j=61 then
     match pD s (j+1) 0 with
     |none=>.error s.size
     |some e=>.ok (⟨bt s i,i,t,some (j+1,e)⟩,e)
    else .ok (⟨bt s i,i,t,none⟩,j)
  else .error (i+1)
 else .error i
def xX(h:zl c=true):0<c:=by
 simp only[zl,a3_,decide_eq_true_eq]at h;omega
def vu{s:BA}(hi:i<=s.size):(∀f j,zR s i=.ok (f,j)->i+2<j/\j<=s.size)/\(∀k,zR s i=.error k->i<=k/\k<=s.size):=by
 unfold zR;split
 .rename_i h1;have l1:=zp (xX h1);split
  .rename_i g;have l2:=zp (s:=s) (i:=i+1) M_;have hb:=xV (s:=s) (i:=i+2) M_;cases hp:pT s (i+2) with
   |error k=>exact⟨λf j h=>(nomatch h),λd h=>by simp only[ca_]at h;have:=hb.2 k hp;omega⟩
   |ok r=>
    obtain⟨t,j⟩:=r;have:=hb.1 t j hp;simp only;split
    .cases hd:pD s (j+1) 0 with
     |none=>exact⟨λf j h=>(nomatch h),λd h=>by simp only[ca_]at h;omega⟩
     |some e=>
      have:=gN hd;exact⟨λf j h=>by simp only[ae_,ad_]at h;omega,λd h=>(nomatch h)⟩
    .exact⟨λf j h=>by simp only[ae_,ad_]at h;omega,λd h=>(nomatch h)⟩
  .exact⟨λf j h=>(nomatch h),λd h=>by simp only[ca_]at h;omega⟩
 .exact⟨λf j h=>(nomatch h),λd h=>by simp only[ca_]at h;omega⟩
def yW(s:BA):Nat->Nat->Except Nat (List PF×Nat)
 | 0,i=>.error i
 |n+1,i=>
  match zR s i with
  | .error k=>.error k
  | .ok (f,j)=>
   if bt s j=41 then .ok ([f],j+1)
   else if bt s j=44 then
    match yW s n (j+1) with
    | .error k=>.error k
    | .ok (fs,k)=>.ok (f::fs,k)
   else .error j
def xr(s:BA)(i:Nat):Except Nat (List PF×Nat):=yW s (s.size+1-i) i
def vK(ds:An):Except Nat (List PF×Nat)->Except Nat (List PF×Nat)
 | .error k=>.error k
 | .ok (r,j)=>.ok (ds++r,j)
def rR(x:Except Nat (List PF×Nat)):vK [] x=x:=by
 match x with
 | .error k=>rfl
 | .ok (r,j)=>rfl
def fP(ds es:An)(x:Except Nat (List PF×Nat)):vK ds (vK es x)=vK (ds++es) x:=by
 match x with
 | .error k=>rfl
 | .ok (r,j)=>simp[vK]
def dB(s:BA)(n:Nat):∀i d,i<=s.size->s.size-i<n->yW s (n+d) i=yW s n i:=by
 induction n with
 |zero=>intro i d hi h;omega
 |succ n ih=>
  intro i d hi h;rw[show n+1+d=(n+d)+1 by omega];unfold yW;cases hp:zR s i with
  |error k=>rfl
  |ok r=>
   obtain⟨f,j⟩:=r;have hb:=(vu hi).1 f j hp;simp only;split
   .rfl
   .split
    .rename_i e;have:=zp (s:=s) (i:=j) M_;rw[ih (j+1) d M_ M_]
    .rfl
def bj(s:BA)(i:Nat)(hi:i<=s.size):xr s i =
 match zR s i with
 | .error k=>.error k
 | .ok (f,j)=>if bt s j=41 then .ok ([f],j+1) else if bt s j=44 then vK [f] (xr s (j+1)) else .error j:=by
 unfold xr;rw[show s.size+1-i=(s.size-i)+1 by omega];conv=>lhs;unfold yW
 cases hp:zR s i with
 |error k=>rfl
 |ok r=>
  obtain⟨f,j⟩:=r;have hb:=(vu hi).1 f j hp;simp only;split
  .rfl
  .split
   .rename_i d;have:=zp (s:=s) (i:=j) M_;have hf:=dB s (s.size+1-(j+1)) (j+1) (s.size-i-(s.size+1-(j+1))) M_ M_;rw[show s.size+1-(j+1)+(s.size-i-(s.size+1-(j+1)))=s.size-i by omega]at hf;rw[hf];cases yW s (s.size+1-(j+1)) (j+1) with
    |error k=>rfl
    |ok r=>rfl
   .rfl
def yf(s:BA)(i:Nat):Except Nat (List PF×Nat):=
 if bt s i=40 then
  if bt s (i+1)=41 then .ok ([],i+2) else xr s (i+1)
 else .error i
def jr(s:BA):Nat->Nat->Except Nat (List (Nat×Nat)×Nat)
 | 0,i=>.error i
 |n+1,i=>
  if zl (bt s i) then
   if bt s (i+1)=44 then
    match jr s n (i+2) with
    | .error k=>.error k
    | .ok (l,k)=>.ok ((bt s i,i)::l,k)
   else .ok ([(bt s i,i)],i+1)
  else .error i
def qN(s:BA)(i:Nat):Except Nat (List (Nat×Nat)×Nat):=jr s (s.size+1-i) i
def xY(s:BA)(i:Nat):Except Nat ((List (Nat×Nat)×Option (Nat×Nat))×Nat):=
 if bt s i=40 then
  match qN s (i+1) with
  | .error k=>.error k
  | .ok (l,j)=>
   if bt s j=33 then
    if zl (bt s (j+1)) then
     if bt s (j+2)=41 then .ok ((l,some (bt s (j+1),j+1)),j+3) else .error (j+2)
    else .error (j+1)
   else if bt s j=41 then .ok ((l,none),j+1) else .error j
 else .error i
def oU(s:BA)(l:As)(j:Nat):Except Nat ((List (Nat×Nat)×Option (Nat×Nat))×Nat):=
 if bt s j=33 then
  if zl (bt s (j+1)) then
   if bt s (j+2)=41 then .ok ((l,some (bt s (j+1),j+1)),j+3) else .error (j+2)
  else .error (j+1)
 else if bt s j=41 then .ok ((l,none),j+1) else .error j
def gP(s:BA)(ds:As):Except Nat (List (Nat×Nat)×Nat)->Except Nat ((List (Nat×Nat)×Option (Nat×Nat))×Nat)
 | .error k=>.error k
 | .ok (l,j)=>oU s (ds++l) j
def aG(s:BA)(i:Nat):xY s i=if bt s i=40 then gP s [] (qN s (i+1)) else .error i:=by
 unfold xY;split
 .cases qN s (i+1) with
  |error k=>rfl
  |ok q=>rfl
 .rfl
def aZ(s:BA)(n:Nat):∀i d,s.size-i<n->jr s (n+d) i=jr s n i:=by
 induction n with
 |zero=>intro i d h;omega
 |succ n ih=>
  intro i d h;rw[show n+1+d=(n+d)+1 by omega];unfold jr;split
  .rename_i hs;have:=zp (xX hs);split
   .rw[ih (i+2) d M_]
   .rfl
  .rfl
def ZU(s:BA)(i:Nat):qN s i =
 if zl (bt s i) then
  if bt s (i+1)=44 then
   match qN s (i+2) with
   | .error k=>.error k
   | .ok (l,k)=>.ok ((bt s i,i)::l,k)
  else .ok ([(bt s i,i)],i+1)
 else .error i:=by
 by_cases hs:zl (bt s i)=true
 .have hl:=zp (xX hs);unfold qN;rw[show s.size+1-i=(s.size-i)+1 by omega];conv=>lhs;unfold jr
  rw[i_ hs,i_ hs];split
  .rename_i d;have:=zp (s:=s) (i:=i+1) M_;have hf:=aZ s (s.size+1-(i+2)) (i+2) (s.size-i-(s.size+1-(i+2))) M_;rw[show s.size+1-(i+2)+(s.size-i-(s.size+1-(i+2)))=s.size-i by omega]at hf;rw[hf];try rfl
  .rfl
 .rw[n_ hs];unfold qN;cases s.size+1-i with
  |zero=>rfl
  |succ n=>unfold jr;rw[n_ hs]
def gF(s:BA)(ds:As)(i:Nat):gP s ds (qN s i) =
 if zl (bt s i) then
  if bt s (i+1)=44 then gP s (ds++[(bt s i,i)]) (qN s (i+2)) else oU s (ds++[(bt s i,i)]) (i+1)
 else .error i:=by
 rw[ZU];split
 .split
  .cases qN s (i+2) with
   |error k=>rfl
   |ok q=>simp[gP]
  .rfl
 .rfl
inductive PB where
 |recd (fs:List PF)
 |enum (l:List (Nat×Nat)) (o:Option (Nat×Nat))
 |bytes (n:Nat)
 deriving Inhabited
abbrev Au:=Nat->Option PB
abbrev Ds:=PB->Value->Prop
def yG(s:BA)(i:Nat):Except Nat (PB×Nat):=
 if bt s i=114 then
  match yf s (i+1) with
  | .error k=>.error k
  | .ok (ds,j)=>.ok (.recd ds,j)
 else if bt s i=101 then
  match xY s (i+1) with
  | .error k=>.error k
  | .ok ((l,o),j)=>.ok (.enum l o,j)
 else if bt s i=102 then
  if 48<=bt s (i+1)/\bt s (i+1)<=57 then .ok (.bytes (bt s (i+1)-48),i+2) else .error (i+1)
 else .error i
structure PD where
 letter:Nat
 place:Nat
 body:PB
 deriving Inhabited
abbrev Ar:=List PD
def yi(s:BA):Nat->Nat->Except Nat (List PD×Nat)
 | 0,i=>.ok ([],i)
 |n+1,i=>
  if zY (bt s i)=true/\i+1<s.size then
   if bt s (i+1)=61 then
    match yG s (i+2) with
    | .error k=>.error k
    | .ok (pb,j)=>
     if bt s j=59 then
      match yi s n (j+1) with
      | .error k=>.error k
      | .ok (ds,e)=>.ok (⟨bt s i,i,pb⟩::ds,e)
     else .error j
   else .error (i+1)
  else .ok ([],i)
def ze(s:BA):Except Nat (List PD×PT):=
 match yi s 6 0 with
 | .error k=>.error k
 | .ok (ds,i)=>
  match pT s i with
  | .error k=>.error k
  | .ok (t,j)=>if j<s.size then .error j else .ok (ds,t)
def jM(ds:Ar):Except Nat (List PD×Nat)->Except Nat (List PD×Nat)
 | .error k=>.error k
 | .ok (r,j)=>.ok (ds++r,j)
def rD(x:Except Nat (List PD×Nat)):jM [] x=x:=by
 match x with
 | .error k=>rfl
 | .ok (r,j)=>rfl
def wy(s:BA)(n i:Nat)(ds:Ar):jM ds (yi s (n+1) i) =
 if zY (bt s i)=true/\i+1<s.size then
  if bt s (i+1)=61 then
   match yG s (i+2) with
   | .error k=>.error k
   | .ok (pb,j)=>if bt s j=59 then jM (ds++[⟨bt s i,i,pb⟩]) (yi s n (j+1)) else .error j
  else .error (i+1)
 else .ok (ds,i):=by
 conv=>lhs;unfold yi
 split
 .split
  .cases yG s (i+2) with
   |error k=>rfl
   |ok q=>
    obtain⟨pb,j⟩:=q;simp only;split
    .cases yi s n (j+1) with
     |error k=>rfl
     |ok q=>simp[jM]
    .rfl
  .rfl
 .simp[jM]
open Go.RowKit
section
variable {P:Ey} {ops:Dz} {md:Region.Mode} {Q:Aa} {C:Do} {m:Nat}
def yj(P:Ey)(md:Region.Mode)(ops:Dz)(m:Nat)(C:Do)(Q:Aa):Nat->Array Bool->Act->World->Prop
 | 0,listed,a,w=>(listed.getD m true=false->C w)/\Region.ready md ops listed=[]/\Q .normal a w
 |fuel+1,listed,a,w=>(listed.getD m true=false->C w)/\(Region.ready md ops listed=[]->Q .normal a w)/\
  ∀i∈Region.ready md ops listed,wpOp P ops Q i (yj P md ops m C Q fuel (listed.setIfInBounds i true)) a w
def yj.isIn:∀{fuel:Nat}{listed:Array Bool}{a:Act}{w:World},yj P md ops m C Q fuel listed a w->listed.getD m true=false->C w
 | 0,_,_,_,h=>h.1
 | _+1,_,_,_,h=>h.1
def yj.any:∀(fuel:Nat) (listed:Array Bool) (a:Act) (w:World),yj P md ops m C Q fuel listed a w->wpAny P md ops Q fuel listed a w
 | 0,_,_,_,h=>h.2
 |fuel+1,listed,_,_,h=>⟨h.2.1,λi hi=>wpOp_mono (λa' w'=>yj.any fuel (listed.setIfInBounds i true) a' w') (h.2.2 i hi)⟩
def ja(P:Ey)(ops:Dz)(C:Do)(o:Db)(v:Ax)(a:Act):Prop:=
 Region.wanted o (yielded ops a.tmps)=true/\∀w,C w->(execOp a.eval o).run P w=.ok (.value v) w
def GR(k:oi.apart ops oj=true)(p:∀cs b,oi.op≠.select cs b)(y:∀cs b,oj.op≠.select cs b)(o:∀c a w,Q (.panic c) (a.put oi.dst v) w->Q (.panic c) a w){K:Dx}{a:Act}{w:Aw}(hy:ja P ops C oi v a)(h:oj.wp P (a.put oi.dst v) w K Q):oj.wp P a w (λa' w'=>ja P ops C oi v a'/\K (a'.put oi.dst v) w') Q:=by
 obtain⟨h1,g,n⟩:=Oper.apart_spec k;have k:∀(b:Act),ja P ops C oi v b->∀u,ja P ops C oi v (b.put oj.dst u):=λb hb u=>
  ⟨by rw[wanted_put oi b oj.dst u n];exact hb.1,λx hx=>by rw[execOp_put oi p b oj.dst u n];exact hb.2 x hx⟩
 unfold Oper.wp at h⊢;rw[execOp_put oj y a oi.dst v h1]at h;revert h;generalize (execOp a.eval oj).run P w=r;intro h
 match r,h with
 | .ok (.value u) w',h=>exact⟨k a hy u,by rw[<- Act.put_comm a v u g];exact h⟩
 | .ok .skip w',h=>exact⟨k a hy _,by rw[<- Act.put_comm a v undef g];exact h⟩
 | .ok (.defer d) w',h=>exact⟨k { a with defers:=d::a.defers } ⟨hy.1,hy.2⟩ _,by rw[<- Act.put_comm _ v undef g,<- Act.put_defers];exact h⟩
 | .ok (.enter f args) w',h=>
  refine Calls.mono h λe n he=>?_
  match e,he with
  | .returned u,he=>exact⟨k a hy u,by rw[<- Act.put_comm a v u g];exact he⟩
  | .panicked c,he=>exact o _ _ _ he
  | .outgrown,he=>exact he
 | .ok (.row row args) w',h=>exact Rows.mono h λu n he=>⟨k a hy u,by rw[<- Act.put_comm a v u g];exact he⟩
 | .halt (.panic u) w',h=>exact o _ _ _ h
def uh(o:ops[j]?=some oj)(e:oi.apart ops oj=true)(f:∀cs b,oi.op≠.select cs b)(g:∀cs b,oj.op≠.select cs b)(n:∀c a w,Q (.panic c) (a.put oi.dst v) w->Q (.panic c) a w){K:Dx}{a:Act}{w:Aw}(hy:ja P ops C oi v a)(h:wpOp P ops Q j K (a.put oi.dst v) w):wpOp P ops Q j (λa' w'=>ja P ops C oi v a'/\K (a'.put oi.dst v) w') a w:=by
 obtain⟨h1,k,d⟩:=Oper.apart_spec e;unfold wpOp at h⊢;simp only[o]at h⊢;rw[wanted_put oj a oi.dst v h1]at h;by_cases hw:Region.wanted oj (yielded ops a.tmps)=true
 .rw[i_ hw]at h⊢;refine h.imp (GR e f g n hy) (λ⟨x,y⟩=>⟨?_,y⟩);unfold Oper.asks at x⊢;rw[execOp_put oj g a oi.dst v h1]at x;exact x
 .rw[n_ hw]at h⊢;refine⟨⟨by rw[wanted_put oi a oj.dst undef d];exact hy.1,λx hx=>by rw[execOp_put oi f a oj.dst undef d];exact hy.2 x hx⟩,?_⟩;rw[<- Act.put_comm a v undef k];exact h
def ja.wpOp{o:Db}{w:Aw}(hi:ops[i]?=some o)(hy:ja P ops C o v a)(d:C w){K:Dx}(h:K (a.put o.dst v) w):wpOp P ops Q i K a w:=by
 unfold Go.wpOp;simp only[hi];rw[i_ hy.1];exact .inl (by unfold Oper.wp;rw[hy.2 w d];exact h)
def vP(h:listed.getD i true=false):listed.getD i false≠true:=by
 rw[Array.getD_eq_getD_getElem?]at h⊢;cases hx:listed[i]? with
 |none=>decide
 |some x=>rw[hx]at h;simp only[b6_]at h⊢;rw[h];decide
def cq7_{p:Prop}(h:p:=by
 induction fuel with
 |zero=>
  intro listed a w hm _ hr hy d;have n:C w:=d.isIn (by rw[getD_set_ne true (Ne.symm hmi)];exact hm);refine⟨λ_=>n,λh=>absurd hr (by rw[h];exact ba_),λj o=>?_⟩;by_cases f:j=i
  .subst f;(first|(have _:=cc1;exact hy.wpOp hi d)|(exact hy.wpOp hi n d))
  .have:=ready_mono o f;rw[d.2.1]at this;exact absurd this ba_
 |succ fuel ih=>
  intro listed a w hm r hr hy d;have n:C w:=d.isIn (by rw[getD_set_ne true (Ne.symm hmi)];exact hm);refine⟨λ_=>n,λh=>absurd hr (by rw[h];exact ba_),λj o=>?_⟩;by_cases f:j=i
  .subst f;(first|(have _:=cc1;exact hy.wpOp hi d)|(exact hy.wpOp hi n d))
  .obtain⟨u,oj,g,E⟩:=mem_ready.1 o;have G:=(mem_ready.1 hr).1;have y:∀e∈oj.after,Region.binds md e=true->e.on≠i:=λe he hb F=>vP G (F▸E e he hb);have H:j≠m:=λe=>by
    obtain⟨x,hx,hb,K⟩:=hme;rw[e,hmo]at g;obtain rfl:=Option.some.inj g;exact y x hx hb K
   (first|(have _:=cc1;have z:=ma g (r j oj g f u y) (λcs b=>hsel j oj cs b g) hQ hy (d.2.2 j (ready_mono o f)))|(have z:=uh g (r j oj g f u y) (λcs b=>hsel i oi cs b hi) (λcs b=>hsel j oj cs b g) hQ hy (d.2.2 j (ready_mono o f))));refine wpOp_mono (λa' w' A=>ih (listed.setIfInBounds j true) a' w' (by rw[getD_set_ne true H];exact hm) (λk ok hk I D J=>?_) (ready_mono hr (Ne.symm f)) A.1 ?_) z
   .refine r k ok hk I ?_ J;by_cases B:j=k
    .subst B;exact u
    .rw[getD_set_ne true B]at D;exact D
   .rw[ci_ _ _ f];exact A.2):p:=h
def sZ{om:Db}(hi:ops[i]?=some oi)(hmo:ops[m]?=some om)(hme:∃e∈om.after,Region.binds md e=true/\e.on=i)(hmi:m≠i)(hsel:∀(j:Nat) (o:Oper) cs b,ops[j]?=some o->o.op≠.select cs b)(hQ:∀c a w,Q (.panic c) (a.put oi.dst v) w->Q (.panic c) a w)(fuel:Nat):∀(listed:Array Bool) (a:Act) (w:World),listed.getD m true=false->
  (∀j oj,ops[j]?=some oj->j≠i->listed.getD j true=false->(∀e∈oj.after,Region.binds md e=true->e.on≠i)->oi.apart ops oj=true)->
  i∈Region.ready md ops listed->ja P ops C oi v a->
  yj P md ops m C Q fuel (listed.setIfInBounds i true) (a.put oi.dst v) w->yj P md ops m C Q (fuel+1) listed a w:=by
 exact cq7_
def Region.mayFirst(md:Region.Mode)(ops:Dz)(listed:Da)(m i:Nat):Bool:=
 Region.noSelect ops&&Region.free md ops listed i&&(Region.ready md ops listed).contains i && !(listed.getD m true)&&(m != i) &&
  match ops[m]? with
  |some om=>om.after.any λe=>Region.binds md e&&e.on==i
  |none=>false
def cq18_{p:Prop}(h:p:=by
 simp only[Region.mayFirst,a3_,bne_iff_ne,Bool.not_eq_true']at hf;obtain⟨⟨⟨⟨⟨hs,hf⟩,hr⟩,hm⟩,f⟩,hx⟩:=hf;cases d:ops[m]? with
 |none=>rw[d]at hx;exact absurd hx Bool.false_ne_true
 |some om=>
  rw[d]at hx;obtain⟨e,he,hb⟩:=Array.any_eq_true'.1 hx;simp only[a3_,beq_iff_eq]at hb;(first|(have:=cc1;exact dh hi d ⟨e,he,hb⟩ f (Region.noSelect_spec hs) hQ fuel listed a w hm (Region.free_spec hi hf) (by simpa using hr) hg h)|(exact sZ hi d ⟨e,he,hb⟩ f (Region.noSelect_spec hs) hQ fuel listed a w hm (Region.free_spec hi hf) (by simpa using hr) ⟨hg,hy⟩ h))):p:=h
def qL(i:Nat)(v:Ax){w:Aw}(hi:ops[i]?=some oi)(hf:Region.mayFirst md ops listed m i=true)(hQ:∀c a w,Q (.panic c) (a.put oi.dst v) w->Q (.panic c) a w)(hg:Region.wanted oi (yielded ops a.tmps)=true)(hy:∀w,C w->(execOp a.eval oi).run P w=.ok (.value v) w)(h:yj P md ops m C Q fuel (listed.setIfInBounds i true) (a.put oi.dst v) w):yj P md ops m C Q (fuel+1) listed a w:=by
 exact cq18_
def ta_(i:Nat){w:Aw}(hi:ops[i]?=some oi)(hf:(Region.mayFirst md ops listed m i && Region.wanted oi (yielded ops a.tmps))=true)(d:∀c a w,Q (.panic c) (a.put oi.dst v) w->Q (.panic c) a w)(hy:∀w,C w->(execOp a.eval oi).run P w=.ok (.value v) w)(h:yj P md ops m C Q fuel (listed.setIfInBounds i true) (a.put oi.dst v) w):yj P md ops m C Q (fuel+1) listed a w:=by
 rw[Bool.and_eq_true]at hf;exact qL i v hi hf.1 d hf.2 hy h
def tb_(i:Nat){w:Aw}(hi:ops[i]?=some oi)(hf:Region.mayFirst md ops listed m i=true)(d:∀c a w,Q (.panic c) (a.put oi.dst v) w->Q (.panic c) a w)(hg:Region.wanted oi (yielded ops a.tmps)=true)(hy:∀w,C w->(execOp a.eval oi).run P w=.ok (.value v) w)(h:yj P md ops m C Q fuel (listed.setIfInBounds i true) (a.put oi.dst v) w):yj P md ops m C Q (fuel+1) listed a w:=qL i v hi hf d hg hy h
def tz_(i:Nat){w:Aw}(h:yj P md ops m C Q fuel (listed.setIfInBounds i true) (a.put oi.dst v) w)(hi:ops[i]?=some oi:=by rfl)(hf:(Region.mayFirst md ops listed m i&&Region.wanted oi (yielded ops a.tmps))=true:=by kernel_rfl)(o:∀c a w,Q (.panic c) (a.put oi.dst v) w->Q (.panic c) a w:=by exact λ_ _ _ h=>h)(hy:∀w,C w->(execOp a.eval oi).run P w=.ok (.value v) w:=by first|(rintro W ⟨h1,d,e,f,g,k,n,p⟩;go_simp<;>rfl)|(rintro W ⟨h1,d,e,f,g,k,n⟩;go_simp<;>rfl)|(rintro W ⟨h1,d,e,f,g,k⟩;go_simp<;>rfl)|(rintro W ⟨h1,d,e,f,g⟩;go_simp<;>rfl)|(rintro W ⟨h1,d,e,f⟩;go_simp<;>rfl)|(rintro W ⟨h1,d,e⟩;go_simp<;>rfl)|(rintro W ⟨h1,d⟩;go_simp<;>rfl)|(intro W h1;go_simp<;>rfl)):yj P md ops m C Q (fuel+1) listed a w:=by
 rw[a3_]at hf;exact qL i v hi hf.1 o hf.2 hy h
def cq19_{p:Prop}(h:p:=by
 refine⟨hC,λh0=>by rw[h0]at hr;exact absurd hr (by simp),λj d=>?_⟩;rw[hr]at d;obtain rfl:j=i:=by simpa using d
 unfold wpOp;simp only[hi];have:=h _ (λ_ _ h=>h);split
 .rename_i hg;rw[i_ hg]at this;exact .inl this
 .rename_i hg;rw[n_ hg]at this;exact this):p:=h
def zh(i:Nat){w:Aw}(hi:ops[i]?=some oi)(hr:Region.ready md ops listed=[i])(hC:listed.getD m true=false->C w)(h:∀K:Act->World->Prop,(∀a' w',yj P md ops m C Q fuel (listed.setIfInBounds i true) a' w'->K a' w')->if Region.wanted oi (yielded ops a.tmps)=true then oi.wp P a w K Q else K (a.put oi.dst undef) w):yj P md ops m C Q (fuel+1) listed a w:=by
 exact cq19_
def t1_(i:Nat){w:Aw}(c:C w)(h:q)(hi:ops[i]?=some oi:=by rfl)(hr:Region.ready md ops listed=[i]:=by kernel_rfl)(f:q->∀K:Act->World->Prop,(∀a' w',yj P md ops m C Q fuel (listed.setIfInBounds i true) a' w'->K a' w')->if Region.wanted oi (yielded ops a.tmps)=true then oi.wp P a w K Q else K (a.put oi.dst undef) w:=by (intro e K d;go_simp;refine d _ _ ?_;exact e)):yj P md ops m C Q (fuel+1) listed a w:=zh i hi hr (λ_=>c) (f h)
def t0_(i:Nat){w:Aw}(h:q)(hi:ops[i]?=some oi:=by rfl)(hr:Region.ready md ops listed=[i]:=by kernel_rfl)(d:listed.getD m true=false->C w:=by exact λhm=>absurd hm (by decide))(f:q->∀K:Act->World->Prop,(∀a' w',yj P md ops m C Q fuel (listed.setIfInBounds i true) a' w'->K a' w')->if Region.wanted oi (yielded ops a.tmps)=true then oi.wp P a w K Q else K (a.put oi.dst undef) w:=by (intro g K e;go_simp;refine e _ _ ?_;exact g)):yj P md ops m C Q (fuel+1) listed a w:=zh i hi hr d (f h)
def eG{w:Aw}(hr:Region.ready md ops listed=[])(d:listed.getD m true=false->C w)(h:Q .normal a w):∀fuel,yj P md ops m C Q fuel listed a w
 | 0=>⟨d,hr,h⟩
 | _+1=>⟨d,λ_=>h,λi hi=>by rw[hr]at hi;exact absurd hi ba_⟩
def td_{w:Aw}(h:Q .normal a w)(fuel:Nat)(hr:Region.ready md ops listed=[]:=by kernel_rfl)(d:listed.getD m true=false->C w:=by exact λhm=>absurd hm (by decide)):yj P md ops m C Q fuel listed a w:=eG hr d h fuel
def Zh{id:Nat}{w:Aw}(m:Nat)(C:Do)(hm:P.follows .mixedOrders=true)(h:yj P .any ops m C Q ops.size (Array.replicate ops.size false) a w.drew):(Code.region id ops true).wp P Q a w:=wp_region_any hm (yj.any _ _ _ _ h)
def tr_{id:Nat}{w:Aw}(m:Nat)(C:Do)(h:yj P .any ops m C Q ops.size (Array.replicate ops.size false) a w.drew)(hm:P.follows .mixedOrders=true:=by kernel_rfl):(Code.region id ops true).wp P Q a w:=Zh m C hm h
end
open Go.RowKit
section
variable {P:Ey} {ops:Dz} {md:Region.Mode} {Q:Aa} {C:Do} {m:Nat}
def wJ(ops:Dz)(o:Db)(a:Act):Prop:=Region.wanted o (yielded ops a.tmps)=false
def VQ(k:oi.apart ops oj=true)(p:∀cs b,oj.op≠.select cs b)(n:∀c a w,Q (.panic c) (a.put oi.dst undef) w->Q (.panic c) a w){K:Dx}{a:Act}{w:Aw}(hy:wJ ops oi a)(h:oj.wp P (a.put oi.dst undef) w K Q):oj.wp P a w (λa' w'=>wJ ops oi a'/\K (a'.put oi.dst undef) w') Q:=by
 obtain⟨h1,g,o⟩:=Oper.apart_spec k;have k:∀(b:Act),wJ ops oi b->∀u,wJ ops oi (b.put oj.dst u):=λb hb u=>by
  unfold wJ;rw[wanted_put oi b oj.dst u o];exact hb
 unfold Oper.wp at h⊢;rw[execOp_put oj p a oi.dst undef h1]at h;revert h;generalize (execOp a.eval oj).run P w=r;intro h
 match r,h with
 | .ok (.value u) w',h=>exact⟨k a hy u,by rw[<- Act.put_comm a undef u g];exact h⟩
 | .ok .skip w',h=>exact⟨k a hy _,by rw[<- Act.put_comm a undef undef g];exact h⟩
 | .ok (.defer d) w',h=>exact⟨k { a with defers:=d::a.defers } hy _,by rw[<- Act.put_comm _ undef undef g,<- Act.put_defers];exact h⟩
 | .ok (.enter f args) w',h=>
  refine Calls.mono h λe o he=>?_
  match e,he with
  | .returned u,he=>exact⟨k a hy u,by rw[<- Act.put_comm a undef u g];exact he⟩
  | .panicked c,he=>exact n _ _ _ he
  | .outgrown,he=>exact he
 | .ok (.row row args) w',h=>exact Rows.mono h λu o he=>⟨k a hy u,by rw[<- Act.put_comm a undef u g];exact he⟩
 | .halt (.panic u) w',h=>exact n _ _ _ h
def ma(n:ops[j]?=some oj)(d:oi.apart ops oj=true)(e:∀cs b,oj.op≠.select cs b)(k:∀c a w,Q (.panic c) (a.put oi.dst undef) w->Q (.panic c) a w){K:Dx}{a:Act}{w:Aw}(hy:wJ ops oi a)(h:wpOp P ops Q j K (a.put oi.dst undef) w):wpOp P ops Q j (λa' w'=>wJ ops oi a'/\K (a'.put oi.dst undef) w') a w:=by
 obtain⟨h1,f,g⟩:=Oper.apart_spec d;unfold wpOp at h⊢;simp only[n]at h⊢;rw[wanted_put oj a oi.dst undef h1]at h;by_cases hw:Region.wanted oj (yielded ops a.tmps)=true
 .rw[i_ hw]at h⊢;refine h.imp (VQ d e k hy) (λ⟨x,y⟩=>⟨?_,y⟩);unfold Oper.asks at x⊢;rw[execOp_put oj e a oi.dst undef h1]at x;exact x
 .rw[n_ hw]at h⊢;refine⟨by unfold wJ;rw[wanted_put oi a oj.dst undef g];exact hy,?_⟩;rw[<- Act.put_comm a undef undef f];exact h
def wJ.wpOp{o:Db}{w:Aw}(hi:ops[i]?=some o)(hy:wJ ops o a){K:Dx}(h:K (a.put o.dst undef) w):wpOp P ops Q i K a w:=by
 unfold Go.wpOp;simp only[hi];rw[n_ (by rw[show Region.wanted o (yielded ops a.tmps)=false from hy];decide)];exact h
def dh{om:Db}(hi:ops[i]?=some oi)(hmo:ops[m]?=some om)(hme:∃e∈om.after,Region.binds md e=true/\e.on=i)(hmi:m≠i)(hsel:∀(j:Nat) (o:Oper) cs b,ops[j]?=some o->o.op≠.select cs b)(hQ:∀c a w,Q (.panic c) (a.put oi.dst undef) w->Q (.panic c) a w)(fuel:Nat):∀(listed:Array Bool) (a:Act) (w:World),listed.getD m true=false->
  (∀j oj,ops[j]?=some oj->j≠i->listed.getD j true=false->(∀e∈oj.after,Region.binds md e=true->e.on≠i)->oi.apart ops oj=true)->
  i∈Region.ready md ops listed->wJ ops oi a->
  yj P md ops m C Q fuel (listed.setIfInBounds i true) (a.put oi.dst undef) w->yj P md ops m C Q (fuel+1) listed a w:=by
 have cc1:=Nat
 exact cq7_
def ve(i:Nat){w:Aw}(hi:ops[i]?=some oi)(hf:Region.mayFirst md ops listed m i=true)(hQ:∀c a w,Q (.panic c) (a.put oi.dst undef) w->Q (.panic c) a w)(hg:Region.wanted oi (yielded ops a.tmps)=false)(h:yj P md ops m C Q fuel (listed.setIfInBounds i true) (a.put oi.dst undef) w):yj P md ops m C Q (fuel+1) listed a w:=by
 have cc1:=Nat
 exact cq18_
end
open Go.RowKit
section
variable {P:Ey} {ops:Dz} {md:Region.Mode} {Q:Aa} {C:Do}
def yO(P:Ey)(md:Region.Mode)(ops:Dz)(C:Do)(Q:Aa):Nat->Array Bool->Act->World->Prop
 | 0,listed,a,w=>C w/\Region.ready md ops listed=[]/\Q .normal a w
 |fuel+1,listed,a,w=>C w/\(Region.ready md ops listed=[]->Q .normal a w)/\
  ∀i∈Region.ready md ops listed,wpOp P ops Q i (yO P md ops C Q fuel (listed.setIfInBounds i true)) a w
def yO.isIn:∀{fuel:Nat}{listed:Array Bool}{a:Act}{w:World},yO P md ops C Q fuel listed a w->C w
 | 0,_,_,_,h=>h.1
 | _+1,_,_,_,h=>h.1
def yO.any:∀(fuel:Nat) (listed:Array Bool) (a:Act) (w:World),yO P md ops C Q fuel listed a w->wpAny P md ops Q fuel listed a w
 | 0,_,_,_,h=>h.2
 |fuel+1,listed,_,_,h=>⟨h.2.1,λi hi=>wpOp_mono (λa' w'=>yO.any fuel (listed.setIfInBounds i true) a' w') (h.2.2 i hi)⟩
def cq9_{p:Prop}(h:p:=by
 induction fuel with
 |zero=>
  intro listed a w _ hr hy d;have n:C w:=d.isIn;refine⟨n,λh=>absurd hr (by rw[h];exact ba_),λj o=>?_⟩;by_cases f:j=i
  .subst f;(first|(have _:=cc1;exact hy.wpOp hi d)|(exact hy.wpOp hi n d))
  .have:=ready_mono o f;rw[d.2.1]at this;exact absurd this ba_
 |succ fuel ih=>
  intro listed a w r hr hy d;have n:C w:=d.isIn;refine⟨n,λh=>absurd hr (by rw[h];exact ba_),λj o=>?_⟩;by_cases f:j=i
  .subst f;(first|(have _:=cc1;exact hy.wpOp hi d)|(exact hy.wpOp hi n d))
  .obtain⟨u,oj,g,D⟩:=mem_ready.1 o;have F:=(mem_ready.1 hr).1;have A:∀e∈oj.after,Region.binds md e=true->e.on≠i:=λe he hb E=>vP F (E▸D e he hb);(first|(have _:=cc1;have x:=ma g (r j oj g f u A) (λcs b=>hsel j oj cs b g) hQ hy (d.2.2 j (ready_mono o f)))|(have x:=uh g (r j oj g f u A) (λcs b=>hsel i oi cs b hi) (λcs b=>hsel j oj cs b g) hQ hy (d.2.2 j (ready_mono o f))));refine wpOp_mono (λa' w' y=>ih (listed.setIfInBounds j true) a' w' (λk ok hk G B H=>?_) (ready_mono hr (Ne.symm f)) y.1 ?_) x
   .refine r k ok hk G ?_ H;by_cases z:j=k
    .subst z;exact u
    .rw[getD_set_ne true z]at B;exact B
   .rw[ci_ _ _ f];exact y.2):p:=h
def sY(hi:ops[i]?=some oi)(hsel:∀(j:Nat) (o:Oper) cs b,ops[j]?=some o->o.op≠.select cs b)(hQ:∀c a w,Q (.panic c) (a.put oi.dst v) w->Q (.panic c) a w)(fuel:Nat):∀(listed:Array Bool) (a:Act) (w:World),
  (∀j oj,ops[j]?=some oj->j≠i->listed.getD j true=false->(∀e∈oj.after,Region.binds md e=true->e.on≠i)->oi.apart ops oj=true)->
  i∈Region.ready md ops listed->ja P ops C oi v a->
  yO P md ops C Q fuel (listed.setIfInBounds i true) (a.put oi.dst v) w->yO P md ops C Q (fuel+1) listed a w:=by
 exact cq9_
def di(hi:ops[i]?=some oi)(hsel:∀(j:Nat) (o:Oper) cs b,ops[j]?=some o->o.op≠.select cs b)(hQ:∀c a w,Q (.panic c) (a.put oi.dst undef) w->Q (.panic c) a w)(fuel:Nat):∀(listed:Array Bool) (a:Act) (w:World),
  (∀j oj,ops[j]?=some oj->j≠i->listed.getD j true=false->(∀e∈oj.after,Region.binds md e=true->e.on≠i)->oi.apart ops oj=true)->
  i∈Region.ready md ops listed->wJ ops oi a->
  yO P md ops C Q fuel (listed.setIfInBounds i true) (a.put oi.dst undef) w->yO P md ops C Q (fuel+1) listed a w:=by
 have cc1:=Nat
 exact cq9_
def Region.mayAll(md:Region.Mode)(ops:Dz)(listed:Da)(i:Nat):Bool:=
 Region.noSelect ops&&Region.free md ops listed i&&(Region.ready md ops listed).contains i
def zc(i:Nat)(v:Ax){w:Aw}(hi:ops[i]?=some oi)(hf:Region.mayAll md ops listed i=true)(d:∀c a w,Q (.panic c) (a.put oi.dst v) w->Q (.panic c) a w)(hg:Region.wanted oi (yielded ops a.tmps)=true)(hy:∀w,C w->(execOp a.eval oi).run P w=.ok (.value v) w)(h:yO P md ops C Q fuel (listed.setIfInBounds i true) (a.put oi.dst v) w):yO P md ops C Q (fuel+1) listed a w:=by
 simp only[Region.mayAll,a3_]at hf;obtain⟨⟨hs,hf⟩,hr⟩:=hf;exact sY hi (Region.noSelect_spec hs) d fuel listed a w (Region.free_spec hi hf) (by simpa using hr) ⟨hg,hy⟩ h
def tA_(i:Nat){w:Aw}(hi:ops[i]?=some oi)(hf:(Region.mayAll md ops listed i && Region.wanted oi (yielded ops a.tmps))=true)(d:∀c a w,Q (.panic c) (a.put oi.dst v) w->Q (.panic c) a w)(hy:∀w,C w->(execOp a.eval oi).run P w=.ok (.value v) w)(h:yO P md ops C Q fuel (listed.setIfInBounds i true) (a.put oi.dst v) w):yO P md ops C Q (fuel+1) listed a w:=by
 rw[Bool.and_eq_true]at hf;exact zc i v hi hf.1 d hf.2 hy h
def tY_(i:Nat){w:Aw}(h:yO P md ops C Q fuel (listed.setIfInBounds i true) (a.put oi.dst v) w)(hi:ops[i]?=some oi:=by rfl)(hf:(Region.mayAll md ops listed i&&Region.wanted oi (yielded ops a.tmps))=true:=by kernel_rfl)(o:∀c a w,Q (.panic c) (a.put oi.dst v) w->Q (.panic c) a w:=by exact λ_ _ _ h=>h)(hy:∀w,C w->(execOp a.eval oi).run P w=.ok (.value v) w:=by first|(rintro W ⟨h1,d,e,f,g,k,n,p⟩;go_simp<;>rfl)|(rintro W ⟨h1,d,e,f,g,k,n⟩;go_simp<;>rfl)|(rintro W ⟨h1,d,e,f,g,k⟩;go_simp<;>rfl)|(rintro W ⟨h1,d,e,f,g⟩;go_simp<;>rfl)|(rintro W ⟨h1,d,e,f⟩;go_simp<;>rfl)|(rintro W ⟨h1,d,e⟩;go_simp<;>rfl)|(rintro W ⟨h1,d⟩;go_simp<;>rfl)|(intro W h1;go_simp<;>rfl)):yO P md ops C Q (fuel+1) listed a w:=by
 rw[a3_]at hf;exact zc i v hi hf.1 o hf.2 hy h
def vo(i:Nat){w:Aw}(hi:ops[i]?=some oi)(hf:Region.mayAll md ops listed i=true)(d:∀c a w,Q (.panic c) (a.put oi.dst undef) w->Q (.panic c) a w)(hg:Region.wanted oi (yielded ops a.tmps)=false)(h:yO P md ops C Q fuel (listed.setIfInBounds i true) (a.put oi.dst undef) w):yO P md ops C Q (fuel+1) listed a w:=by
 simp only[Region.mayAll,a3_]at hf;obtain⟨⟨hs,hf⟩,hr⟩:=hf;exact di hi (Region.noSelect_spec hs) d fuel listed a w (Region.free_spec hi hf) (by simpa using hr) hg h
def zJ(i:Nat){w:Aw}(hi:ops[i]?=some oi)(hr:Region.ready md ops listed=[i])(hC:C w)(h:∀K:Act->World->Prop,(∀a' w',yO P md ops C Q fuel (listed.setIfInBounds i true) a' w'->K a' w')->if Region.wanted oi (yielded ops a.tmps)=true then oi.wp P a w K Q else K (a.put oi.dst undef) w):yO P md ops C Q (fuel+1) listed a w:=by
 have cc1:=Nat
 exact cq19_
def t2_(i:Nat){w:Aw}(c:C w)(h:q)(hi:ops[i]?=some oi:=by rfl)(hr:Region.ready md ops listed=[i]:=by kernel_rfl)(f:q->∀K:Act->World->Prop,(∀a' w',yO P md ops C Q fuel (listed.setIfInBounds i true) a' w'->K a' w')->if Region.wanted oi (yielded ops a.tmps)=true then oi.wp P a w K Q else K (a.put oi.dst undef) w:=by (intro e K d;go_simp;refine d _ _ ?_;exact e)):yO P md ops C Q (fuel+1) listed a w:=zJ i hi hr c (f h)
def yq{w:Aw}(hr:Region.ready md ops listed=[])(d:C w)(h:Q .normal a w):∀fuel,yO P md ops C Q fuel listed a w
 | 0=>⟨d,hr,h⟩
 | _+1=>⟨d,λ_=>h,λi hi=>by rw[hr]at hi;exact absurd hi ba_⟩
def su{id:Nat}{w:Aw}(C:Do)(hm:P.follows .mixedOrders=true)(h:yO P .any ops C Q ops.size (Array.replicate ops.size false) a w.drew):(Code.region id ops true).wp P Q a w:=wp_region_any hm (yO.any _ _ _ _ h)
def tR_{id:Nat}{w:Aw}(C:Do)(h:yO P .any ops C Q ops.size (Array.replicate ops.size false) a w.drew)(hm:P.follows .mixedOrders=true:=by kernel_rfl):(Code.region id ops true).wp P Q a w:=su C hm h
end
open Go.RowKit
def zm(u:Aw)(o:Obj):(u.alloc o).heap.size=u.heap.size+1:=by show(u.heap.push _).size=_;simp
section
variable {P:Ey} {ops:Dz} {md:Region.Mode} {Q:Aa} {C:Do} {m:Nat}
def Mc(md:Region.Mode)(ops:Dz)(listed:Da)(i:Nat)(B:Ao):Prop:=
 ∀b∈B,listed.getD b true=false/\∃ob,ops[b]?=some ob/\∃e∈ob.after,Region.binds md e=true/\(e.on=i\/e.on∈B)
def dr{B:Ao}(hi:ops[i]?=some oi)(hmB:m∈B)(p:i∉B)(E:∀(j:Nat) (o:Oper) cs b,ops[j]?=some o->o.op≠.select cs b)(G:∀c a w,Q (.panic c) (a.put oi.dst v) w->Q (.panic c) a w)(fuel:Nat):∀(listed:Array Bool) (a:Act) (w:World),Mc md ops listed i B->
  (∀j oj,ops[j]?=some oj->j≠i->listed.getD j true=false->(∀e∈oj.after,Region.binds md e=true->e.on≠i)->oi.apart ops oj=true)->
  i∈Region.ready md ops listed->ja P ops C oi v a->
  yj P md ops m C Q fuel (listed.setIfInBounds i true) (a.put oi.dst v) w->yj P md ops m C Q (fuel+1) listed a w:=by
 have hmi:m≠i:=λe=>p (e▸hmB);induction fuel with
 |zero=>
  intro listed a w hB _ hr hy f;have g:C w:=f.isIn ye_;refine⟨λ_=>g,λh=>absurd hr (by rw[h];exact ba_),λj n=>?_⟩;by_cases d:j=i
  .subst d;exact hy.wpOp hi g f
  .have:=ready_mono n d;rw[f.2.1]at this;exact absurd this ba_
 |succ fuel ih=>
  intro listed a w hB y hr hy f;have g:C w:=f.isIn ye_;refine⟨λ_=>g,λh=>absurd hr (by rw[h];exact ba_),λj n=>?_⟩;by_cases d:j=i
  .subst d;exact hy.wpOp hi g f
  .obtain⟨A,oj,p,u⟩:=mem_ready.1 n;have H:=(mem_ready.1 hr).1;have D:∀e∈oj.after,Region.binds md e=true->e.on≠i:=λe he hb g=>vP H (g▸u e he hb);have I:j∉B:=λH=>by
    obtain⟨_,g,ho,x,hx,hb,g⟩:=hB j H;rw[p]at ho;obtain rfl:=Option.some.inj ho;rcases g with g|g
    .exact D x hx hb g
    .exact vP (hB _ g).1 (u x hx hb)
   have g:=uh p (y j oj p d A D) (λcs b=>E i oi cs b hi) (λcs b=>E j oj cs b p) G hy (f.2.2 j (ready_mono n d));refine wpOp_mono (λa' w' r=>ih (listed.setIfInBounds j true) a' w' (λb hb=>⟨by rw[getD_set_ne true (show j≠b from λe=>I (e▸hb))];exact(hB b hb).1,(hB b hb).2⟩) (λk ok hk f F n=>?_) (ready_mono hr (Ne.symm d)) r.1 ?_) g
   .refine y k ok hk f ?_ n;by_cases z:j=k
    .subst z;exact A
    .rw[getD_set_ne true z]at F;exact F
   .rw[ci_ _ _ d];exact r.2
def Region.mayB(md:Region.Mode)(ops:Dz)(listed:Da)(m i:Nat)(B:Ao):Bool:=
 Region.noSelect ops&&Region.free md ops listed i&&(Region.ready md ops listed).contains i&&B.contains m && !(B.contains i) &&
  B.all λb=>!(listed.getD b true)&&match ops[b]? with
  |some ob=>ob.after.any λe=>Region.binds md e&&(e.on==i||B.contains e.on)
  |none=>false
def se(i:Nat)(B:Ao){oi:Db}(v:Ax){fuel:Nat}{listed:Da}{a:Act}{w:Aw}(hi:ops[i]?=some oi)(hf:Region.mayB md ops listed m i B=true)(d:∀c a w,Q (.panic c) (a.put oi.dst v) w->Q (.panic c) a w)(hg:Region.wanted oi (yielded ops a.tmps)=true)(hy:∀w,C w->(execOp a.eval oi).run P w=.ok (.value v) w)(h:yj P md ops m C Q fuel (listed.setIfInBounds i true) (a.put oi.dst v) w):yj P md ops m C Q (fuel+1) listed a w:=by
 simp only[Region.mayB,a3_,Bool.not_eq_true']at hf;obtain⟨⟨⟨⟨⟨hs,hf⟩,hr⟩,hm⟩,f⟩,hx⟩:=hf;refine dr hi (by simpa using hm) (by simpa using f) (Region.noSelect_spec hs) d fuel listed a w (λb hb=>?_) (Region.free_spec hi hf) (by simpa using hr) ⟨hg,hy⟩ h;have:=List.all_eq_true.1 hx b hb;simp only[a3_,Bool.not_eq_true']at this;refine⟨this.1,?_⟩;have d:=this.2;cases ho:ops[b]? with
 |none=>rw[ho]at d;exact absurd d Bool.false_ne_true
 |some ob=>
  rw[ho]at d;obtain⟨e,he,hb⟩:=Array.any_eq_true'.1 d;simp only[a3_,ay_,beq_iff_eq]at hb;exact⟨ob,rfl,e,he,hb.1,hb.2.imp id (λh=>by simpa using h)⟩
def tB_(i:Nat)(B:Ao){w:Aw}(h:yj P md ops m C Q fuel (listed.setIfInBounds i true) (a.put oi.dst v) w)(hi:ops[i]?=some oi:=by rfl)(hf:(Region.mayB md ops listed m i B&&Region.wanted oi (yielded ops a.tmps))=true:=by kernel_rfl)(o:∀c a w,Q (.panic c) (a.put oi.dst v) w->Q (.panic c) a w:=by exact λ_ _ _ h=>h)(hy:∀w,C w->(execOp a.eval oi).run P w=.ok (.value v) w:=by first|(rintro W ⟨h1,d,e,f,g,k,n,p⟩;go_simp<;>rfl)|(rintro W ⟨h1,d,e,f,g,k,n⟩;go_simp<;>rfl)|(rintro W ⟨h1,d,e,f,g,k⟩;go_simp<;>rfl)|(rintro W ⟨h1,d,e,f,g⟩;go_simp<;>rfl)|(rintro W ⟨h1,d,e,f⟩;go_simp<;>rfl)|(rintro W ⟨h1,d,e⟩;go_simp<;>rfl)|(rintro W ⟨h1,d⟩;go_simp<;>rfl)|(intro W h1;go_simp<;>rfl)):yj P md ops m C Q (fuel+1) listed a w:=by
 rw[a3_]at hf;exact se i B v hi hf.1 o hf.2 hy h
def jV(i j:Nat){w:Aw}(hi:ops[i]?=some oi)(f:ops[j]?=some oj)(hr:Region.ready md ops listed=[i,j])(e:listed.getD m true=false->C w)(h:∀K:Act->World->Prop,(∀a' w',yj P md ops m C Q fuel (listed.setIfInBounds i true) a' w'->K a' w')->if Region.wanted oi (yielded ops a.tmps)=true then oi.wp P a w K Q else K (a.put oi.dst undef) w)(d:∀K:Act->World->Prop,(∀a' w',yj P md ops m C Q fuel (listed.setIfInBounds j true) a' w'->K a' w')->if Region.wanted oj (yielded ops a.tmps)=true then oj.wp P a w K Q else K (a.put oj.dst undef) w):yj P md ops m C Q (fuel+1) listed a w:=by
 refine⟨e,λh0=>by rw[h0]at hr;exact absurd hr x6_,λk hk=>?_⟩;rw[hr]at hk;unfold wpOp;rcases(by simpa using hk:k=i\/k=j) with rfl|rfl
 .simp only[hi];have:=h _ (λ_ _ h=>h);split
  .rename_i hg;rw[i_ hg]at this;exact .inl this
  .rename_i hg;rw[n_ hg]at this;exact this
 .simp only[f];have:=d _ (λ_ _ h=>h);split
  .rename_i hg;rw[i_ hg]at this;exact .inl this
  .rename_i hg;rw[n_ hg]at this;exact this
end
open Go.RowKit
def yI(T I:Av)(h:∀(v:Value) (w:World),(Instr.typeAssert (.iface T v) I T true).run prog w=.ok (.tuple #[v,.bool true]) w:=by exact λ_ _=>by kernel_rfl):∀(v:Value) (w:World),(Instr.typeAssert (.iface T v) I T true).run prog w=.ok (.tuple #[v,.bool true]) w:=h
def vt(T I:Av)(z:Ax)(h:∀(u:TypeId) (v:Value) (w:World),(Instr.typeAssert (.iface u v) I T true).run prog w=(if u=T then (pure (Value.tuple #[v,.bool true]):Sem Value) else (do pure (Value.tuple #[<- zeroValue T,.bool false]))).run prog w:=by exact λ_ _ _=>by kernel_rfl)(d:∀(w:World),(do pure (Value.tuple #[<- zeroValue T,.bool false]):Sem Value).run prog w=.ok (.tuple #[z,.bool false]) w:=by exact λ_=>by kernel_rfl):∀u,u≠T->∀(v:Value) (w:World),(Instr.typeAssert (.iface u v) I T true).run prog w=.ok (.tuple #[z,.bool false]) w:=by
 intro u hu v w;rw[h,n_ hu];exact d w
def Blk(w:Aw)(b:Nat)(cs:Ay)(t:Av):Prop:=w.heap[b]?=some (.cells cs.toArray t (0,0))
def Blk.cell{w:Aw}(h:Blk w b cs t)(o:Nat):w.cell? ⟨b,o,none⟩=cs[o]?:=by
 unfold Blk at h;simp[World.cell?,h]
def F_:=@Blk.cell
def Blk.th{w:Aw}(h:Blk w b cs t)(o:Nat):w.frozen? ⟨b,o,none⟩=false:=by
 unfold Blk at h;simp[World.frozen?,h]
def Blk.c0{w:Aw}(h:Blk w b (v0::l) t):w.cell? ⟨b,0,none⟩=some v0:=h.cell 0
def Blk.c1{w:Aw}(h:Blk w b (v0::v1::l) t):w.cell? ⟨b,1,none⟩=some v1:=h.cell 1
def Blk.c2{w:Aw}(h:Blk w b (v0::v1::v2::l) t):w.cell? ⟨b,2,none⟩=some v2:=h.cell 2
def Blk.c3{w:Aw}(h:Blk w b (v0::v1::v2::v3::l) t):w.cell? ⟨b,3,none⟩=some v3:=h.cell 3
def Blk.c4{w:Aw}(h:Blk w b (v0::v1::v2::v3::v4::l) t):w.cell? ⟨b,4,none⟩=some v4:=h.cell 4
def Blk.c5{w:Aw}(h:Blk w b (v0::v1::v2::v3::v4::v5::l) t):w.cell? ⟨b,5,none⟩=some v5:=h.cell 5
def Blk.c6{w:Aw}(h:Blk w b (v0::v1::v2::v3::v4::v5::v6::l) t):w.cell? ⟨b,6,none⟩=some v6:=h.cell 6
def Blk.c7{w:Aw}(h:Blk w b (v0::v1::v2::v3::v4::v5::v6::v7::l) t):w.cell? ⟨b,7,none⟩=some v7:=h.cell 7
def Blk.c8{w:Aw}{d:Ax}(h:Blk w b (v0::v1::v2::v3::v4::v5::v6::v7::d::l) t):w.cell? ⟨b,8,none⟩=some d:=h.cell 8
def Blk.c9{w:Aw}{e d:Ax}(h:Blk w b (v0::v1::v2::v3::v4::v5::v6::v7::e::d::l) t):w.cell? ⟨b,9,none⟩=some d:=h.cell 9
def Blk.d3{w:Aw}(h:Blk w b (v0::v1::v2::l) t):w.cell? ⟨b,0,none⟩=some v0/\w.cell? ⟨b,1,none⟩=some v1/\w.cell? ⟨b,2,none⟩=some v2:=⟨h.cell 0,h.cell 1,h.cell 2⟩
def Blk.d4{w:Aw}(h:Blk w b (v0::v1::v2::v3::l) t):w.cell? ⟨b,0,none⟩=some v0/\w.cell? ⟨b,1,none⟩=some v1/\w.cell? ⟨b,2,none⟩=some v2/\w.cell? ⟨b,3,none⟩=some v3:=⟨h.cell 0,h.cell 1,h.cell 2,h.cell 3⟩
def Blk.d5{w:Aw}(h:Blk w b (v0::v1::v2::v3::v4::l) t):w.cell? ⟨b,0,none⟩=some v0/\w.cell? ⟨b,1,none⟩=some v1/\w.cell? ⟨b,2,none⟩=some v2/\w.cell? ⟨b,3,none⟩=some v3/\w.cell? ⟨b,4,none⟩=some v4:=⟨h.cell 0,h.cell 1,h.cell 2,h.cell 3,h.cell 4⟩
def Blk.t3{w:Aw}(h:Blk w b l t):w.frozen? ⟨b,0,none⟩=false/\w.frozen? ⟨b,1,none⟩=false/\w.frozen? ⟨b,2,none⟩=false:=⟨h.th 0,h.th 1,h.th 2⟩
def Blk.t4{w:Aw}(h:Blk w b l t):w.frozen? ⟨b,0,none⟩=false/\w.frozen? ⟨b,1,none⟩=false/\w.frozen? ⟨b,2,none⟩=false/\w.frozen? ⟨b,3,none⟩=false:=⟨h.th 0,h.th 1,h.th 2,h.th 3⟩
def Blk.t5{w:Aw}(h:Blk w b l t):w.frozen? ⟨b,0,none⟩=false/\w.frozen? ⟨b,1,none⟩=false/\w.frozen? ⟨b,2,none⟩=false/\w.frozen? ⟨b,3,none⟩=false/\w.frozen? ⟨b,4,none⟩=false:=⟨h.th 0,h.th 1,h.th 2,h.th 3,h.th 4⟩
def Blk.f3{w:Aw}(h:Blk w b l t):w.cell? ⟨b,0,none⟩=l[0]?/\w.cell? ⟨b,1,none⟩=l[1]?/\w.cell? ⟨b,2,none⟩=l[2]?:=⟨h.cell 0,h.cell 1,h.cell 2⟩
def Blk.f4{w:Aw}(h:Blk w b l t):w.cell? ⟨b,0,none⟩=l[0]?/\w.cell? ⟨b,1,none⟩=l[1]?/\w.cell? ⟨b,2,none⟩=l[2]?/\w.cell? ⟨b,3,none⟩=l[3]?:=⟨h.cell 0,h.cell 1,h.cell 2,h.cell 3⟩
def Blk.f5{w:Aw}(h:Blk w b l t):w.cell? ⟨b,0,none⟩=l[0]?/\w.cell? ⟨b,1,none⟩=l[1]?/\w.cell? ⟨b,2,none⟩=l[2]?/\w.cell? ⟨b,3,none⟩=l[3]?/\w.cell? ⟨b,4,none⟩=l[4]?:=⟨h.cell 0,h.cell 1,h.cell 2,h.cell 3,h.cell 4⟩
def Blk.f10{w:Aw}(h:Blk w b l t):w.cell? ⟨b,0,none⟩=l[0]?/\w.cell? ⟨b,1,none⟩=l[1]?/\w.cell? ⟨b,2,none⟩=l[2]?/\w.cell? ⟨b,3,none⟩=l[3]?/\w.cell? ⟨b,4,none⟩=l[4]?/\w.cell? ⟨b,5,none⟩=l[5]?/\w.cell? ⟨b,6,none⟩=l[6]?/\w.cell? ⟨b,7,none⟩=l[7]?/\w.cell? ⟨b,8,none⟩=l[8]?/\w.cell? ⟨b,9,none⟩=l[9]?:=⟨h.cell 0,h.cell 1,h.cell 2,h.cell 3,h.cell 4,h.cell 5,h.cell 6,h.cell 7,h.cell 8,h.cell 9⟩
def Blk.lt{w:Aw}(h:Blk w b cs t):b<w.heap.size:=by
 unfold Blk at h;exact(Array.getElem?_eq_some_iff.1 h).1
def Blk.set{w:Aw}(h:Blk w b cs t)(o:Nat)(v:Ax):Blk (w.setCell ⟨b,o,none⟩ v) b (cs.set o v) t:=by
 unfold Blk at *;simp[World.setCell,Array.getElem?_modify,h]
def G_:=@Blk.set
def Blk.ot{w:Aw}(h:Blk w b cs t){a:Addr}(v:Ax)(hb:b≠a.block):Blk (w.setCell a v) b cs t:=by
 unfold Blk at *;rw[Below.heap_setCell _ _ _ _ hb];exact h
def T_:=@Blk.ot
def Blk.alloc{w:Aw}(h:Blk w b cs t)(o:Obj):Blk (w.alloc o) b cs t:=by
 have hl:=h.lt;unfold Blk at *;rw[Below.heap_alloc _ _ _ hl];exact h
def E_:=@Blk.alloc
def Blk.drew{w:Aw}(h:Blk w b cs t):Blk w.drew b cs t:=h
def Blk.new(w:Aw)(cs:Dy)(t:Av):Blk (w.alloc (.cells cs t)) w.heap.size cs.toList t:=by
 show(w.heap.push _)[w.heap.size]?=_;simp
def B_:=@Blk.new
structure Fr(w w':Aw)(S:Az):Prop where
 os:w'.os=w.os
 tape:w'.tape=w.tape
 output:w'.output=w.output
 size:w.heap.size<=w'.heap.size
 block:∀k,k<w.heap.size->¬S k->w'.heap[k]?=w.heap[k]?
def Fr.refl(w:Aw)(S:Az):Fr w w S:=⟨rfl,rfl,rfl,l_,λ_ _ _=>rfl⟩
def A_:=@Fr.refl
def Fr.trans{a b c:Aw}{T:Az}(h:Fr a b S)(k:Fr b c T)(e:∀x,x<a.heap.size->T x->S x):Fr a c S:=
 ⟨k.os.trans h.os,k.tape.trans h.tape,k.output.trans h.output,al_ h.size k.size,λi hi d=>(k.block i (bl_ hi h.size) (λt=>d (e i hi t))).trans (h.block i hi d)⟩
def Fr.mono{a b:Aw}{T:Az}(h:Fr a b S)(d:∀x,x<a.heap.size->S x->T x):Fr a b T:=
 ⟨h.os,h.tape,h.output,h.size,λi hi hn=>h.block i hi (λs=>hn (d i hi s))⟩
def Fr.drew{a b:Aw}(h:Fr a b S):Fr a b.drew S:=⟨h.os,h.tape,h.output,h.size,h.block⟩
def Fr.alloc{a b:Aw}(h:Fr a b S)(o:Obj):Fr a (b.alloc o) S:=
 h.trans ⟨rfl,rfl,rfl,by simp,λk hk _=>Below.heap_alloc _ _ _ hk⟩ (T:=λ_=>False) v_
def Fr.setCell{a b:Aw}(h:Fr a b S)(p:Addr)(v:Ax)(hp:p.block<a.heap.size->S p.block):Fr a (b.setCell p v) S:=
 h.trans (T:=λx=>x=p.block) ⟨rfl,rfl,rfl,by simp[World.setCell],λk _ d=>Below.heap_setCell _ _ _ _ d⟩ (λ_ hx e=>e▸hp (e▸hx))
def Fr.gw{a b c:Aw}{row:Option Nat}(h:Fr a b S)(hg:b.grownBy c row)(hr:∀k,row=some k->k<a.heap.size->S k):Fr a c S:=
 h.trans (T:=λx=>row=some x) ⟨hg.os,hg.tape,hg.output,hg.size,λk hk d=>hg.block k hk (λe=>d e.symm)⟩ (λx hx e=>hr x e hx)
def Y_:=@Fr.gw
def Fr.bl{w:Aw}(h:Fr w w' S)(hb:Blk w b cs t)(d:¬S b):Blk w' b cs t:=by
 have:=h.block b hb.lt d;unfold Blk at *;rw[this];exact hb
def pk(s:BA)(i:Nat)(bad:Aq):Int:=
 if bad=true then 0 else if h:i<s.size then ((s[i]'h).toNat:Int) else 0
structure RV where
 i:Nat
 bad:Bool
 u:Value
 wr:Int
 mx:Int
def RV.cells(s:BA)(bz:Nat)(σ:RV):List Value:=
 [.string s,Z_ σ.i,.bool σ.bad,P_ bz,σ.u,Z_ σ.wr,Z_ σ.mx]
def RAt(w:Aw)(br:Nat)(s:BA)(bz:Nat)(σ:RV):Prop:=Blk w br (σ.cells s bz) 68
section
variable {w:Aw} {br:Nat} {s:BA} {bz:Nat} {σ:RV}
def RAt.c0(h:RAt w br s bz σ):w.cell? ⟨br,0,none⟩=some (.string s):=by rw[F_ h];rfl
def RAt.c1(h:RAt w br s bz σ):w.cell? ⟨br,1,none⟩=some (Z_ σ.i):=by rw[F_ h];rfl
def RAt.c2(h:RAt w br s bz σ):w.cell? ⟨br,2,none⟩=some (.bool σ.bad):=by rw[F_ h];rfl
def RAt.c3(h:RAt w br s bz σ):w.cell? ⟨br,3,none⟩=some (P_ bz):=by rw[F_ h];rfl
def RAt.c4(h:RAt w br s bz σ):w.cell? ⟨br,4,none⟩=some σ.u:=by rw[F_ h];rfl
def RAt.c5(h:RAt w br s bz σ):w.cell? ⟨br,5,none⟩=some (Z_ σ.wr):=by rw[F_ h];rfl
def RAt.c6(h:RAt w br s bz σ):w.cell? ⟨br,6,none⟩=some (Z_ σ.mx):=by rw[F_ h];rfl
def RAt.setI(h:RAt w br s bz σ)(n:Nat):RAt (w.setCell ⟨br,1,none⟩ (Z_ n)) br s bz { σ with i:=n }:=G_ h 1 _
def RAt.setBad(h:RAt w br s bz σ)(x:Aq):RAt (w.setCell ⟨br,2,none⟩ (.bool x)) br s bz { σ with bad:=x }:=G_ h 2 _
def RAt.setU(h:RAt w br s bz σ)(x:Ax):RAt (w.setCell ⟨br,4,none⟩ x) br s bz { σ with u:=x }:=G_ h 4 _
def RAt.setWr(h:RAt w br s bz σ)(x:Int):RAt (w.setCell ⟨br,5,none⟩ (Z_ x)) br s bz { σ with wr:=x }:=G_ h 5 _
def RAt.setMx(h:RAt w br s bz σ)(x:Int):RAt (w.setCell ⟨br,6,none⟩ (Z_ x)) br s bz { σ with mx:=x }:=G_ h 6 _
end
def RAt.th{w:Aw}{br:Nat}{s:BA}{bz:Nat}{σ:RV}(h:RAt w br s bz σ)(o:Nat):w.frozen? ⟨br,o,none⟩=false:=Blk.th h o
def Fr.one(w:Aw)(p:Addr)(v:Ax):Fr w (w.setCell p v) (· = p.block):=(A_ w _).setCell p v (λ_=>rfl)
def X_:=@Fr.one
def xf(c lo hi:Int)(w:Aw):Calls prog 34 #[.int .u8 c,.int .u8 lo,.int .u8 hi] w λe w'=>e=.returned (.bool (decide (lo<=c)&&decide (c<=hi)))/\w'=w:=by
 go_in;go_wp2
 .go_ret;rename_i h;exact⟨by simp[h],rfl⟩
 .go_ret;rename_i h;exact⟨by simp[show ¬lo<=c by omega],rfl⟩
def zq(w w':Aw):Prop:=∃n,w'=w.drewN n
def zq.refl(w:Aw):zq w w:=⟨0,rfl⟩
def zq.drewN(w:Aw)(n:Nat):zq w (w.drewN n):=⟨n,rfl⟩
def zq.drew(w:Aw):zq w w.drew:=⟨1,rfl⟩
def zq.trans{a b c:Aw}(h:zq a b)(k:zq b c):zq a c:=by
 obtain⟨n,rfl⟩:=h;obtain⟨m,rfl⟩:=k;exact⟨n+m,by simp[World.drewN,bd_]⟩
def wN{w:Aw}{br:Nat}{s:BA}{bz:Nat}{σ:RV}(h:RAt w br s bz σ)(_hs:s.size<=300)(hi:σ.i<=300):Calls prog 35 #[P_ br] w λe w'=>e=.returned (.int .u8 (pk s σ.i σ.bad))/\zq w w':=by
 obtain⟨c0,c1,c2⟩:=h.d3;rcases σ with⟨i,bad,u,wr,mx⟩;simp only at c1 c2 hi⊢;cases bad with
 |true=>
  go_in;go_wp2;go_quiet (fail);go_wp2;go_ret;exact⟨by simp[pk],_,rfl⟩
 |false=>
  by_cases hl:i<s.size
  .have d:(i:Int)<(s.size:Int):=M_;go_in;go_wp2;go_quiet (fail);go_wp2;go_quiet (fail);go_wp2;go_ret;exact⟨by simp[pk,hl],(zq.drewN _ _).trans (zq.drewN _ _)⟩
  .go_in;go_wp2;go_quiet (fail);go_wp2;go_ret;refine⟨by simp[pk];omega,?_⟩;exact⟨_,rfl⟩
def RV.eat(s:BA)(c:Int)(σ:RV):RV:=if pk s σ.i σ.bad=c then { σ with i:=σ.i+1 } else { σ with bad:=true }
def RAt.si{w:Aw}{br:Nat}{s:BA}{bz:Nat}{σ:RV}(h:RAt w br s bz σ)(hw:zq w w'):RAt w' br s bz σ:=by
 obtain⟨n,rfl⟩:=hw;exact h
def Fr.si{a w:Aw}(h:Fr a w S)(hw:zq w w'):Fr a w' S:=by
 obtain⟨n,rfl⟩:=hw;exact⟨h.os,h.tape,h.output,h.size,h.block⟩
def FI{w:Aw}{br:Nat}{s:BA}{bz:Nat}{σ:RV}{c:Int}(h:RAt w br s bz σ)(hs:s.size<=300)(hi:σ.i<=300):Calls prog 36 #[P_ br,.int .u8 c] w λe w'=>e=.returned (.tuple #[])/\RAt w' br s bz (σ.eat s c)/\Fr w w' (· = br):=by
 go_in;go_wp2_with (go_at_call 35;apply(wN h hs hi).mono;rintro e w' ⟨rfl,hw⟩;have d:=h.si hw;have c1:=d.c1;have c2:=d.c2;have f:=d.th 1;have g:=d.th 2)
 .go_end0;rename_i hc;exact⟨rfl,by rw[RV.eat,i_ z8_];exact d.setI (σ.i+1),((A_ w _).si hw).setCell _ _ (λ_=>rfl)⟩
 .go_end0;rename_i hc;exact⟨rfl,by rw[RV.eat,n_ z8_];exact d.setBad true,((A_ w _).si hw).setCell _ _ (λ_=>rfl)⟩
def RV.wrong(at_:Int)(σ:RV):RV:=if σ.wr<0\/at_<σ.wr then { σ with wr:=at_ } else σ
def Vc{w:Aw}{br:Nat}{s:BA}{bz:Nat}{σ:RV}{d:Int}(h:RAt w br s bz σ):Calls prog 21 #[P_ br,Z_ d] w λe w'=>e=.returned (.tuple #[])/\RAt w' br s bz (σ.wrong d)/\Fr w w' (· = br):=by
 have c5:=h.c5;have f5:=h.th 5;by_cases h1:σ.wr<0
 .go_in;go_wp2;go_end0;exact⟨rfl,by rw[RV.wrong,i_ (.inl h1)];exact RAt.setWr h d,(A_ w _).setCell _ _ (λ_=>rfl)⟩
 .by_cases f:d<σ.wr
  .go_in;go_wp2;go_end0;exact⟨rfl,by rw[RV.wrong,i_ (.inr f)];exact RAt.setWr h d,(A_ w _).setCell _ _ (λ_=>rfl)⟩
  .go_in;go_wp2;go_end0;exact⟨rfl,by rw[RV.wrong,n_ (λx=>x.elim (λy=>M_) (λy=>M_))];exact h,A_ w _⟩
def ag(s:BA)(i:Nat):pk s i false=(bt s i:Int):=by
 unfold pk bt;simp;split<;>rfl
def plc(s:BA)(c:Nat):Int:=match s.data.toList.findIdx? (λb=>b.toNat==c) with|some k=>k|none=>-1
open Go.RowKit
def KY{s:BA}{k:Nat}(hk:k<s.size)(hc:bt s k=c)(hn:∀j,j<k->bt s j≠c):plc s c=k:=by
 have:s.data.toList.findIdx? (λb=>b.toNat==c)=some k:=by
  rw[List.findIdx?_eq_some_iff_getElem];refine⟨by simpa using hk,?_,λj f=>?_⟩
  .have:=xO s k hk;simp only[beq_iff_eq];rw[<- hc,this];rfl
  .have d:j<s.size:=M_;have:=xO s j d;have d:=hn j f;simp only[Bool.not_eq_true,beq_eq_false_iff_ne];intro e;apply d;rw[this,<- e];rfl
 simp[plc,this]
def KX{s:BA}(hn:∀j,j<s.size->bt s j≠c):plc s c = -1:=by
 have:s.data.toList.findIdx? (λb=>b.toNat==c)=none:=by
  rw[List.findIdx?_eq_none_iff];intro x hx;obtain⟨k,hk,rfl⟩:=List.getElem_of_mem hx;have d:k<s.size:=by simpa using hk
  have:=hn k d;rw[xO s k d]at this;simp only[beq_eq_false_iff_ne];intro e;apply this;rw[<- e];rfl
 simp[plc,this]
def Uy(s:BA)(c:Nat):-1<=plc s c:=by unfold plc;split<;>omega
def jK(s:BA)(c:Nat)(w:Aw)(hs:s.size<=100000):Calls prog 98 #[.string s,.int .u8 c] w λe w'=>e=.returned (Z_ (plc s c))/\w'=w:=by
 go_in;go_wp2;go_loop [5] (λi=>∃k:Nat,k<=s.size/\i=Z_ k/\H_ (∀j,j<k->bt s j≠c)) (λi=>s.size-(intOf i).toNat);case atStart=>exact⟨0,am_ _,rfl,λj d=>absurd d (Nat.not_lt_zero _)⟩
 case round=>
  obtain⟨k,hk,rfl,hn⟩:=hrel;go_wp2
  .have f:k<s.size:=zq_
   have hc:(((s[k]'f).toNat:Int)==(c:Int))=true:=zq_
   go_ret;have g:bt s k=c:=by rw[xO s k M_];have:=eq_of_beq hc;omega
   have hp:=KY M_ g hn;exact⟨by rw[hp];rfl,rfl⟩
  .have f:k<s.size:=zq_
   have hc:(((s[k]'f).toNat:Int)==(c:Int))=false:=zq_
   go_round;case rel=>
    refine⟨k+1,M_,by go_num,λj d=>?_⟩;by_cases e:j=k
    .subst e;rw[xO s j M_];intro x;rw[<- x]at hc;simp at hc
    .exact hn.o j M_
   case measure=>simp[intOf];omega
  .go_ret;have hp:=KX (s:=s) (c:=c) (λj d=>hn.o j M_);exact⟨by rw[hp];rfl,rfl⟩
def fp(s:BA)(c:Nat)(w:Aw)(hs:s.size<=100000):Calls prog 96 #[.string s,.int .u8 c] w λe w'=>e=.returned (.bool (decide (0<=plc s c)))/\w'=w:=by
 go_in;go_wp2_with (go_at_call 98;apply(jK s c _ hs).mono;rintro e w' ⟨rfl,rfl⟩);go_ret;exact⟨rfl,rfl⟩
def RV.small(s:BA)(σ:RV):RV:=if 97<=pk s σ.i σ.bad/\pk s σ.i σ.bad<=122 then { σ with i:=σ.i+1 } else { σ with bad:=true }
def RV.smallR(s:BA)(σ:RV):Int:=if 97<=pk s σ.i σ.bad/\pk s σ.i σ.bad<=122 then pk s σ.i σ.bad else 0
def VV{w:Aw}{br:Nat}{s:BA}{bz:Nat}{σ:RV}(h:RAt w br s bz σ)(hs:s.size<=300)(hi:σ.i<=300):Calls prog 95 #[P_ br] w λe w'=>e=.returned (.int .u8 (σ.smallR s))/\RAt w' br s bz (σ.small s)/\Fr w w' (· = br):=by
 go_in;go_wp2_with (first
  |(go_at_call 35;apply(wN h hs hi).mono;rintro e w' ⟨rfl,hw⟩;have d:=h.si hw;have c1:=d.c1;have c2:=d.c2;have g:=d.th 1;have k:=d.th 2)
  |(go_at_call 34;apply(xf _ _ _ _).mono;rintro e w' ⟨rfl,rfl⟩))
 .rename_i hc;have f:¬(97<=pk s σ.i σ.bad/\pk s σ.i σ.bad<=122):=zc_
  go_ret;exact⟨by rw[RV.smallR,n_ f];rfl,by rw[RV.small,n_ f];exact d.setBad true,((A_ w _).si hw).setCell _ _ (λ_=>rfl)⟩
 .rename_i hc;have f:97<=pk s σ.i σ.bad/\pk s σ.i σ.bad<=122:=zc_
  go_ret;exact⟨by rw[RV.smallR,i_ f];rfl,by rw[RV.small,i_ f];exact d.setI (σ.i+1),((A_ w _).si hw).setCell _ _ (λ_=>rfl)⟩
end Go.Proofs.YtokgeopihcopeaaGreatDoor
