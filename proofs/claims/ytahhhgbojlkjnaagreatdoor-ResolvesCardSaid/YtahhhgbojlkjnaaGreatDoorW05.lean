import Derived.Test.YtahhhgbojlkjnaaGreatDoorW04
import Derived.Lib.ParseIntB
set_option maxHeartbeats 16000000
set_option maxRecDepth 100000
set_option linter.defProp false
set_option linter.unusedSimpArgs false
open Go.Proofs.Tryz
namespace Go.Proofs.YtahhhgbojlkjnaaGreatDoor
open Go.RowKit
variable {i b:Nat}{w' w5:Aw}{S:Au}{v:Az}{o:Cj}{l:Cd}
def wF(s:BA):Nat->Nat->Option (Nat×Nat)
 | 0,_=>none
 |f+1,i=>
  if i<s.size then
   if bt s i<128 then some (bt s i,i+1)
   else match wF s f (i+1) with
    |none=>none
    |some (z,j)=>if z=0 then none else some (bt s i-128+128*z,j)
  else none
def kB(z:Nat):Int:=if z % 2=1 then -((z / 2:Nat):Int)-1 else ((z / 2:Nat):Int)
def bL(s:BA)(i:Nat):Option (Int×Nat):=
 match wF s 10 i with
 |none=>none
 |some (z,j)=>if z<18446744073709551616 then some (kB z,j) else none
def vu(s:BA)(lo hi:Int)(i:Nat):Option (Int×Nat):=
 match bL s i with
 |none=>none
 |some (n,j)=>if lo<=n/\n<=hi then some (n,j) else none
def vA(s:BA)(i:Nat):Option (Int×Nat):=vu s 0 9223372036854775807 i
def xU(s:BA)(i n:Nat):Option (BA×Nat):=if i+n<=zX s i then some (s.extract i (i+n),i+n) else none
def xn(s:BA)(i:Nat):Option (BA×Nat):=
 match vA s i with
 |none=>none
 |some (n,j)=>xU s j n.toNat
def jW(s:BA)(keyed:Ap)(last:Dw)(i:Nat):Option (BA×Nat):=
 if keyed=true then
  match xn s i with
  |none=>none
  |some (k,j)=>if kH last k=true then some (k,j) else none
 else some (noB,i)
def yS(R:Nat->Nat->Except Nat (DT×Nat×Nat))(s:BA)(keyed:Ap):Nat->Option BA->Nat->Nat->Except Nat (List (BA×DT)×Nat×Nat)
 | 0,_,i,n=>.ok ([],i,n)
 |c+1,last,i,n=>
  match jW s keyed last i with
  |none=>.error 6
  |some (k,i1)=>
   match R i1 n with
   | .error e=>.error e
   | .ok (d,j,m)=>
    match yS R s keyed c (some k) j m with
    | .error e=>.error e
    | .ok (l,j',m')=>.ok ((k,d)::l,j',m')
def ym(R:PT->Nat->Nat->Except Nat (DT×Nat×Nat)):List PT->Nat->Nat->Except Nat (List DT×Nat×Nat)
 | [],i,n=>.ok ([],i,n)
 |t::r,i,n=>
  match R t i n with
  | .error e=>.error e
  | .ok (d,j,m)=>
   match ym R r j m with
   | .error e=>.error e
   | .ok (ds,j',m')=>.ok (d::ds,j',m')
def yX(R:PT->Nat->Nat->Except Nat (DT×Nat×Nat))(s:BA)(pb:PB)(i n:Nat):Except Nat (DT×Nat×Nat):=
 match pb with
 | .recd fs=>match ym R (fs.map PF.ty) i n with | .error e=>.error e | .ok (ds,j,m)=>.ok (.mk 114 0 noB [] ds,j,m)
 | .enum l _=>match vu s 0 ((l.length:Int)-1) i with|none=>.error 6|some (q,j)=>.ok (.mk 101 q noB [] [],j,n)
 | .bytes k=>match xU s i k with|none=>.error 6|some (tx,j)=>.ok (.mk 102 0 tx [] [],j,n)
def vO(R:PT->Nat->Nat->Except Nat (DT×Nat×Nat))(s:BA)(env:Ay)(c i n:Nat):Except Nat (DT×Nat×Nat):=
 if c=110 then .ok (.mk 110 0 noB [] [],i,n)
 else if c=116 then (if i<s.size/\bt s i<=1 then .ok (.mk 116 (bt s i:Int) noB [] [],i+1,n) else .error 6)
 else if c=105 then (match vu s (-2147483648) 2147483647 i with|none=>.error 6|some (q,j)=>.ok (.mk 105 q noB [] [],j,n))
 else if c=108 then (match bL s i with|none=>.error 6|some (q,j)=>.ok (.mk 108 q noB [] [],j,n))
 else if c=115 then (match xn s i with|none=>.error 6|some (tx,j)=>.ok (.mk 115 0 tx [] [],j,n))
 else match env c with|none=>.error 6|some pb=>yX R s pb i n
def qi(R:Nat->Nat->Except Nat (DT×Nat×Nat))(s:BA)(c i n:Nat):Except Nat (DT×Nat×Nat):=
 match vA s i with
 |none=>.error 6
 |some (q,j)=>
  match yS R s (c==123) q.toNat none j n with
  | .error e=>.error e
  | .ok (l,j',m)=>.ok (.mk c 0 noB (if (c==123)=true then l.map Prod.fst else []) (l.map Prod.snd),j',m)
def vH(R:PT->Nat->Nat->Except Nat (DT×Nat×Nat))(s:BA)(ts:Af)(i n:Nat):Except Nat (DT×Nat×Nat):=
 match vu s 0 ((ts.length:Int)-1) i with
 |none=>.error 6
 |some (q,j)=>
  match ts[q.toNat]? with
  |none=>.error 6
  |some t=>match R t j n with | .error e=>.error e | .ok (d,j',m)=>.ok (.mk 40 q noB [] [d],j',m)
def rdB(s:BA)(env:Ay):Nat->PT->Nat->Nat->Except Nat (DT×Nat×Nat)
 | 0,_,_,_=>.error 7
 |f+1,t,i,n=>
  if 300<=n then .error 7
  else match t with
   | .leaf c _=>vO (rdB s env f) s env c i (n+1)
   | .wrap c _ t=>qi (rdB s env f t) s c i (n+1)
   | .alts _ ts=>vH (rdB s env f) s ts i (n+1)
def tY{s:BA}:∀(f i z j:Nat),wF s f i=some (z,j)->i<j/\j<=s.size/\j<=i+f/\z<128 ^ f
 | 0,i,z,j,h=>by simp[wF]at h
 |f+1,i,z,j,h=>by
  unfold wF at h;have h1:1<=128 ^ f:=Nat.one_le_pow _ _ D_;split at h
  .split at h
   .simp only[ae_,ac_]at h;omega
   .split at h
    .simp at h
    .rename_i a j' he;have:=tY f _ _ _ he;have hb:=qD s i;split at h
     .simp at h
     .simp only[ae_,ac_]at h;omega
  .simp at h
def fF{s:BA}{n:Int}{j:Nat}(h:bL s i=some (n,j)):i<j/\j<=s.size/\-9223372036854775808<=n/\n<=9223372036854775807:=by
 unfold bL at h;split at h
 .simp at h
 .rename_i z j' he;have:=tY _ _ _ _ he;split at h
  .simp only[ae_,ac_]at h;obtain⟨h1,a⟩:=h;unfold kB at h1;split at h1<;>omega
  .simp at h
def yU{s:BA}{lo a:Int}{n:Int}{j:Nat}(h:vu s lo a i=some (n,j)):i<j/\j<=s.size/\lo<=n/\n<=a/\-9223372036854775808<=n/\n<=9223372036854775807:=by
 unfold vu at h;split at h
 .simp at h
 .rename_i z j' he;have:=fF he;split at h
  .simp only[ae_,ac_]at h;omega
  .simp at h
def pg{s:BA}(h:i<=s.size):zX s i<=s.size:=(xz 97 122 s _ i l_).2 h
def qS{s:BA}{n:Nat}{tx:BA}{j:Nat}(a:i<=s.size)(h:xU s i n=some (tx,j)):i<=j/\j<=s.size/\j=i+n/\tx.size=n:=by
 unfold xU at h;have hl:=pg a;split at h
 .simp only[ae_,ac_]at h;obtain⟨rfl,rfl⟩:=h;rw[a3_];omega
 .simp at h
def ko{s:BA}{tx:BA}{j:Nat}(h:xn s i=some (tx,j)):i<j/\j<=s.size/\tx.size<=s.size:=by
 unfold xn at h;split at h
 .simp at h
 .rename_i n j' he;have h1:=yU he;have a:=qS M_ h;omega
def Vd{s:BA}{keyed:Ap}{e:Dw}{k:BA}{j:Nat}(a:i<=s.size)(h:jW s keyed e i=some (k,j)):i<=j/\j<=s.size/\k.size<=s.size:=by
 unfold jW at h;split at h
 .split at h
  .simp at h
  .rename_i f j' he;have:=ko he;split at h
   .simp only[ae_,ac_]at h;obtain⟨rfl,rfl⟩:=h;omega
   .simp at h
 .simp only[ae_,ac_]at h;obtain⟨rfl,rfl⟩:=h;exact⟨l_,a,aj_ _⟩
def QA(s:BA)(R:Nat->Nat->Except Nat (DT×Nat×Nat)):Prop:=∀i n d j m,i<=s.size->n<=300->R i n=.ok (d,j,m)->i<=j/\j<=s.size/\n<m/\m<=300
def mU{s:BA}{R:Nat->Nat->Except Nat (DT×Nat×Nat)}(f:QA s R){keyed:Ap}:∀(c:Nat) (a:Option BA) (i n:Nat) (l:List (BA×DT)) (j m:Nat),i<=s.size->n<=300->yS R s keyed c a i n=.ok (l,j,m)->i<=j/\j<=s.size/\n+l.length<=m/\m<=300/\l.length=c
 | 0,a,i,n,l,j,m,hi,hn,h=>by
  simp only[yS,ag_,ac_]at h;obtain⟨rfl,rfl,rfl⟩:=h;simp;omega
 |c+1,a,i,n,l,j,m,hi,hn,h=>by
  unfold yS at h;split at h
  .simp at h
  .rename_i k g hk;have h1:=Vd hi hk;split at h
   .simp at h
   .rename_i d p u hd;have e:=f _ _ _ _ _ h1.2.1 hn hd;split at h
    .simp at h
    .rename_i q j' t he;have:=mU f c _ _ _ _ _ _ e.2.1 e.2.2.2 he;simp only[ag_,ac_]at h;obtain⟨rfl,rfl,rfl⟩:=h;simp only[au_];omega
def bI{s:BA}{R:PT->Nat->Nat->Except Nat (DT×Nat×Nat)}(e:∀t,QA s (R t)):∀(ts:List PT) (i n:Nat) (l:List DT) (j m:Nat),i<=s.size->n<=300->ym R ts i n=.ok (l,j,m)->i<=j/\j<=s.size/\n+l.length<=m/\m<=300/\l.length=ts.length
 | [],i,n,l,j,m,hi,hn,h=>by
  simp only[ym,ag_,ac_]at h;obtain⟨rfl,rfl,rfl⟩:=h;simp;omega
 |t::r,i,n,l,j,m,hi,hn,h=>by
  unfold ym at h;split at h
  .simp at h
  .rename_i d f q hd;have a:=e t _ _ _ _ _ hi hn hd;split at h
   .simp at h
   .rename_i g j' p he;have:=bI e r _ _ _ _ _ a.2.1 a.2.2.2 he;simp only[ag_,ac_]at h;obtain⟨rfl,rfl,rfl⟩:=h;simp only[au_];omega
def qj(s:BA)(env:Ay):∀(f:Nat) (t:PT),QA s (rdB s env f t):=by
 intro f;induction f with
 |zero=>intro t i n d j m _ _ h;simp[rdB]at h
 |succ f ih=>
  intro t i n d j m e hn h;unfold rdB at h;split at h
  .simp at h
  .rename_i y;split at h
   .rename_i c p;unfold vO at h;split at h
    .simp only[ag_,ac_]at h;omega
    .split at h
     .split at h
      .simp only[ag_,ac_]at h;omega
      .simp at h
     .split at h
      .split at h
       .simp at h
       .rename_i q a he;have:=yU he;simp only[ag_,ac_]at h;omega
      .split at h
       .split at h
        .simp at h
        .rename_i q a he;have:=fF he;simp only[ag_,ac_]at h;omega
       .split at h
        .split at h
         .simp at h
         .rename_i q a he;have:=ko he;simp only[ag_,ac_]at h;omega
        .split at h
         .simp at h
         .rename_i pb z;unfold yX at h;split at h
          .split at h
           .simp at h
           .rename_i ds a C he;have:=bI ih _ _ _ _ _ _ e M_ he;simp only[ag_,ac_]at h;omega
          .split at h
           .simp at h
           .rename_i q a he;have:=yU he;simp only[ag_,ac_]at h;omega
          .split at h
           .simp at h
           .rename_i q a he;have:=qS e he;simp only[ag_,ac_]at h;omega
   .rename_i c p t;unfold qi at h;split at h
    .simp at h
    .rename_i q a he;have h1:=yU he;split at h
     .simp at h
     .rename_i l g u hl;have:=mU (ih t) _ _ _ _ _ _ _ h1.2.1 M_ hl;simp only[ag_,ac_]at h;omega
   .rename_i p ts;unfold vH at h;split at h
    .simp at h
    .rename_i q a he;have h1:=yU he;split at h
     .simp at h
     .rename_i t A;split at h
      .simp at h
      .rename_i x g u hd;have:=ih t _ _ _ _ _ h1.2.1 M_ hd;simp only[ag_,ac_]at h;omega
def dv:List UInt8->Nat
 | []=>0
 |c::r=>(c.toNat-48)*10 ^ r.length+dv r
def qR(l:Cd):Prop:=∀c∈l,48<=c.toNat/\c.toNat<=57
def qR.tail{c:UInt8}{r:Cd}(h:qR (c::r)):qR r:=λx hx=>h x (cb_ _ hx)
def mK:∀{l:List UInt8},qR l->dv l<10 ^ l.length
 | [],_=>by simp[dv]
 |c::r,h=>by
  have h1:=mK h.tail;have a:=h c (bi_ ..);have a:(c.toNat-48)*10 ^ r.length<=9*10 ^ r.length:=b1_ _ M_;simp only[dv,au_,Nat.pow_succ];omega
def Yr{c:UInt8}{r:Cd}(hc:49<=c.toNat):10 ^ r.length<=dv (c::r):=by
 have a:1*10 ^ r.length<=(c.toNat-48)*10 ^ r.length:=b1_ _ M_;simp only[dv];omega
def Zi:∀{a b:List UInt8},a.length=b.length->qR a->qR b->(Op.bytesLess a b=true↔dv a<dv b)/\(a=b↔dv a=dv b)
 | [],[],_,_,_=>by simp[Op.bytesLess,dv]
 | [],_::_,h,_,_=>by simp at h
 | _::_,[],h,_,_=>by simp at h
 |x::a,y::b,h,ha,hb=>by
  have hl:a.length=b.length:=by simpa using h
  obtain⟨A,C⟩:=Zi hl ha.tail hb.tail;have hx:=ha x (bi_ ..);have hy:=hb y (bi_ ..);have g:=mK ha.tail;have q:=mK hb.tail;rw[hl]at g;have z:(x<y)↔x.toNat<y.toNat:=UInt8.lt_iff_toNat_lt;have t:(x=y)↔x.toNat=y.toNat:=UInt8.toNat_inj.symm;simp only[Op.bytesLess,dv,hl,av_,a0_,decide_eq_true_eq,beq_iff_eq,List.cons.injEq];rw[z,t,A,C];generalize 10 ^ b.length=p at g q⊢;generalize dv a=u at g⊢;generalize dv b=v at q⊢;generalize x.toNat=m at hx⊢;generalize y.toNat=n at hy⊢;rcases Nat.lt_trichotomy m n with h|h|h
  .have f:(m-48+1)*p<=(n-48)*p:=b1_ _ M_;rw[Nat.add_mul,Nat.one_mul]at f;exact⟨⟨λ_=>M_,λ_=>.inl h⟩,⟨λe=>M_,λe=>M_⟩⟩
  .subst h;exact⟨⟨λe=>M_,λe=>.inr ⟨rfl,M_⟩⟩,⟨λe=>M_,λe=>⟨rfl,M_⟩⟩⟩
  .have f:(n-48+1)*p<=(m-48)*p:=b1_ _ M_;rw[Nat.add_mul,Nat.one_mul]at f;exact⟨⟨λe=>M_,λe=>M_⟩,⟨λe=>M_,λe=>M_⟩⟩
def Gn{t T:Cd}{c d:UInt8}{r R:Cd}(f:t=c::r)(a:T=d::R)(dt:qR t)(g:qR T)(hc:¬(c.toNat=48/\1<t.length))(hd:49<=d.toNat):(t.length<=T.length/\(t.length=T.length->(!Op.bytesLess t T && !(t==T))=false))↔dv t<=dv T:=by
 have lt:=mK dt;have m:=mK g;have m:10 ^ R.length<=dv T:=by rw[a];exact Yr hd
 rcases Nat.lt_trichotomy t.length T.length with h|h|h
 .have h1:10 ^ t.length<=10 ^ R.length:=Nat.pow_le_pow_right D_ (by rw[a]at h;simp at h;omega);exact⟨λ_=>M_,λ_=>⟨M_,λe=>M_⟩⟩
 .obtain⟨p,q⟩:=Zi h dt g;constructor
  .rintro⟨_,g⟩;have m:=g h;by_cases hb:Op.bytesLess t T=true
   .have:=p.1 hb;omega
   .by_cases he:t=T
    .have:=q.1 he;omega
    .simp[hb,he]at m
  .intro u;refine⟨M_,λ_=>?_⟩;by_cases hb:Op.bytesLess t T=true
   .simp[hb]
   .have u:¬dv t<dv T:=λe=>hb (p.2 e);have he:t=T:=q.2 M_;simp[he]
 .have h1:49<=c.toNat:=by
   have:=dt c (by rw[f];exact bi_ ..);have p:0<T.length:=by rw[a];simp
   omega
  have g:10 ^ r.length<=dv t:=by rw[f];exact Yr h1
  have m:10 ^ T.length<=10 ^ r.length:=Nat.pow_le_pow_right D_ (by rw[f]at h;simp at h;omega);exact⟨λ⟨e,_⟩=>M_,λe=>M_⟩
def cB:∀{l:List UInt8}{acc:Nat},qR l->acc<=2 ^ 64-1->
 Lib.parseUintM (2 ^ 64-1) acc l=if acc*10 ^ l.length+dv l<=2 ^ 64-1 then .ok (acc*10 ^ l.length+dv l) else .range
 | [],acc,_,h=>by simp only[Lib.parseUintM,dv,ar_,Nat.pow_zero,Nat.mul_one,bs_];rw[i_ h]
 |c::r,acc,hd,h=>by
  have hc:=hd c (bi_ ..);have e:acc*10 ^ (c::r).length+dv (c::r)=(acc*10+(c.toNat-48))*10 ^ r.length+dv r:=by
   simp only[dv,au_,Nat.pow_succ,Nat.add_mul];rw[Nat.mul_assoc acc 10,a7_ 10 (10 ^ r.length)];omega
  have hp:1<=10 ^ r.length:=Nat.one_le_pow _ _ D_;have a:acc*10+(c.toNat-48)<=(acc*10+(c.toNat-48))*10 ^ r.length:=by
   have:=cc_ (acc*10+(c.toNat-48)) hp;omega
  rw[e];unfold Lib.parseUintM;rw[i_ hc];by_cases h1:1844674407370955162<=acc
  .rw[i_ h1,n_ M_]
  .rw[n_ h1];by_cases a:2 ^ 64-1<acc*10+(c.toNat-48)
   .rw[i_ a,n_ M_]
   .rw[n_ a];exact cB hd.tail M_
def dH(hl:l≠[])(hd:qR l):Lib.parseUintB 64 l=if dv l<=2 ^ 64-1 then .ok (dv l) else .range:=by
 unfold Lib.parseUintB;rw[n_ hl,cB hd M_];simp
def Yb(hl:l≠[])(hd:qR l):Lib.parseIntB 64 l=if dv l<2 ^ 63 then .ok (dv l:Int) else .range:=by
 cases l with
 |nil=>exact absurd rfl hl
 |cons c r=>
  have hc:=hd c (bi_ ..);unfold Lib.parseIntB;simp only;rw[n_ M_,dH x8_ hd];by_cases h1:dv (c::r)<2 ^ 63
  .rw[i_ h1,i_ M_];simp only;rw[n_ M_,n_ M_,n_ M_]
  .rw[n_ h1];by_cases a:dv (c::r)<=2 ^ 64-1
   .rw[i_ a];simp only;rw[i_ M_]
   .rw[n_ a]
def Yu(hl:l≠[])(hd:qR l):Lib.parseIntB 64 (45::l)=if dv l<=2 ^ 63 then .ok (-(dv l:Int)) else .range:=by
 unfold Lib.parseIntB;simp only;rw[i_ D_,dH hl hd];by_cases h1:dv l<=2 ^ 63
 .rw[i_ h1,i_ M_];simp only;rw[n_ (λh=>h.1 D_),n_ M_,i_ D_]
 .rw[n_ h1];by_cases a:dv l<=2 ^ 64-1
  .rw[i_ a];simp only;rw[n_ (λh=>h.1 D_),i_ ⟨D_,M_⟩]
  .rw[n_ a]
def rH(kd:Nat)(neg:Ap):Nat:=if kd=105 then (if neg=true then 2147483648 else 2147483647) else (if neg=true then 9223372036854775808 else 9223372036854775807)
def YR(kd:Nat)(neg:Ap):∃d R,(qO kd neg).data.toList=d::R/\qR (qO kd neg).data.toList/\49<=d.toNat/\dv (qO kd neg).data.toList=rH kd neg:=by
 unfold qO rH;by_cases h:kd=105<;>cases neg<;>simp only[h,if_true,if_false,a2_]
 all_goals exact⟨_,_,rfl,(by unfold qR;decide),D_,D_⟩
def Ys{t:BA}{c:UInt8}{r:Cd}(h:t.data.toList=c::r):bt t 0=c.toNat:=by
 obtain⟨⟨l⟩⟩:=t;simp only at h;subst h;rfl
def dO{kd:Nat}{neg:Ap}{t:BA}(hd:qR t.data.toList):kh kd neg t↔0<t.size/\¬(bt t 0=48/\(1<t.size\/neg=true))/\dv t.data.toList<=rH kd neg:=by
 obtain⟨d,R,h1,h,m,a⟩:=YR kd neg;have hz:∀x:BA,x.size=x.data.toList.length:=λx=>Array.length_toList.symm;unfold kh;rw[ByteArray.toList_eq,ByteArray.toList_eq,<- a];constructor
 .rintro⟨a,g2,f⟩;refine⟨a,g2,?_⟩;cases hl:t.data.toList with
  |nil=>have g:=hz t;rw[hl,ar_]at g;omega
  |cons c r=>
   rw[<- hl];have hb:=Ys hl;exact(Gn hl h1 hd h yv_ m).1 (by rw[<- hz,<- hz];exact f)
 .rintro⟨a,g2,f⟩;refine⟨a,g2,?_⟩;cases hl:t.data.toList with
  |nil=>have g:=hz t;rw[hl,ar_]at g;omega
  |cons c r=>
   rw[<- hl];have hb:=Ys hl;have:=(Gn hl h1 hd h yv_ m).2 f;rw[<- hz,<- hz]at this;exact this
def qF(lo e:Nat)(s:BA):∀n i,s.size-i<=n->∀k,i<=k->k<zU lo e s i->lo<=bt s k/\bt s k<=e:=by
 intro n;induction n with
 |zero=>
  intro i hn k h1 a;by_cases hb:lo<=bt s i/\bt s i<=e
  .by_cases hk:k=i
   .subst hk;exact hb
   .unfold zU at a;simp only[dif_neg (show ¬i<s.size by omega)]at a;omega
  .rw[vX hb]at a;omega
 |succ n ih=>
  intro i hn k h1 a;by_cases hb:lo<=bt s i/\bt s i<=e
  .by_cases e:i<s.size
   .rw[kL e hb]at a;by_cases hk:k=i
    .subst hk;exact hb
    .exact ih (i+1) M_ k M_ a
   .exact ih i M_ k h1 a
  .rw[vX hb]at a;omega
def mQ{s:BA}{a:Nat}{c:UInt8}(h:c∈(s.extract a b).data.toList):∃k,a<=k/\k<b/\bt s k=c.toNat:=by
 rw[Array.mem_toList_iff,Array.mem_iff_getElem]at h;obtain⟨q,e,he⟩:=h;have f:q<(s.extract a b).size:=e;rw[a3_]at f;refine⟨a+q,M_,M_,?_⟩;unfold bt;rw[dif_pos M_,<- he]
 congr 1
 exact(ByteArray.getElem_extract ..).symm
def rk(s:BA)(i:Nat):qR (s.extract i (zU 48 57 s i)).data.toList:=by
 intro c hc;obtain⟨k,h1,a,e⟩:=mQ hc;have:=qF 48 57 s _ i l_ k h1 a;omega
def bM{s:BA}{e:Nat}(h1:i<e)(a:e<=s.size):(s.extract i e).data.toList=(s[i]' M_)::(s.extract (i+1) e).data.toList:=by
 obtain⟨⟨l⟩⟩:=s;have hl:e<=l.length:=a;simp only[cj_,List.extract_toArray,List.extract_eq_take_drop];have hd:l.drop i=l[i]::l.drop (i+1):=bc_ M_;rw[hd,show e-i=(e-(i+1))+1 by omega,List.take_succ_cons];rfl
def loV(kd:Nat):Int:=if kd=105 then -2147483648 else -9223372036854775808
def hiV(kd:Nat):Int:=if kd=105 then 2147483647 else 9223372036854775807
def eF{s:BA}{kd:Nat}(h0:0<(yv s i).size)(hz:¬(bt (yv s i) 0=48/\(1<(yv s i).size\/xP s i=true))):kh kd (xP s i) (yv s i)↔∃v,Lib.parseIntB 64 (s.extract i (yY s i)).data.toList=.ok v/\loV kd<=v/\v<=hiV kd:=by
 have hd:qR (yv s i).data.toList:=rk s (sgn s i);have p:(yv s i).data.toList≠[]:=by
  intro e;have hs:(yv s i).size=(yv s i).data.toList.length:=Array.length_toList.symm;rw[e,ar_]at hs;omega
 rw[dO hd];by_cases h45:bt s i=45
 .have f:xP s i=true:=by unfold xP;rw[h45];rfl
  have h:i<s.size:=by
   by_cases a:i<s.size
   .exact a
   .unfold bt at h45;rw[dif_neg a]at h45;exact absurd h45 D_
  have hs:sgn s i=i+1:=z6_
  have a:=xz 48 57 s _ (i+1) l_;have he:(s.extract i (yY s i)).data.toList=45::(yv s i).data.toList:=by
   unfold yv yY;rw[hs,bM M_ (a.2 M_)]
   congr 1
   unfold bt at h45;rw[dif_pos h]at h45;exact UInt8.toNat_inj.1 h45
  rw[he,Yu p hd,f];generalize dv (yv s i).data.toList=n;unfold rH loV hiV;rw[f]at hz;constructor
  .rintro⟨_,_,g⟩;refine⟨-(n:Int),?_,?_,?_⟩
   .rw[i_ (by split at g<;>simp at g<;>omega)]
   .split at g<;>simp at g<;>simp_all<;>omega
   .split<;>omega
  .rintro⟨v,a,h,m⟩;refine⟨h0,hz,?_⟩;split at a
   .cases a;split at h<;>simp_all<;>omega
   .cases a
 .have f:xP s i=false:=by
   unfold xP;exact beq_eq_false_iff_ne.2 M_
  have hs:sgn s i=i:=z7_
  have he:s.extract i (yY s i)=yv s i:=by unfold yv;rw[hs]
  rw[he,Yb p hd,f];generalize dv (yv s i).data.toList=n;unfold rH loV hiV;rw[f]at hz;constructor
  .rintro⟨_,_,g⟩;refine⟨(n:Int),?_,?_,?_⟩
   .rw[i_ (by split at g<;>simp at g<;>omega)]
   .split<;>omega
   .split at g<;>simp at g<;>simp_all<;>omega
  .rintro⟨v,a,h,m⟩;refine⟨h0,hz,?_⟩;split at a
   .cases a;split at m<;>simp_all<;>omega
   .cases a
def zq(k:Nat)(n:Int)(tx:BA)(vk vs:Ax):List Value:=[U_ k,Z_ n,.string tx,vk,vs]
inductive zF (w:Aw) (P:Au):DT->List Value->Prop
 |mk {k:Nat} {n:Int} {tx:BA} {ks:List BA} {ds:List DT} {vk vs:Value} (X:Nat->List Value)
  (hk:w.ownsRow 0 9 1 vk ks.length (ks.map Value.string)) (hkP:∀g,vk.ownBlock=some g->P g)
  (hs:w.ownsRow 0 32 5 vs ds.length ((List.range ds.length).flatMap X)) (hsP:∀g,vs.ownBlock=some g->P g)
  (hd:∀i d,ds[i]?=some d->zF w P d (X i)):zF w P (.mk k n tx ks ds) (zq k n tx vk vs)
def zF.mono{w:Aw}{P Q:Au}{d:DT}(h:zF w P d v)(a:∀g,g<w.heap.size->P g->Q g):zF w Q d v:=by
 induction h with
 |mk X hk hkP hs hsP hd ih=>exact .mk X hk (λg e=>a g (hk.lt g e).2 (hkP g e)) hs (λg e=>a g (hs.lt g e).2 (hsP g e)) ih
def zF.fr{w:Aw}{P:Au}{d:DT}(h:zF w P d v)(f:Fr w w' S)(a:∀g,P g->¬S g):zF w' P d v:=by
 induction h with
 |mk X hk hkP hs hsP hd ih=>exact .mk X (zk hk f (λg e=>a g (hkP g e))) hkP (zk hs f (λg e=>a g (hsP g e))) hsP ih
def zF.len{w:Aw}{P:Au}{d:DT}(h:zF w P d v):v.length=5:=by cases h;rfl
def cq34_{p:Prop}(h:p:=by
 generalize a:zq k n tx vk vs=v at h;cases h with
 |mk X hk hkP hs hsP hd=>
  simp only[zq,List.cons.injEq,and_true]at a;obtain⟨_,_,_,rfl,rfl⟩:=a;exact .mk X hk hkP hs hsP hd):p:=h
def zF.kind{w:Aw}{P:Au}{k:Nat}{n:Int}{tx:BA}{ks:Aa}{ds:Ak}{vk vs:Ax}(h:zF w P (.mk k n tx ks ds) (zq k n tx vk vs))(c:Nat):zF w P (.mk c n tx ks ds) (zq c n tx vk vs):=by
 exact cq34_
def zF.bare(w:Aw)(P:Au)(k:Nat)(n:Int)(tx:BA):zF w P (.mk k n tx [] []) (zq k n tx (L_) (L_)):=
 .mk (λ_=>[]) (World.ownsRow_nil _ _ _ _) (λg e=>by simp[Value.ownBlock]at e) (World.ownsRow_nil _ _ _ _) (λg e=>by simp[Value.ownBlock]at e) (λi d h=>by simp at h)
def yP{w:Aw}{base:Nat}{e:As}{size:Nat}{v:Ax}{n:Nat}{xs:Az}(h:w.ownsRow base e size v n xs):w.ownsRow 0 e size v n xs:=by
 refine⟨h.1,?_⟩;rcases h.2 with h0|⟨g,f,m,a,b,c⟩
 .exact .inl h0
 .exact .inr ⟨g,f,m,a,aj_ _,c⟩
def jg(w:Aw)(B:Nat)(P:Au)(vs:Ax)(ds:Ak):Prop:=
 ∃X:Nat->List Value,w.ownsRow B 32 5 vs ds.length ((List.range ds.length).flatMap X)/\∀i d,ds[i]?=some d->zF w P d (X i)
def jg.nil(w:Aw)(B:Nat)(P:Au):jg w B P (L_) []:=⟨λ_=>[],World.ownsRow_nil _ _ _ _,λi d h=>by simp at h⟩
def jg.mono{w:Aw}{B:Nat}{P Q:Au}{vs:Ax}{ds:Ak}(h:jg w B P vs ds)(f:∀g,g<w.heap.size->P g->Q g):jg w B Q vs ds:=by
 obtain⟨X,a,b⟩:=h;exact⟨X,a,λi d e=>(b i d e).mono f⟩
def jg.fr{w:Aw}{B:Nat}{P:Au}{vs:Ax}{ds:Ak}(h:jg w B P vs ds)(f:Fr w w' S)(m:∀g,P g->¬S g)(p:∀g,vs.ownBlock=some g->¬S g):jg w' B P vs ds:=by
 obtain⟨X,a,b⟩:=h;exact⟨X,zk a f p,λi d e=>(b i d e).fr f m⟩
def yo(n:Nat)(X Y:Nat->List Value)(h:∀i,i<n->X i=Y i):(List.range n).flatMap X=(List.range n).flatMap Y:=by
 induction n with
 |zero=>rfl
 |succ n ih=>rw[bt_,bj_,bj_,ih (λi a=>h i M_)];simp[h n M_]
def jg.snoc{w:Aw}{B:Nat}{P:Au}{p:Ax}{ds:Ak}{d:DT}{X:Nat->List Value}(hX:∀i d,ds[i]?=some d->zF w P d (X i))(hd:zF w P d v)(m:Fr w w' S)(f:∀g,P g->¬S g)(ho:w'.ownsRow B 32 5 p (ds.length+1) ((List.range ds.length).flatMap X++v)):jg w' B P p (ds++[d]):=by
 refine⟨λi=>if i<ds.length then X i else v,?_,λi e he=>?_⟩
 .rw[ah_,ap_,bt_,bj_,yo ds.length _ X (λi a=>by simp[a])];simpa using ho
 .by_cases a:i<ds.length
  .rw[ay_ a]at he;simp only[a,if_true];exact(hX i e he).fr m f
  .rw[ax_ M_]at he;have h0:i-ds.length=0:=by
    rcases b6_ (i-ds.length) with h|h
    .exact h
    .rw[bq_ x4_]at he;cases he
   rw[h0]at he;simp only[aa_,ae_]at he;subst he;simp only[a,if_false];exact hd.fr m f
mutual
def isT(ts:Aq)(k:Nat):PT->Prop
 | .leaf c _=>ts[k]?=some ⟨c,[]⟩
 | .wrap c _ t=>∃j,ts[k]?=some ⟨c,[j]⟩/\isT ts j t
 | .alts _ l=>∃js,ts[k]?=some ⟨40,js⟩/\cw ts js l
def cw(ts:List TR)(js:List Nat):List PT->Prop
 | []=>js=[]
 |t::r=>∃j q,js=j::q/\isT ts j t/\cw ts q r
end
def PT.isAlts:PT->Bool
 | .alts _ _=>true
 | _=>false
mutual
def okT(env:Ay):PT->Prop
 | .leaf c _=>zY c=true\/(zZ c=true/\∃pb,env c=some pb)
 | .wrap c _ t=>(c=91\/c=123)/\okT env t
 | .alts _ l=>l≠[]/\eG env l
def eG(env:Ay):List PT->Prop
 | []=>True
 |t::r=>t.isAlts=false/\okT env t/\eG env r
end
def okB(env:Ay):PB->Prop
 | .recd fs=>∀f∈fs,okT env f.ty
 | .enum l _=>(∀c∈l.map Prod.fst,0<c)/\l.length<=300
 | .bytes n=>n<=9
def jr(env:Ay):Prop:=∀c pb,env c=some pb->okB env pb
def mN(w:Aw)(P:Au)(tv:Ax)(ts:Aq):Prop:=
 ∃xs,w.ownsRow 0 57 2 tv ts.length xs/\(∀g,tv.ownBlock=some g->P g)/\
  ∀k t,ts[k]?=some t->∃sv,xs[2*k]?=some (U_ t.kind)/\xs[2*k+1]?=some sv/\w.ownsRow 0 3 1 sv t.subs.length (t.subs.map λ(n:Nat)=>Value.int .i64 (n:Int))/\∀g,sv.ownBlock=some g->P g
def wR(w:Aw)(P:Au)(ts:Aq)(pb:PB)(so:Int)(fv:Ax)(sb:BA)(n:Int):Prop:=
 (∃a m c,fv=.slice a m c)/\(∀g,fv.ownBlock=some g->P g)/\
 match pb with
 | .recd fs=>so=114/\∃xs,w.ownsRow 0 60 10 fv fs.length xs/\∀q f,fs[q]?=some f->∃num:Nat,xs[10*q+1]?=some (Z_ (num:Int))/\isT ts num f.ty
 | .enum l _=>so=101/\sb.data.toList.map UInt8.toNat=l.map Prod.fst
 | .bytes k=>so=102/\n=(k:Int)
structure ZAt(w:Aw)(P:Au)(bz:Nat)(ts:Aq)(env:Ay):Prop where
 zP:P bz
 z:∃tv zs,Blk w bz (tv::zs) 42/\mN w P tv ts/\
  ∀k,k<6->∀pb,env (65+k)=some pb->∃(so:Int) (fv:Value) (sb:BA) (o n:Int),(∀p,p<5->zs[5*k+p]?=[Value.int .u8 so,fv,Value.string sb,Value.int .i64 o,Value.int .i64 n][p]?)/\wR w P ts pb so fv sb n
def mN.fr{w:Aw}{P:Au}{tv:Ax}{ts:Aq}(h:mN w P tv ts)(m:Fr w w' S)(f:∀g,P g->¬S g):mN w' P tv ts:=by
 obtain⟨xs,a,b,c⟩:=h;refine⟨xs,zk a m (λg e=>f g (b g e)),b,λk t p=>?_⟩;obtain⟨sv,c1,c2,c3,c4⟩:=c k t p;exact⟨sv,c1,c2,zk c3 m (λg e=>f g (c4 g e)),c4⟩
def wR.fr{w:Aw}{P:Au}{ts:Aq}{pb:PB}{so:Int}{fv:Ax}{sb:BA}{n:Int}(h:wR w P ts pb so fv sb n)(m:Fr w w' S)(f:∀g,P g->¬S g):wR w' P ts pb so fv sb n:=by
 obtain⟨a,b,c⟩:=h;refine⟨a,b,?_⟩;cases pb with
 |recd fs=>
  obtain⟨c1,xs,c2,c3⟩:=c;exact⟨c1,xs,zk c2 m (λg e=>f g (b g e)),c3⟩
 |enum l o=>exact c
 |bytes k=>exact c
def ZAt.fr{w:Aw}{P:Au}{bz:Nat}{ts:Aq}{env:Ay}(h:ZAt w P bz ts env)(f:Fr w w' S)(e:∀g,P g->¬S g):ZAt w' P bz ts env:=by
 refine⟨h.zP,?_⟩;obtain⟨tv,zs,a,b,c⟩:=h.z;refine⟨tv,zs,f.bl a (e _ h.zP),b.fr f e,λk hk pb hp=>?_⟩;obtain⟨so,fv,sb,o,n,c1,c2⟩:=c k hk pb hp;exact⟨so,fv,sb,o,n,c1,c2.fr f e⟩
def ze{w:Aw}{base:Nat}{e:As}{size:Nat}{v:Ax}{n:Nat}{xs:Az}(h:w.ownsRow base e size v n xs){g cap:Nat}(a:v=S_ g n cap){k:Nat}{x:Ax}(hx:xs[k]?=some x):w.cell? ⟨g,k,none⟩=some x:=by
 have f:k<xs.length:=(am_.1 hx).1;rcases h.2 with⟨hn,_⟩|⟨g',f,f,m,hb,hg,_,_,_,f⟩
 .rw[hn]at a;cases a
 .rw[m]at a;cases a;simp only[World.cell?,hg];rw[<- f,cd_]at hx;split at hx
  .simpa using hx
  .cases hx
def ZAt.type{w:Aw}{P:Au}{bz:Nat}{ts:Aq}{env:Ay}(h:ZAt w P bz ts env){k:Nat}{t:TR}(f:ts[k]?=some t):∃g n e sv,w.cell? ⟨bz,0,none⟩=some (S_ g n e)/\k<n/\w.cell? ⟨g,k*2,none⟩=some (U_ t.kind)/\w.cell? ⟨g,k*2+1,none⟩=some sv/\
  w.ownsRow 0 3 1 sv t.subs.length (t.subs.map λ(n:Nat)=>Value.int .i64 (n:Int))/\∀g,sv.ownBlock=some g->P g:=by
 obtain⟨tv,zs,a,⟨xs,b1,b2,b3⟩,c⟩:=h.z;obtain⟨sv,c1,c2,c3,c4⟩:=b3 k t f;have hk:k<ts.length:=(am_.1 f).1;obtain⟨g,e,f⟩:=zu b1 M_;refine⟨g,ts.length,e,sv,?_,hk,ze b1 f (by rw[a7_];exact c1),ze b1 f (by rw[a7_];exact c2),c3,c4⟩;rw[a.cell 0,f];rfl
mutual
def lE(ts:Aq):∀(t:PT) (b:Nat),(∀q x,(flat b t)[q]?=some x->ts[b+q]?=some x)->isT ts (b+(flat b t).length-1) t
 | .leaf c p,b,h=>by
  simp only[flat,isT,ap_,Nat.add_sub_cancel];exact h 0 _ rfl
 | .wrap c p t,b,h=>by
  have hp:=aw b t;have h1:=lE ts t b (λq x a=>h q x (by rw[flat,ay_ (am_.1 a).1];exact a));have e:=h (flat b t).length ⟨c,[b+(flat b t).length-1]⟩ (by rw[flat,ax_ l_];simp);simp only[isT];refine⟨_,?_,h1⟩;rw[flat,ah_,ap_,show b+((flat b t).length+1)-1=b+(flat b t).length by omega];exact e
 | .alts p l,b,h=>by
  have h1:=pc ts l b (λq x a=>h q x (by rw[flat,ay_ (am_.1 a).1];exact a));have e:=h (zA b l).length ⟨40,qk b l⟩ (by rw[flat,ax_ l_];simp);simp only[isT];refine⟨_,?_,h1⟩;rw[flat,ah_,ap_,show b+((zA b l).length+1)-1=b+(zA b l).length by omega];exact e
def pc(ts:Aq):∀(l:List PT) (b:Nat),(∀q x,(zA b l)[q]?=some x->ts[b+q]?=some x)->cw ts (qk b l) l
 | [],b,h=>by simp[cw,qk]
 |t::r,b,h=>by
  have h1:=lE ts t b (λq x a=>h q x (by rw[zA,ay_ (am_.1 a).1];exact a));have e:=pc ts r (b+(flat b t).length) (λq x a=>by
   rw[bv_]
   refine h _ x ?_
   rw[zA,ax_ M_,ck_]
   exact a)
  simp only[cw];exact⟨_,_,by rw[qk],h1,e⟩
end
def wB{ts:Aq}:∀{l:List PT}{js:List Nat},cw ts js l->∀(q:Nat) (t:PT),l[q]?=some t->∃j,js[q]?=some j/\isT ts j t
 | [],js,h,q,t,ht=>by simp at ht
 |u::r,js,h,q,t,ht=>by
  simp only[cw]at h;obtain⟨j,e,rfl,h1,a⟩:=h;cases q with
  |zero=>simp only[aa_,ae_]at ht;subst ht;exact⟨j,rfl,h1⟩
  |succ q=>rw[ab_]at ht⊢;exact wB a q t ht
def bQ{ts:Aq}:∀{l:List PT}{js:List Nat},cw ts js l->js.length=l.length
 | [],js,h=>by simp only[cw]at h;subst h;rfl
 |u::r,js,h=>by
  simp only[cw]at h;obtain⟨j,a,rfl,h1,a⟩:=h;simp[bQ a]
def xC{env:Ay}:∀{l:List PT},eG env l->∀t∈l,t.isAlts=false/\okT env t
 | [],h,t,a=>by simp at a
 |u::r,h,t,a=>by
  simp only[eG]at h;rcases aq_.1 a with rfl|a
  .exact⟨h.1,h.2.1⟩
  .exact xC h.2.2 t a
mutual
def shT:PT->Prop
 | .leaf c _=>zY c=true\/zZ c=true
 | .wrap c _ t=>(c=91\/c=123)/\shT t
 | .alts _ l=>l≠[]/\iC l
def iC:List PT->Prop
 | []=>True
 |t::r=>shT t/\iC r
end
def Ko(s:BA)(f:Nat):(∀i t j,vJ s f i=.ok (t,j)->shT t)/\(∀i ts j,xk s f i=.ok (ts,j)->ts≠[]/\iC ts):=by
 have cc1:=Nat
 exact cq9_
def em{s:BA}{t:PT}{j:Nat}(h:pT s i=.ok (t,j)):shT t:=(Ko s _).1 i t j h
def Zy{a:Ai}{t:PT}{m:Int}(h:qH a t m<0):m<0/\t.kind≠40:=by
 unfold qH at h;split at h
 .omega
 .rename_i hc;refine⟨h,λe=>hc ⟨.inl e,.inl h⟩⟩
def XH{t:PT}(h:t.kind≠40):t.isAlts=false:=by
 cases t<;>simp_all [PT.kind,PT.isAlts]
mutual
def lh(env:Ay):∀(t:PT) (m:Int),shT t->mix t m<0->(∀u∈zK t,∃pb,env u.1=some pb)->m<0/\okT env t
 | .leaf c p,m,hs,hm,hu=>by
  simp only[mix]at hm;refine⟨hm,?_⟩;simp only[okT];cases hb:zY c with
  |true=>exact .inl rfl
  |false=>
   simp only[shT,hb]at hs;refine .inr ⟨hs.resolve_left D_,?_⟩;exact hu (c,p) (by simp[zK,hb])
 | .wrap c p t,m,hs,hm,hu=>by
  simp only[shT]at hs;have:=lh env t m hs.2 hm hu;exact⟨this.1,hs.1,this.2⟩
 | .alts p l,m,hs,hm,hu=>by
  simp only[shT]at hs;have:=Yj env l [] m hs.2 hm hu;exact⟨this.1,hs.1,this.2⟩
def Yj(env:Ay):∀(l:List PT) (a:List Nat) (m:Int),iC l->qZ a l m<0->(∀u∈zG l,∃pb,env u.1=some pb)->m<0/\eG env l
 | [],a,m,hs,hm,hu=>⟨hm,trivial⟩
 |t::r,a,m,hs,hm,hu=>by
  simp only[iC]at hs;simp only[qZ]at hm;have h1:=Yj env r _ _ hs.2 hm (λu a=>hu u (by rw[zG];exact b7_ _ a));have e:=Zy h1.1;have f:=lh env t m hs.1 e.1 (λu a=>hu u (by rw[zG];exact ce_ _ a));exact⟨f.1,XH e.2,f.2,h1.2⟩
end
def zf:List Value:=zq 0 0 noB (L_) (L_)
structure DM(w:Aw)(P:Au)(bl:Nat)(s:BA)(bz:Nat)(pl:Ap)(j:Nat)(bad:Ap)(ts:Aq)(env:Ay)(W:Aw):Prop where
 L:LAt W bl s bz pl j bad
 Z:ZAt W P bz ts env
 nP:¬P bl
 Plt:∀g,P g->g<w.heap.size
 lt:bl<w.heap.size
 fr:Fr w W (· = bl)
 jl:j<=s.size
 sl:s.size<=4000
section
variable {w W W':Aw} {P:Au} {bl:Nat} {s:BA} {bz:Nat} {pl:Ap} {j j':Nat} {bad bad':Ap} {ts:Aq} {env:Ay}
def DM.call(M:DM w P bl s bz pl j bad ts env W)(f:LAt W' bl s bz pl j' bad')(a:Fr W W' (· = bl))(g:j'<=s.size):DM w P bl s bz pl j' bad' ts env W':=
 ⟨f,M.Z.fr a (λ_ hg e=>M.nP (e▸hg)),M.nP,M.Plt,M.lt,M.fr.trans a u_,g,M.sl⟩
def DM.si(M:DM w P bl s bz pl j bad ts env W)(h:zw W W'):DM w P bl s bz pl j bad ts env W':=M.call (M.L.si h) ((A_ W _).si h) M.jl
def DM.inc(M:DM w P bl s bz pl j bad ts env W)(h:j<s.size):DM w P bl s bz pl (j+1) bad ts env (W.setCell ⟨bl,1,none⟩ (Z_ ((j:Int)+1))):=M.call M.L.inc (V_ _ _ _) h
def DM.sp(M:DM w P bl s bz pl j bad ts env W):DM w P bl s bz pl j true ts env (W.setCell ⟨bl,2,none⟩ (.bool true)):=M.call M.L.sp (V_ _ _ _) M.jl
def DM.own(M:DM w P bl s bz pl j bad ts env W)(a:Fr W W' (λg=>w.heap.size<=g)):DM w P bl s bz pl j bad ts env W':=by
 have:=M.lt;exact⟨a.bl M.L M_,M.Z.fr a (λg hg=>by have:=M.Plt g hg;omega),M.nP,M.Plt,M.lt,M.fr.trans a (λx hx e=>absurd e M_),M.jl,M.sl⟩
def DM.alloc(M:DM w P bl s bz pl j bad ts env W)(o:Cj):DM w P bl s bz pl j bad ts env (W.alloc o):=M.own ((A_ W _).alloc o)
def DM.put(M:DM w P bl s bz pl j bad ts env W)(a:Addr)(v:Ax)(h:w.heap.size<=a.block):DM w P bl s bz pl j bad ts env (W.setCell a v):=M.own ((A_ W _).setCell a v (λ_=>h))
def DM.here(M:DM w P bl s bz pl j bad ts env W):DM W P bl s bz pl j bad ts env W:=
 ⟨M.L,M.Z,M.nP,λg hg=>bg_ (M.Plt g hg) M.fr.size,bg_ M.lt M.fr.size,A_ _ _,M.jl,M.sl⟩
end
def zD(w:Aw)(bl:Nat)(s:BA)(bz:Nat)(pl:Ap)(r:Cf)(e:Ah)(w':Aw):Prop:=
 ∃(k:Nat) (n:Int) (tx:BA) (vk vs:Value),e=.returned (.agg (zq k n tx vk vs).toArray)/\(∃a m c,vk=.slice a m c)/\(∃a m c,vs=.slice a m c)/\Fr w w' (· = bl)/\
 match r with
 |none=>∃j,j<=s.size/\LAt w' bl s bz pl j true
 |some (d,j)=>j<=s.size/\LAt w' bl s bz pl j false/\zF w' (λg=>w.heap.size<=g) d (zq k n tx vk vs)
def jv(s:BA)(env:Ay)(pl:Ap)(ts:Aq)(f:Nat)(t:PT)(i:Nat):Prop:=
 ∀(w:World) (P:Nat->Prop) (bl bz k:Nat),DM w P bl s bz pl i false ts env w->isT ts k t->
  Calls prog 70 #[P_ bl,I_ k] w (zD w bl s bz pl (rdT s env pl f t i))
section
variable {w W W':Aw} {P:Au} {bl:Nat} {s:BA} {bz:Nat} {pl:Ap} {j:Nat} {ts:Aq} {env:Ay} {k:Nat} {n:Int} {tx:BA} {vk vs:Ax} {d:DT} {r:Cf}
def cq14_{p:Prop}(h:p:=by
 have f:=M.own (hF.mono (λ_ _ e=>M_));(first|(have:=cc2;have m:=(hD.fr hF (λg hg=>hg.2)).mono (Q:=λg=>w.heap.size<=g) (λg _ hg=>hg.1))|(have m:=(hD.fr hF (λg hg=>M_)).mono (Q:=λg=>w.heap.size<=g) (λg _ hg=>M_)));refine⟨k,n,tx,vk,vs,rfl,?_,?_,f.fr,?_⟩
 .generalize a:zq k n tx vk vs=v at hD;cases hD with
  |mk X hk hkP hs hsP hd=>
   simp only[zq,List.cons.injEq,and_true]at a;obtain⟨_,_,_,rfl,rfl⟩:=a;exact zW hk
 .generalize a:zq k n tx vk vs=v at hD;cases hD with
  |mk X hk hkP hs hsP hd=>
   simp only[zq,List.cons.injEq,and_true]at a;obtain⟨_,_,_,rfl,rfl⟩:=a;exact zW hs
 .subst hr;(first|(have:=cc1;exact⟨M.jl,hm,f.L,m⟩)|(exact⟨M.jl,f.L,m⟩))):p:=h
def vb(M:DM w P bl s bz pl j false ts env W)(hD:zF W (λg=>w.heap.size<g) d (zq k n tx vk vs))(hF:Fr W W' (λg=>g=w.heap.size))(hr:r=some (d,j)):zD w bl s bz pl r (.returned (.agg (zq k n tx vk vs).toArray)) W':=by
 exact cq14_
def jq(M:DM w P bl s bz pl j true ts env W)(h1:∃a m c,vk=.slice a m c)(h:∃a m c,vs=.slice a m c)(p:Fr W W' (λg=>g=w.heap.size))(hr:r=none):zD w bl s bz pl r (.returned (.agg (zq k n tx vk vs).toArray)) W':=by
 have f:=M.own (p.mono (λ_ _ e=>M_));refine⟨k,n,tx,vk,vs,rfl,h1,h,f.fr,?_⟩;subst hr;exact⟨j,M.jl,f.L⟩
end
def dw(w:Aw)(c:Nat)(sv:Ax):World:=
 ((w.alloc (.cells zf.toArray 32)).alloc (.cells #[U_ c,sv] 57)).alloc (.cells (zq c 0 noB (L_) (L_)).toArray 32)
def cg(w:Aw)(c:Nat)(sv:Ax):Blk (dw w c sv) w.heap.size zf 32:=((B_ w _ _).alloc _).alloc _
def dQ(w:Aw)(c:Nat)(sv:Ax):Blk (dw w c sv) (w.heap.size+1) [U_ c,sv] 57:=by
 have:=(B_ (w.alloc (.cells zf.toArray 32)) #[U_ c,sv] 57).alloc (.cells (zq c 0 noB (L_) (L_)).toArray 32);simpa[dw] using this
def dJ(w:Aw)(c:Nat)(sv:Ax):Blk (dw w c sv) (w.heap.size+2) (zq c 0 noB (L_) (L_)) 32:=by
 have:=B_ ((w.alloc (.cells zf.toArray 32)).alloc (.cells #[U_ c,sv] 57)) (zq c 0 noB (L_) (L_)).toArray 32;simpa[dw] using this
def ix{w:Aw}{P:Au}{bl:Nat}{s:BA}{bz:Nat}{pl:Ap}{j:Nat}{bad:Ap}{ts:Aq}{env:Ay}(M:DM w P bl s bz pl j bad ts env w)(c:Nat)(sv:Ax):DM w P bl s bz pl j bad ts env (dw w c sv):=((M.alloc _).alloc _).alloc _
structure LM(w:Aw)(P:Au)(bl:Nat)(s:BA)(bz:Nat)(pl:Ap)(j:Nat)(bad:Ap)(ts:Aq)(env:Ay)(b0 b1 B c:Nat)(vk vs:Ax)(ks:Aa)(n:Nat)(xs:Az)(W:Aw):Prop where
 M:DM w P bl s bz pl j bad ts env W
 hb:w.heap.size<=b0/\b0<b1/\b1<B
 bB:B<=W.heap.size
 r0:Blk W b0 zf 32
 r1:Blk W b1 (zq c 0 noB vk vs) 32
 kr:W.ownsRow B 9 1 vk ks.length (ks.map Value.string)
 vr:W.ownsRow B 32 5 vs n xs
 ap:∀g,vk.ownBlock=some g->vs.ownBlock≠some g
def Dts(W:Aw)(B:Nat)(vk vs:Ax)(ds:Ak)(n:Nat)(xs:Az):Prop:=
 n=ds.length/\∃X:Nat->List Value,xs=(List.range ds.length).flatMap X/\∀i d,ds[i]?=some d->zF W (λg=>B<=g/\vk.ownBlock≠some g/\vs.ownBlock≠some g) d (X i)
def Dts.nil(W:Aw)(B:Nat)(vk vs:Ax):Dts W B vk vs [] 0 []:=⟨rfl,λ_=>[],rfl,λi d h=>by simp at h⟩
def Dts.fr{W W':Aw}{B:Nat}{vk vs:Ax}{ds:Ak}{n:Nat}{xs:Az}(h:Dts W B vk vs ds n xs)(m:Fr W W' S)(f:∀g,B<=g->vk.ownBlock≠some g->vs.ownBlock≠some g->¬S g):Dts W' B vk vs ds n xs:=by
 obtain⟨a,X,b,c⟩:=h;exact⟨a,X,b,λi d e=>(c i d e).fr m (λg hg=>f g hg.1 hg.2.1 hg.2.2)⟩
section
variable {w W W':Aw} {P:Au} {bl:Nat} {s:BA} {bz:Nat} {pl:Ap} {j j':Nat} {bad bad':Ap} {ts:Aq} {env:Ay} {b0 b1 B c:Nat} {vk vs:Ax} {ks:Aa} {n:Nat} {xs:Az} {ds:Ak}
def LM.call(Q:LM w P bl s bz pl j bad ts env b0 b1 B c vk vs ks n xs W)(f:LAt W' bl s bz pl j' bad')(a:Fr W W' (· = bl))(h:j'<=s.size):LM w P bl s bz pl j' bad' ts env b0 b1 B c vk vs ks n xs W':=by
 have h1:=Q.M.lt;have m:=Q.hb;exact⟨Q.M.call f a h,Q.hb,ai_ Q.bB a.size,a.bl Q.r0 M_,a.bl Q.r1 M_,zk Q.kr a (λg hg e=>by have:=Q.kr.lt g hg;omega),zk Q.vr a (λg hg e=>by have:=Q.vr.lt g hg;omega),Q.ap⟩
def LM.dts(Q:LM w P bl s bz pl j bad ts env b0 b1 B c vk vs ks n xs W)(D:Dts W B vk vs ds n xs)(a:Fr W W' (· = bl)):Dts W' B vk vs ds n xs:=by
 have h1:=Q.M.lt;have f:=Q.hb;exact D.fr a (λg hg _ _ e=>M_)
def LM.si(Q:LM w P bl s bz pl j bad ts env b0 b1 B c vk vs ks n xs W)(h:zw W W'):LM w P bl s bz pl j bad ts env b0 b1 B c vk vs ks n xs W':=Q.call (Q.M.L.si h) ((A_ W _).si h) Q.M.jl
def Dts.si(D:Dts W B vk vs ds n xs)(h:zw W W'):Dts W' B vk vs ds n xs:=D.fr ((A_ W N_).si h) (λ_ _ _ _ f=>f)
def LM.inc(Q:LM w P bl s bz pl j bad ts env b0 b1 B c vk vs ks n xs W)(h:j<s.size):LM w P bl s bz pl (j+1) bad ts env b0 b1 B c vk vs ks n xs (W.setCell ⟨bl,1,none⟩ (Z_ ((j:Int)+1))):=Q.call Q.M.L.inc (V_ _ _ _) h
def LM.sp(Q:LM w P bl s bz pl j bad ts env b0 b1 B c vk vs ks n xs W):LM w P bl s bz pl j true ts env b0 b1 B c vk vs ks n xs (W.setCell ⟨bl,2,none⟩ (.bool true)):=Q.call Q.M.L.sp (V_ _ _ _) Q.M.jl
def LM.alloc(Q:LM w P bl s bz pl j bad ts env b0 b1 B c vk vs ks n xs W)(o:Cj):LM w P bl s bz pl j bad ts env b0 b1 B c vk vs ks n xs (W.alloc o):=
 ⟨Q.M.alloc o,Q.hb,by have:=Q.bB;simp;omega,Q.r0.alloc o,Q.r1.alloc o,World.ownsRow.alloc Q.kr o,World.ownsRow.alloc Q.vr o,Q.ap⟩
def Dts.alloc(D:Dts W B vk vs ds n xs)(o:Cj):Dts (W.alloc o) B vk vs ds n xs:=D.fr ((A_ W N_).alloc o) (λ_ _ _ _ f=>f)
def fB{P:Au}{d:DT}(h:zF W P d v):zF W (λg=>P g/\g<W.heap.size) d v:=h.mono (λ_ hg hp=>⟨hp,hg⟩)
def LM.key(Q:LM w P bl s bz pl j bad ts env b0 b1 B c vk vs ks n xs W){h:Ax}{key:BA}(hg:(W.alloc o).grownBy w5 vk.ownBlock)(ho:w5.ownsRow B 9 1 h (ks.length+1) (ks.map Value.string++[.string key]))(hl:h.ownBlock=vk.ownBlock\/h.ownBlock=some (W.alloc o).heap.size):LM w P bl s bz pl j bad ts env b0 b1 B c h vs (ks++[key]) n xs (w5.setCell ⟨b1,3,none⟩ h)/\(∀ds,Dts W B vk vs ds n xs->Dts (w5.setCell ⟨b1,3,none⟩ h) B h vs ds n xs):=by
 have hb:=Q.hb;have y:=Q.bB;have t:Fr W w5 (λg=>vk.ownBlock=some g):=T_ ((A_ W _).alloc o) hg (λk e _=>e);have p:∀g,h.ownBlock=some g->B<=g/\(vk.ownBlock=some g\/W.heap.size<=g):=λg f=>by
  rcases hl with e|e
  .exact⟨(Q.kr.lt g (e▸f)).1,.inl (e▸f)⟩
  .rw[e]at f;simp only[ae_]at f;have:(W.alloc o).heap.size=W.heap.size+1:=x8_
   exact⟨M_,.inr M_⟩
 have u:Fr w5 (w5.setCell ⟨b1,3,none⟩ h) (λg=>g=b1):=(A_ w5 (λg=>g=b1)).setCell ⟨b1,3,none⟩ h (λ_=>rfl);have m:Fr W (w5.setCell ⟨b1,3,none⟩ h) (λg=>vk.ownBlock=some g\/g=b1):=(t.mono (λ_ _ e=>.inl e)).trans u (λ_ _ e=>.inr e);have x:=t.bl Q.r1 (λe=>by have:=Q.kr.lt _ e;omega);refine⟨⟨Q.M.own (m.mono (λg _ e=>?_)),Q.hb,ai_ y m.size,m.bl Q.r0 (λe=>?_),x.set 3 h,?_,zk Q.vr m (λg f e=>?_),λg f e=>?_⟩,λds D=>?_⟩
 .rcases e with e|e
  .have:=Q.kr.lt g e;omega
  .omega
 .rcases e with e|e
  .have:=Q.kr.lt _ e;omega
  .omega
 .rw[ah_,ap_,bh_,aw_,a5_];exact zk ho u (λg f e=>by have:=p g f;omega)
 .rcases e with e|e
  .exact Q.ap g e f
  .have:=Q.vr.lt _ f;omega
 .rcases(p g f).2 with q|q
  .exact Q.ap g q e
  .have:=Q.vr.lt _ e;omega
 .obtain⟨a,X,b,c⟩:=D;refine⟨a,X,b,λi d e=>((fB (c i d e)).fr m (λg f e=>?_)).mono (λg _ f=>⟨f.1.1,λe=>?_,f.1.2.2⟩)⟩
  .rcases e with e|e
   .exact f.1.2.1 e
   .have:=f.1.1;omega
  .rcases(p g e).2 with q|q
   .exact f.1.2.1 q
   .have:=f.2;omega
def cwLMitem1_{p:Prop}(h:p:=by
 have f:∀{e v},zF W (λg=>B<=g/\vk.ownBlock≠some g/\vs.ownBlock≠some g) e v->zF (w5.setCell ⟨b1,4,none⟩ v5) (λg=>B<=g/\vk.ownBlock≠some g/\v5.ownBlock≠some g) e v:=λhe=>
  ((fB he).fr hH (λg hg' e=>by
    rcases e with e|e
    .exact hg'.1.2.2 e
    .have:=hg'.1.1;omega)).mono (λg _ hg'=>⟨hg'.1.1,hg'.1.2.1,λe=>by
    rcases(hv g e).2 with q|q
    .exact hg'.1.2.2 q
    .have:=hg'.2;omega⟩)
 obtain⟨rfl,X,rfl,hX⟩:=D;refine⟨by rw[ah_,ap_],λi=>if i<ds.length then X i else v,?_,λi e he=>?_⟩
 .rw[ah_,ap_,bt_,bj_,yo ds.length (λi=>if i<ds.length then X i else v) X (λi a=>by simp[a])];simp
 .by_cases a:i<ds.length
  .rw[ay_ a]at he;simp only[a,if_true];exact f (hX i e he)
  .rw[ax_ M_]at he;have h0:i-ds.length=0:=by
    rcases b6_ (i-ds.length) with h|h
    .exact h
    .rw[bq_ x4_]at he;cases he
   rw[h0]at he;simp only[aa_,ae_]at he;subst he;simp only[a,if_false];exact f hd):p:=h
def LM.item(Q:LM w P bl s bz pl j bad ts env b0 b1 B c vk vs ks n xs W){v5:Ax}(hg:(W.alloc o).grownBy w5 vs.ownBlock)(ho:w5.ownsRow B 32 5 v5 (n+1) (xs++v))(hl:v5.ownBlock=vs.ownBlock\/v5.ownBlock=some (W.alloc o).heap.size):LM w P bl s bz pl j bad ts env b0 b1 B c vk v5 ks (n+1) (xs++v) (w5.setCell ⟨b1,4,none⟩ v5)/\
  (∀ds d,Dts W B vk vs ds n xs->zF W (λg=>B<=g/\vk.ownBlock≠some g/\vs.ownBlock≠some g) d v->Dts (w5.setCell ⟨b1,4,none⟩ v5) B vk v5 (ds++[d]) (n+1) (xs++v)):=by
 have hb:=Q.hb;have m:=Q.bB;have a:Fr W w5 (λg=>vs.ownBlock=some g):=T_ ((A_ W _).alloc o) hg (λk e _=>e);have hv:∀g,v5.ownBlock=some g->B<=g/\(vs.ownBlock=some g\/W.heap.size<=g):=λg hg'=>by
  rcases hl with e|e
  .exact⟨(Q.vr.lt g (e▸hg')).1,.inl (e▸hg')⟩
  .rw[e]at hg';simp only[ae_]at hg';have:(W.alloc o).heap.size=W.heap.size+1:=x8_
   exact⟨M_,.inr M_⟩
 have f:Fr w5 (w5.setCell ⟨b1,4,none⟩ v5) (λg=>g=b1):=(A_ w5 (λg=>g=b1)).setCell ⟨b1,4,none⟩ v5 (λ_=>rfl);have hH:Fr W (w5.setCell ⟨b1,4,none⟩ v5) (λg=>vs.ownBlock=some g\/g=b1):=(a.mono (λ_ _ e=>.inl e)).trans f (λ_ _ e=>.inr e);have h:=a.bl Q.r1 (λe=>by have:=Q.vr.lt _ e;omega);refine⟨⟨Q.M.own (hH.mono (λg _ e=>?_)),Q.hb,ai_ m hH.size,hH.bl Q.r0 (λe=>?_),h.set 4 v5,zk Q.kr hH (λg hg' e=>?_),zk ho f (λg hg' e=>by have:=hv g hg';omega),λg hg' e=>?_⟩,λds d D hd=>?_⟩
 .rcases e with e|e
  .have:=Q.vr.lt g e;omega
  .omega
 .rcases e with e|e
  .have:=Q.vr.lt _ e;omega
  .omega
 .rcases e with e|e
  .exact Q.ap g hg' e
  .have:=Q.kr.lt _ hg';omega
 .rcases(hv g e).2 with q|q
  .exact Q.ap g hg' q
  .have:=Q.kr.lt _ hg';omega
 .exact cwLMitem1_
def cq33_{p:Prop}(h:p:=by
 have hb:=Q.hb;have f:Fr W w5 (λg=>vs.ownBlock=some g):=T_ ((A_ W _).alloc o) hg (λk e _=>e);have a:=f.bl Q.r1 (λe=>by have:=Q.vr.lt _ e;omega);exact⟨a.cell 4,a.th 4⟩):p:=h
def LM.ie(Q:LM w P bl s bz pl j bad ts env b0 b1 B c vk vs ks n xs W)(hg:(W.alloc o).grownBy w5 vs.ownBlock):w5.cell? ⟨b1,4,none⟩=some vs/\w5.frozen? ⟨b1,4,none⟩=false:=by
 exact cq33_
def cq32_{p:Prop}(h:p:=by
 have hb:=Q.hb;have f:Fr W w5 (λg=>vk.ownBlock=some g):=T_ ((A_ W _).alloc o) hg (λk e _=>e);have a:=f.bl Q.r1 (λe=>by have:=Q.kr.lt _ e;omega);exact⟨a.cell 3,a.th 3⟩):p:=h
def LM.keyCell(Q:LM w P bl s bz pl j bad ts env b0 b1 B c vk vs ks n xs W)(hg:(W.alloc o).grownBy w5 vk.ownBlock):w5.cell? ⟨b1,3,none⟩=some vk/\w5.frozen? ⟨b1,3,none⟩=false:=by
 exact cq32_
def cq37_{p:Prop}(h:p:=by
 obtain⟨rfl,X,rfl,hX⟩:=D;exact .mk X (yP Q.kr) (λg e=>(Q.kr.lt g e).1) (yP Q.vr) (λg e=>(Q.vr.lt g e).1) (λi d e=>(hX i d e).mono (λg _ hg=>hg.1))):p:=h
def LM.dval(Q:LM w P bl s bz pl j bad ts env b0 b1 B c vk vs ks n xs W)(D:Dts W B vk vs ds n xs)(k:Nat):zF W (λg=>B<=g) (.mk k 0 noB ks ds) (zq k 0 noB vk vs):=by
 exact cq37_
end
def pV(acc:Ae):Option (List (BA×DT)×Nat)->Option (List (BA×DT)×Nat)
 |none=>none
 |some (l,e)=>some (acc++l,e)
def vi(acc:Ae):Option BA:=acc.getLast?.map Prod.fst
def tR(R:Al)(s:BA)(fin:Nat)(keyed:Ap)(n:Nat)(acc:Ae)(j:Nat):Option (List (BA×DT)×Nat):=
 if bt s j=fin then some (acc,j+1) else if bt s j=44 then pV acc (yZ R s fin keyed n (vi acc) (j+1)) else none
def tJ(R:Al)(s:BA)(fin:Nat)(keyed:Ap)(n:Nat)(acc:Ae)(k:BA)(j:Nat):Option (List (BA×DT)×Nat):=
 match R j with
 |none=>none
 |some (d,e)=>tR R s fin keyed n (acc++[(k,d)]) e
def ZL(x:Cr):pV [] x=x:=by
 match x with
 |none=>rfl
 |some (r,j)=>rfl
def mH(R:Al)(s:BA)(a:Nat)(keyed:Ap)(n:Nat)(acc:Ae)(g:Dw)(j:Nat):pV acc (yZ R s a keyed (n+1) g j) =
 match kR s keyed g j with
 |none=>none
 |some (k,f)=>tJ R s a keyed n acc k f:=by
 rw[yZ];cases kR s keyed g j with
 |none=>rfl
 |some q=>
  obtain⟨k,f⟩:=q;simp only[tJ];cases R f with
  |none=>rfl
  |some q=>
   obtain⟨d,e⟩:=q;simp only[tR];split
   .rfl
   .split
    .have:vi (acc++[(k,d)])=some k:=by simp[vi]
     rw[this];cases yZ R s a keyed n (some k) (e+1) with
     |none=>rfl
     |some q=>simp[pV]
    .rfl
def Yg(keyed:Ap):Option (List (BA×DT)×Nat)->Option (DT×Nat)
 |none=>none
 |some (l,e)=>some (.mk 0 0 noB (if keyed=true then l.map Prod.fst else []) (l.map Prod.snd),e)
def jz(keyed:Ap)(acc:Ae):List BA:=if keyed=true then acc.map Prod.fst else []
def BY(R_:Cr)(R:Al)(fin:Nat)(keyed:Ap)(i:Nat)(w:Aw)(P:Au)(bl:Nat)(s:BA)(bz:Nat)(pl:Ap)(ts:Aq)(env:Ay)(m:Nat)(W:Aw):Prop:=
 ∃vk vs ks n xs,
  ((∃acc j,LM w P bl s bz pl j false ts env w.heap.size (w.heap.size+1) (w.heap.size+2) 0 vk vs ks n xs W/\Dts W (w.heap.size+2) vk vs (acc.map Prod.snd) n xs/\ks=jz keyed acc/\s.size+2-j<=m/\
   ((acc=[]/\j=i/\R_=if bt s i=fin then some ([],i+1) else pV [] (yZ R s fin keyed (s.size+2) none i))\/(acc≠[]/\i+acc.length<=j/\∃nn,s.size<nn+j/\R_=tR R s fin keyed nn acc j)))\/
   (∃j,LM w P bl s bz pl j true ts env w.heap.size (w.heap.size+1) (w.heap.size+2) 0 vk vs ks n xs W/\R_=none))
def eE{w:Aw}{P:Au}{bl:Nat}{s:BA}{bz:Nat}{pl:Ap}{bad:Ap}{ts:Aq}{env:Ay}(M:DM w P bl s bz pl i bad ts env w):LM w P bl s bz pl i bad ts env w.heap.size (w.heap.size+1) (w.heap.size+2) 0 (L_) (L_) [] 0 [] ((w.alloc (.cells zf.toArray 32)).alloc (.cells zf.toArray 32)):=by
 refine⟨(M.alloc _).alloc _,M_,by simp,(B_ w _ _).alloc _,?_,World.ownsRow_nil _ _ _ _,World.ownsRow_nil _ _ _ _,λg hg=>by simp[Value.ownBlock]at hg⟩;have:=B_ (w.alloc (.cells zf.toArray 32)) zf.toArray 32;have e:(w.alloc (.cells zf.toArray 32)).heap.size=w.heap.size+1:=x8_
 rw[e]at this;exact this
def wi:Tryz.prog.underlying 30=some (.slice 32):=K_
def wC:(Tryz.prog.info? 32).map (λi=>(i.zero,i.size,i.bytes))=some (some (.agg zf.toArray),5,80):=K_
def nV:Tryz.prog.underlying 29=some (.slice 9):=K_
def Gt:(Tryz.prog.info? 9).map (λi=>(i.zero,i.size,i.bytes))=some (some (.string noB),1,16):=K_
def Pl(s:BA)(env:Ay)(pl:Ap)(ts:Aq)(t:PT):Prop:=
 ∀(w:World) (P:Nat->Prop) (bl bz k i:Nat),DM w P bl s bz pl i true ts env w->isT ts k t->
  Calls prog 70 #[P_ bl,I_ k] w (zD w bl s bz pl none)
def zo{w:Aw}{o:Nat}{v:Ax}(h:w.cell? ⟨b,o,none⟩=some v):b<w.heap.size:=World.block_lt_of_cell? w ⟨b,o,none⟩ h
def po{w:Aw}{o:Nat}{v:Ax}(h:w.cell? ⟨b,o,none⟩=some v)(X:Cj):(w.alloc X).cell? ⟨b,o,none⟩=some v:=by
 rw[World.cell?_alloc_past X b o (zo h)];exact h
def zJ{w:Aw}{o:Nat}{v:Ax}(h:w.cell? ⟨b,o,none⟩=some v)(X Y Z:Cj):(((w.alloc X).alloc Y).alloc Z).cell? ⟨b,o,none⟩=some v:=po (po (po h X) Y) Z
def kF.any{w:Aw}{P:Au}{bl:Nat}{s:BA}{bz:Nat}{pl:Ap}{j:Nat}{bad:Ap}{ts:Aq}{env:Ay}{W:Aw}{d:Nat}(hd:0<d)(M:DM w P bl s bz pl j bad ts env W)(h:kF W bl s bz pl j bad d w'):∃j' bad',DM w P bl s bz pl j' bad' ts env w'/\Fr W w' (· = bl)/\H_ ((bad=false/\bt s j=d/\j'=j+1/\bad'=false)\/((bad=true\/bt s j≠d)/\j'=j/\bad'=true)):=by
 have:=M.jl;obtain⟨h1,a⟩:=h;cases bad with
 |true=>
  by_cases hb:lk s j true=d
  .simp[lk]at hb;omega
  .rw[n_ hb]at h1;exact⟨j,true,M.call h1 a M.jl,a,.inr ⟨.inl rfl,rfl,rfl⟩⟩
 |false=>
  by_cases hb:lk s j false=d
  .rw[i_ hb]at h1;exact⟨j+1,false,M.call h1.1 a h1.2,a,.inl ⟨rfl,by simpa[lk] using hb,rfl,rfl⟩⟩
  .rw[n_ hb]at h1;exact⟨j,true,M.call h1 a M.jl,a,.inr ⟨.inr (by simpa[lk] using hb),rfl,rfl⟩⟩
def cq5_{p:Prop}(h:p:=by
 intro w P bl bz k M hk;simp only[isT]at hk;obtain⟨g,m,a2,sv,z0,a3,z1,z2,ho,T⟩:=M.Z.type hk;simp only[af_]at z1;refine hq_ λa0 Q_=>?_;have a5:=M.lt;have a6:=zo z0;have a7:=zo z1;have c3:=M.L.c3;have c2:=M.L.c2;have J:=M.jl;have K:=M.sl;obtain⟨f,sn,q,rfl⟩:=zW ho;(first|(have:=cc1;have x:=zy (ix M 108 (.slice f sn q)))|(have:=cc2;have x:=zy (ix M 110 (.slice f sn q)))|(have x:=zy (ix M 105 (.slice f sn q))));(first|(have:=cc1;have E:=zy (cg w 108 (.slice f sn q)))|(have:=cc2;have E:=zy (cg w 110 (.slice f sn q)))|(have E:=zy (cg w 105 (.slice f sn q))));(first|(have:=cc1;have R:=zy (dQ w 108 (.slice f sn q)))|(have:=cc2;have R:=zy (dQ w 110 (.slice f sn q)))|(have R:=zy (dQ w 105 (.slice f sn q))));(first|(have:=cc1;have F:=zy (dJ w 108 (.slice f sn q)))|(have:=cc2;have F:=zy (dJ w 110 (.slice f sn q)))|(have F:=zy (dJ w 105 (.slice f sn q))));have d2:=λX Y Z=>zJ c2 X Y Z;have a4:(k:Int)<(m:Int):=M_;replace M:=zy M;replace ho:=zy ho;replace T:=zy T;replace hk:=zy hk;go_in;go_wp2_with ((first|go_at_call 105|go_at_call 103);(first|(have:=cc1;apply(li (kd:=108) x.o.L K J).mono)|(have:=cc2;apply(xX 78 x.o.L K J rfl D_).mono)|(apply(li (kd:=105) x.o.L K J).mono));(first|(have:=cc2;rintro e w1 ⟨rfl,G⟩)|(intro e w1 G));(first|(have:=cc2;obtain⟨a8,j1,z,u,I⟩:=kF.any D_ x.o G)|(obtain⟨v,j1,a1,rfl,z,u,I⟩:=G.any x.o));(first|(have:=cc2;have y:=u.bl E.o M_)|(have t:=u.bl E.o M_));(first|(have:=cc2;have t:=u.bl F.o M_)|(have A:=u.bl F.o M_;have p1:=A.cell 1;have p2:=A.th 1;simp only[zq,aa_,ab_]at p1;have C:=z.put ⟨w.heap.size+1+1,1,none⟩ (Z_ v) (by simp;omega);have E2:=C_ A 1 (Z_ v);have y:=E_ t (a:=⟨w.heap.size+2,1,none⟩) (Z_ v) (by simp)));obtain⟨r0,r1,U,V,r4⟩:=y.f5;(first|(have:=cc2;obtain⟨N,O,Q,t3,t4⟩:=t.f5)|(obtain⟨N,O,Q,t3,t4⟩:=E2.f5));obtain⟨g0,g1,g2,g3,g4⟩:=y.t5;(first|(have:=cc2;simp only[zf,zq,aa_,ab_,af_]at r0 r1 U V r4 N O Q t3 t4)|(simp only[zf,zq,aa_,ab_,an_,ao_,af_]at r0 r1 U V r4 N O Q t3 t4));replace z:=zy z;(first|(have:=cc2)|(replace C:=zy C));replace u:=zy u;(first|(have:=cc2)|(replace t:=zy t;replace A:=zy A));replace y:=zy y;(first|(have:=cc2;replace t:=zy t)|(replace E2:=zy E2));clear G);refine zi results70 y.o (λW5 D _=>?_);rw[Q_.o];(first|(have:=cc2;rcases I.o with⟨_,H,rfl,rfl⟩|⟨H,rfl,rfl⟩)|(rcases I.o with⟨rfl,hr⟩|⟨rfl,hr⟩))
 ·(first|(have:=cc1;exact vb C.o (zF.bare _ _ 108 v noB) D (by simp[rdT,xr,hr]))|(have:=cc2;exact vb z.o (zF.bare _ _ 110 0 noB) D (by simp[rdT,xr,H]))|(exact vb C.o (zF.bare _ _ 105 v noB) D (by simp[rdT,xr,hr])))
 ·(first|(have:=cc2;exact jq z.o ⟨_,_,_,rfl⟩ ⟨_,_,_,rfl⟩ D (by simp[rdT,xr];simpa using H))|(exact jq C.o ⟨_,_,_,rfl⟩ ⟨_,_,_,rfl⟩ D (by simp[rdT,xr,hr])))):p:=h
def Bp{s:BA}{env:Ay}{pl:Ap}{ts:Aq}{f p:Nat}:jv s env pl ts (f+1) (.leaf 110 p) i:=by
 have cc2:=Nat
 exact cq5_
end Go.Proofs.YtahhhgbojlkjnaaGreatDoor
