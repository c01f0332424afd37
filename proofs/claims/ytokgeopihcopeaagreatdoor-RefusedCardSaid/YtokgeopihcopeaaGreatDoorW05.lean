import Derived.Test.YtokgeopihcopeaaGreatDoorW04
import Derived.Lib.ParseIntB
set_option linter.unusedVariables false
set_option maxHeartbeats 16000000
set_option maxRecDepth 100000
set_option linter.defProp false
set_option linter.unusedSimpArgs false
open Go.Proofs.Tryz
namespace Go.Proofs.YtokgeopihcopeaaGreatDoor
open Go.RowKit
variable {i f p b kd:Nat}{v:Ax}{w' w5:Aw}{o:Obj}{l:De}{S:Az}
def gn(s:BA):Nat->Nat->Option (Nat×Nat)
 | 0,_=>none
 |f+1,i=>
  if i<s.size then
   if bt s i<128 then some (bt s i,i+1)
   else match gn s f (i+1) with
    |none=>none
    |some (z,j)=>if z=0 then none else some (bt s i-128+128*z,j)
  else none
def pL(z:Nat):Int:=if z % 2=1 then -((z / 2:Nat):Int)-1 else ((z / 2:Nat):Int)
def bL(s:BA)(i:Nat):Option (Int×Nat):=
 match gn s 10 i with
 |none=>none
 |some (z,j)=>if z<18446744073709551616 then some (pL z,j) else none
def wt(s:BA)(lo hi:Int)(i:Nat):Option (Int×Nat):=
 match bL s i with
 |none=>none
 |some (n,j)=>if lo<=n/\n<=hi then some (n,j) else none
def gQ(s:BA)(i:Nat):Option (Int×Nat):=wt s 0 9223372036854775807 i
def gJ(s:BA)(i n:Nat):Option (BA×Nat):=if i+n<=zo s i then some (s.extract i (i+n),i+n) else none
def qU(s:BA)(i:Nat):Option (BA×Nat):=
 match gQ s i with
 |none=>none
 |some (n,j)=>gJ s j n.toNat
def pe(s:BA)(keyed:Aq)(last:Ew)(i:Nat):Option (BA×Nat):=
 if keyed=true then
  match qU s i with
  |none=>none
  |some (k,j)=>if kV last k=true then some (k,j) else none
 else some (noB,i)
def xP(R:Nat->Nat->Except Nat (DT×Nat×Nat))(s:BA)(keyed:Aq):Nat->Option BA->Nat->Nat->Except Nat (List (BA×DT)×Nat×Nat)
 | 0,_,i,n=>.ok ([],i,n)
 |c+1,last,i,n=>
  match pe s keyed last i with
  |none=>.error 6
  |some (k,i1)=>
   match R i1 n with
   | .error e=>.error e
   | .ok (d,j,m)=>
    match xP R s keyed c (some k) j m with
    | .error e=>.error e
    | .ok (l,j',m')=>.ok ((k,d)::l,j',m')
def xU(R:PT->Nat->Nat->Except Nat (DT×Nat×Nat)):List PT->Nat->Nat->Except Nat (List DT×Nat×Nat)
 | [],i,n=>.ok ([],i,n)
 |t::r,i,n=>
  match R t i n with
  | .error e=>.error e
  | .ok (d,j,m)=>
   match xU R r j m with
   | .error e=>.error e
   | .ok (ds,j',m')=>.ok (d::ds,j',m')
def kZ(R:PT->Nat->Nat->Except Nat (DT×Nat×Nat))(s:BA)(pb:PB)(i n:Nat):Except Nat (DT×Nat×Nat):=
 match pb with
 | .recd fs=>match xU R (fs.map PF.ty) i n with | .error e=>.error e | .ok (ds,j,m)=>.ok (.mk 114 0 noB [] ds,j,m)
 | .enum l _=>match wt s 0 ((l.length:Int)-1) i with|none=>.error 6|some (q,j)=>.ok (.mk 101 q noB [] [],j,n)
 | .bytes k=>match gJ s i k with|none=>.error 6|some (tx,j)=>.ok (.mk 102 0 tx [] [],j,n)
def jO(R:PT->Nat->Nat->Except Nat (DT×Nat×Nat))(s:BA)(env:Au)(c i n:Nat):Except Nat (DT×Nat×Nat):=
 if c=110 then .ok (.mk 110 0 noB [] [],i,n)
 else if c=116 then (if i<s.size/\bt s i<=1 then .ok (.mk 116 (bt s i:Int) noB [] [],i+1,n) else .error 6)
 else if c=105 then (match wt s (-2147483648) 2147483647 i with|none=>.error 6|some (q,j)=>.ok (.mk 105 q noB [] [],j,n))
 else if c=108 then (match bL s i with|none=>.error 6|some (q,j)=>.ok (.mk 108 q noB [] [],j,n))
 else if c=115 then (match qU s i with|none=>.error 6|some (tx,j)=>.ok (.mk 115 0 tx [] [],j,n))
 else match env c with|none=>.error 6|some pb=>kZ R s pb i n
def uz(R:Nat->Nat->Except Nat (DT×Nat×Nat))(s:BA)(c i n:Nat):Except Nat (DT×Nat×Nat):=
 match gQ s i with
 |none=>.error 6
 |some (q,j)=>
  match xP R s (c==123) q.toNat none j n with
  | .error e=>.error e
  | .ok (l,j',m)=>.ok (.mk c 0 noB (if (c==123)=true then l.map Prod.fst else []) (l.map Prod.snd),j',m)
def fZ(R:PT->Nat->Nat->Except Nat (DT×Nat×Nat))(s:BA)(ts:Af)(i n:Nat):Except Nat (DT×Nat×Nat):=
 match wt s 0 ((ts.length:Int)-1) i with
 |none=>.error 6
 |some (q,j)=>
  match ts[q.toNat]? with
  |none=>.error 6
  |some t=>match R t j n with | .error e=>.error e | .ok (d,j',m)=>.ok (.mk 40 q noB [] [d],j',m)
def rdB(s:BA)(env:Au):Nat->PT->Nat->Nat->Except Nat (DT×Nat×Nat)
 | 0,_,_,_=>.error 7
 |f+1,t,i,n=>
  if 300<=n then .error 7
  else match t with
   | .leaf c _=>jO (rdB s env f) s env c i (n+1)
   | .wrap c _ t=>uz (rdB s env f t) s c i (n+1)
   | .alts _ ts=>fZ (rdB s env f) s ts i (n+1)
def ny{s:BA}:∀(f i z j:Nat),gn s f i=some (z,j)->i<j/\j<=s.size/\j<=i+f/\z<128 ^ f
 | 0,i,z,j,h=>by simp[gn]at h
 |f+1,i,z,j,h=>by
  unfold gn at h;have hp:128 ^ (f+1)=128 ^ f*128:=Nat.pow_succ 128 f;have h1:1<=128 ^ f:=Nat.one_le_pow _ _ D_;split at h
  .split at h
   .simp only[af_,ad_]at h;omega
   .split at h
    .simp at h
    .rename_i a j' he;have:=ny f _ _ _ he;have hb:=rG s i;split at h
     .simp at h
     .simp only[af_,ad_]at h;omega
  .simp at h
def ep{s:BA}{n:Int}{j:Nat}(h:bL s i=some (n,j)):i<j/\j<=s.size/\-9223372036854775808<=n/\n<=9223372036854775807:=by
 unfold bL at h;split at h
 .simp at h
 .rename_i z j' he;have:=ny _ _ _ _ he;split at h
  .simp only[af_,ad_]at h;obtain⟨h1,a⟩:=h;unfold pL at h1;split at h1<;>omega
  .simp at h
def xN{s:BA}{lo hi:Int}{n:Int}{j:Nat}(h:wt s lo hi i=some (n,j)):i<j/\j<=s.size/\lo<=n/\n<=hi/\-9223372036854775808<=n/\n<=9223372036854775807:=by
 unfold wt at h;split at h
 .simp at h
 .rename_i z j' he;have:=ep he;split at h
  .simp only[af_,ad_]at h;omega
  .simp at h
def lA{s:BA}(h:i<=s.size):zo s i<=s.size:=(yh 97 122 s _ i l_).2 h
def pi{s:BA}{n:Nat}{tx:BA}{j:Nat}(hi:i<=s.size)(h:gJ s i n=some (tx,j)):i<=j/\j<=s.size/\j=i+n/\tx.size=n:=by
 unfold gJ at h;have hl:=lA hi;split at h
 .cases h;rw[a6_];omega
 .simp at h
def qA{s:BA}{tx:BA}{j:Nat}(h:qU s i=some (tx,j)):i<j/\j<=s.size/\tx.size<=s.size:=by
 unfold qU at h;split at h
 .simp at h
 .rename_i n j' he;have h1:=xN he;have a:=pi M_ h;omega
def Qp{s:BA}{keyed:Aq}{last:Ew}{k:BA}{j:Nat}(hi:i<=s.size)(h:pe s keyed last i=some (k,j)):i<=j/\j<=s.size/\k.size<=s.size:=by
 unfold pe at h;split at h
 .split at h
  .simp at h
  .rename_i a j' he;have:=qA he;split at h
   .cases h;omega
   .simp at h
 .cases h;exact⟨l_,hi,am_ _⟩
def GV(s:BA)(R:Nat->Nat->Except Nat (DT×Nat×Nat)):Prop:=∀i n d j m,i<=s.size->n<=300->R i n=.ok (d,j,m)->i<=j/\j<=s.size/\n<m/\m<=300
def mO{s:BA}{R:Nat->Nat->Except Nat (DT×Nat×Nat)}(e:GV s R){keyed:Aq}:∀(c:Nat) (last:Option BA) (i n:Nat) (l:List (BA×DT)) (j m:Nat),i<=s.size->n<=300->xP R s keyed c last i n=.ok (l,j,m)->i<=j/\j<=s.size/\n+l.length<=m/\m<=300/\l.length=c
 | 0,last,i,n,l,j,m,hi,hn,h=>by
  simp only[xP,ae_,ad_]at h;obtain⟨rfl,rfl,rfl⟩:=h;simp;omega
 |c+1,last,i,n,l,j,m,hi,hn,h=>by
  unfold xP at h;split at h
  .simp at h
  .rename_i k g hk;have h1:=Qp hi hk;split at h
   .simp at h
   .rename_i d q m1 hd;have a:=e _ _ _ _ _ h1.2.1 hn hd;split at h
    .simp at h
    .rename_i t j' u he;have:=mO e c _ _ _ _ _ _ a.2.1 a.2.2.2 he;cases h;simp only[au_];omega
def uy{s:BA}{R:PT->Nat->Nat->Except Nat (DT×Nat×Nat)}(e:∀t,GV s (R t)):∀(ts:List PT) (i n:Nat) (l:List DT) (j m:Nat),i<=s.size->n<=300->xU R ts i n=.ok (l,j,m)->i<=j/\j<=s.size/\n+l.length<=m/\m<=300/\l.length=ts.length
 | [],i,n,l,j,m,hi,hn,h=>by
  simp only[xU,ae_,ad_]at h;obtain⟨rfl,rfl,rfl⟩:=h;simp;omega
 |t::r,i,n,l,j,m,hi,hn,h=>by
  unfold xU at h;split at h
  .simp at h
  .rename_i d g m1 hd;have a:=e t _ _ _ _ _ hi hn hd;split at h
   .simp at h
   .rename_i q j' u he;have:=uy e r _ _ _ _ _ a.2.1 a.2.2.2 he;cases h;simp only[au_];omega
def pN(s:BA)(env:Au):∀(f:Nat) (t:PT),GV s (rdB s env f t):=by
 intro f;induction f with
 |zero=>intro t i n d j m _ _ h;simp[rdB]at h
 |succ f ih=>
  intro t i n d j m hi hn h;unfold rdB at h;split at h
  .simp at h
  .rename_i g;split at h
   .rename_i c p;unfold jO at h;split at h
    .simp only[ae_,ad_]at h;omega
    .split at h
     .split at h
      .simp only[ae_,ad_]at h;omega
      .simp at h
     .split at h
      .split at h
       .simp at h
       .rename_i q a he;have:=xN he;simp only[ae_,ad_]at h;omega
      .split at h
       .split at h
        .simp at h
        .rename_i q a he;have:=ep he;simp only[ae_,ad_]at h;omega
       .split at h
        .split at h
         .simp at h
         .rename_i q a he;have:=qA he;simp only[ae_,ad_]at h;omega
        .split at h
         .simp at h
         .rename_i pb u;unfold kZ at h;split at h
          .split at h
           .simp at h
           .rename_i ds a m1 he;have:=uy ih _ _ _ _ _ _ hi M_ he;simp only[ae_,ad_]at h;omega
          .split at h
           .simp at h
           .rename_i q a he;have:=xN he;simp only[ae_,ad_]at h;omega
          .split at h
           .simp at h
           .rename_i q a he;have:=pi hi he;simp only[ae_,ad_]at h;omega
   .rename_i c p t;unfold uz at h;split at h
    .simp at h
    .rename_i q a he;have h1:=xN he;split at h
     .simp at h
     .rename_i l e m2 hl;have:=mO (ih t) _ _ _ _ _ _ _ h1.2.1 M_ hl;simp only[ae_,ad_]at h;omega
   .rename_i p ts;unfold fZ at h;split at h
    .simp at h
    .rename_i q a he;have h1:=xN he;split at h
     .simp at h
     .rename_i t x;split at h
      .simp at h
      .rename_i d1 e m2 hd;have:=ih t _ _ _ _ _ h1.2.1 M_ hd;simp only[ae_,ad_]at h;omega
def dv:List UInt8->Nat
 | []=>0
 |c::r=>(c.toNat-48)*10 ^ r.length+dv r
def jE(l:De):Prop:=∀c∈l,48<=c.toNat/\c.toNat<=57
def jE.tail{c:UInt8}{r:De}(h:jE (c::r)):jE r:=λx hx=>h x (cf_ _ hx)
def mS:∀{l:List UInt8},jE l->dv l<10 ^ l.length
 | [],_=>by simp[dv]
 |c::r,h=>by
  have h1:=mS h.tail;have a:=h c (bo_ ..);have a:(c.toNat-48)*10 ^ r.length<=9*10 ^ r.length:=b4_ _ M_;simp only[dv,au_,Nat.pow_succ];omega
def nJ{c:UInt8}{r:De}(hc:49<=c.toNat):10 ^ r.length<=dv (c::r):=by
 have a:1*10 ^ r.length<=(c.toNat-48)*10 ^ r.length:=b4_ _ M_;simp only[dv];omega
def YS:∀{a b:List UInt8},a.length=b.length->jE a->jE b->(Op.bytesLess a b=true↔dv a<dv b)/\(a=b↔dv a=dv b)
 | [],[],_,_,_=>by simp[Op.bytesLess,dv]
 | [],_::_,h,_,_=>by simp at h
 | _::_,[],h,_,_=>by simp at h
 |x::a,y::b,h,ha,hb=>by
  have hl:a.length=b.length:=by simpa using h
  obtain⟨A,C⟩:=YS hl ha.tail hb.tail;have hx:=ha x (bo_ ..);have hy:=hb y (bo_ ..);have g:=mS ha.tail;have q:=mS hb.tail;rw[hl]at g;have z:(x<y)↔x.toNat<y.toNat:=UInt8.lt_iff_toNat_lt;have t:(x=y)↔x.toNat=y.toNat:=UInt8.toNat_inj.symm;simp only[Op.bytesLess,dv,hl,ay_,a3_,decide_eq_true_eq,beq_iff_eq,List.cons.injEq];rw[z,t,A,C];generalize 10 ^ b.length=p at g q⊢;generalize dv a=u at g⊢;generalize dv b=v at q⊢;generalize x.toNat=m at hx⊢;generalize y.toNat=n at hy⊢;rcases Nat.lt_trichotomy m n with h|h|h
  .have d:(m-48+1)*p<=(n-48)*p:=b4_ _ M_;rw[Nat.add_mul,Nat.one_mul]at d;exact⟨⟨λ_=>M_,λ_=>.inl h⟩,⟨λe=>M_,λe=>M_⟩⟩
  .subst h;exact⟨⟨λe=>M_,λe=>.inr ⟨rfl,M_⟩⟩,⟨λe=>M_,λe=>⟨rfl,M_⟩⟩⟩
  .have d:(n-48+1)*p<=(m-48)*p:=b4_ _ M_;rw[Nat.add_mul,Nat.one_mul]at d;exact⟨⟨λe=>M_,λe=>M_⟩,⟨λe=>M_,λe=>M_⟩⟩
def PA{t T:De}{c d:UInt8}{r R:De}(m:t=c::r)(g:T=d::R)(a:jE t)(dT:jE T)(hc:¬(c.toNat=48/\1<t.length))(hd:49<=d.toNat):(t.length<=T.length/\(t.length=T.length->(!Op.bytesLess t T && !(t==T))=false))↔dv t<=dv T:=by
 have lt:=mS a;have q:=mS dT;have q:10 ^ R.length<=dv T:=by rw[g];exact nJ hd
 rcases Nat.lt_trichotomy t.length T.length with h|h|h
 .have h1:10 ^ t.length<=10 ^ R.length:=Nat.pow_le_pow_right D_ (by rw[g]at h;simp at h;omega);exact⟨λ_=>M_,λ_=>⟨M_,λe=>M_⟩⟩
 .obtain⟨o1,o2⟩:=YS h a dT;constructor
  .rintro⟨_,q⟩;have u:=q h;by_cases hb:Op.bytesLess t T=true
   .have:=o1.1 hb;omega
   .by_cases he:t=T
    .have:=o2.1 he;omega
    .simp[hb,he]at u
  .intro x;refine⟨M_,λ_=>?_⟩;by_cases hb:Op.bytesLess t T=true
   .simp[hb]
   .have x:¬dv t<dv T:=λe=>hb (o1.2 e);have he:t=T:=o2.2 M_;simp[he]
 .have h1:49<=c.toNat:=by
   have:=a c (by rw[m];exact bo_ ..);have a:0<T.length:=by rw[g];simp
   omega
  have q:10 ^ r.length<=dv t:=by rw[m];exact nJ h1
  have u:10 ^ T.length<=10 ^ r.length:=Nat.pow_le_pow_right D_ (by rw[m]at h;simp at h;omega);exact⟨λ⟨e,_⟩=>M_,λe=>M_⟩
def ly:∀{l:List UInt8}{acc:Nat},jE l->acc<=2 ^ 64-1->
 Lib.parseUintM (2 ^ 64-1) acc l=if acc*10 ^ l.length+dv l<=2 ^ 64-1 then .ok (acc*10 ^ l.length+dv l) else .range
 | [],acc,_,h=>by simp only[Lib.parseUintM,dv,av_,Nat.pow_zero,Nat.mul_one,bp_];rw[i_ h]
 |c::r,acc,hd,h=>by
  have hc:=hd c (bo_ ..);have e:acc*10 ^ (c::r).length+dv (c::r)=(acc*10+(c.toNat-48))*10 ^ r.length+dv r:=by
   simp only[dv,au_,Nat.pow_succ,Nat.add_mul];rw[Nat.mul_assoc acc 10,bh_ 10 (10 ^ r.length)];omega
  have hp:1<=10 ^ r.length:=Nat.one_le_pow _ _ D_;have a:acc*10+(c.toNat-48)<=(acc*10+(c.toNat-48))*10 ^ r.length:=by
   have:=Nat.mul_le_mul_left (acc*10+(c.toNat-48)) hp;omega
  rw[e];unfold Lib.parseUintM;rw[i_ hc];by_cases h1:1844674407370955162<=acc
  .rw[i_ h1,n_ M_]
  .rw[n_ h1];by_cases a:2 ^ 64-1<acc*10+(c.toNat-48)
   .rw[i_ a,n_ M_]
   .rw[n_ a];exact ly hd.tail M_
def tK(hl:l≠[])(hd:jE l):Lib.parseUintB 64 l=if dv l<=2 ^ 64-1 then .ok (dv l) else .range:=by
 unfold Lib.parseUintB;rw[n_ hl,ly hd M_];simp
def bM(hl:l≠[])(hd:jE l):Lib.parseIntB 64 l=if dv l<2 ^ 63 then .ok (dv l:Int) else .range:=by
 cases l with
 |nil=>exact absurd rfl hl
 |cons c r=>
  have hc:=hd c (bo_ ..);unfold Lib.parseIntB;simp only;rw[n_ M_,tK x6_ hd];by_cases h1:dv (c::r)<2 ^ 63
  .rw[i_ h1,i_ M_];simp only;rw[n_ M_,n_ M_,n_ M_]
  .rw[n_ h1];by_cases a:dv (c::r)<=2 ^ 64-1
   .rw[i_ a];simp only;rw[i_ M_]
   .rw[n_ a]
def iB(hl:l≠[])(hd:jE l):Lib.parseIntB 64 (45::l)=if dv l<=2 ^ 63 then .ok (-(dv l:Int)) else .range:=by
 unfold Lib.parseIntB;simp only;rw[i_ D_,tK hl hd];by_cases h1:dv l<=2 ^ 63
 .rw[i_ h1,i_ M_];simp only;rw[n_ (λh=>h.1 D_),n_ M_,i_ D_]
 .rw[n_ h1];by_cases a:dv l<=2 ^ 64-1
  .rw[i_ a];simp only;rw[n_ (λh=>h.1 D_),i_ ⟨D_,M_⟩]
  .rw[n_ a]
def dZ(kd:Nat)(neg:Aq):Nat:=if kd=105 then (if neg=true then 2147483648 else 2147483647) else (if neg=true then 9223372036854775808 else 9223372036854775807)
def VZ(kd:Nat)(neg:Aq):∃d R,(qR kd neg).data.toList=d::R/\jE (qR kd neg).data.toList/\49<=d.toNat/\dv (qR kd neg).data.toList=dZ kd neg:=by
 unfold qR dZ;by_cases h:kd=105<;>cases neg<;>simp only[h,if_true,if_false,a1_]
 all_goals exact⟨_,_,rfl,(by unfold jE;decide),D_,D_⟩
def cE{t:BA}{c:UInt8}{r:De}(h:t.data.toList=c::r):bt t 0=c.toNat:=by
 obtain⟨⟨l⟩⟩:=t;simp only at h;subst h;rfl
def tH{neg:Aq}{t:BA}(hd:jE t.data.toList):qI kd neg t↔0<t.size/\¬(bt t 0=48/\(1<t.size\/neg=true))/\dv t.data.toList<=dZ kd neg:=by
 obtain⟨d,R,h1,m,q,a⟩:=VZ kd neg;have hz:∀x:BA,x.size=x.data.toList.length:=λx=>Array.length_toList.symm;unfold qI;rw[ByteArray.toList_eq,ByteArray.toList_eq,<- a];constructor
 .rintro⟨a,g2,g⟩;refine⟨a,g2,?_⟩;cases hl:t.data.toList with
  |nil=>have h:=hz t;rw[hl,av_]at h;omega
  |cons c r=>
   rw[<- hl];have hb:=cE hl;exact(PA hl h1 hd m ys_ q).1 (by rw[<- hz,<- hz];exact g)
 .rintro⟨a,g2,g⟩;refine⟨a,g2,?_⟩;cases hl:t.data.toList with
  |nil=>have h:=hz t;rw[hl,av_]at h;omega
  |cons c r=>
   rw[<- hl];have hb:=cE hl;have:=(PA hl h1 hd m ys_ q).2 g;rw[<- hz,<- hz]at this;exact this
def vB(lo hi:Nat)(s:BA):∀n i,s.size-i<=n->∀k,i<=k->k<zt lo hi s i->lo<=bt s k/\bt s k<=hi:=by
 intro n;induction n with
 |zero=>
  intro i hn k h1 a;by_cases hb:lo<=bt s i/\bt s i<=hi
  .by_cases hk:k=i
   .subst hk;exact hb
   .unfold zt at a;simp only[dif_neg (show ¬i<s.size by omega)]at a;omega
  .rw[vO hb]at a;omega
 |succ n ih=>
  intro i hn k h1 a;by_cases hb:lo<=bt s i/\bt s i<=hi
  .by_cases d:i<s.size
   .rw[kX d hb]at a;by_cases hk:k=i
    .subst hk;exact hb
    .exact ih (i+1) M_ k M_ a
   .exact ih i M_ k h1 a
  .rw[vO hb]at a;omega
def mN{s:BA}{a:Nat}{c:UInt8}(h:c∈(s.extract a b).data.toList):∃k,a<=k/\k<b/\bt s k=c.toNat:=by
 rw[Array.mem_toList_iff,Array.mem_iff_getElem]at h;obtain⟨q,d,he⟩:=h;have e:q<(s.extract a b).size:=d;rw[a6_]at e;refine⟨a+q,M_,M_,?_⟩;unfold bt;rw[dif_pos M_,<- he]
 congr 1
 exact(ByteArray.getElem_extract ..).symm
def kM(s:BA)(i:Nat):jE (s.extract i (zt 48 57 s i)).data.toList:=by
 intro c hc;obtain⟨k,h1,a,d⟩:=mN hc;have:=vB 48 57 s _ i l_ k h1 a;omega
def qn{s:BA}{e:Nat}(h1:i<e)(a:e<=s.size):(s.extract i e).data.toList=(s[i]' M_)::(s.extract (i+1) e).data.toList:=by
 obtain⟨⟨l⟩⟩:=s;have hl:e<=l.length:=a;simp only[ByteArray.data_extract,List.extract_toArray,List.extract_eq_take_drop];have hd:l.drop i=l[i]::l.drop (i+1):=bs_ M_;rw[hd,show e-i=(e-(i+1))+1 by omega,cg_];rfl
def loV(kd:Nat):Int:=if kd=105 then -2147483648 else -9223372036854775808
def hiV(kd:Nat):Int:=if kd=105 then 2147483647 else 9223372036854775807
def aD{s:BA}(h0:0<(zM s i).size)(hz:¬(bt (zM s i) 0=48/\(1<(zM s i).size\/xm s i=true))):qI kd (xm s i) (zM s i)↔∃v,Lib.parseIntB 64 (s.extract i (zI s i)).data.toList=.ok v/\loV kd<=v/\v<=hiV kd:=by
 have hd:jE (zM s i).data.toList:=kM s (sgn s i);have q:(zM s i).data.toList≠[]:=by
  intro e;have hs:(zM s i).size=(zM s i).data.toList.length:=Array.length_toList.symm;rw[e,av_]at hs;omega
 rw[tH hd];by_cases h45:bt s i=45
 .have d:xm s i=true:=zg_
  have h:i<s.size:=by
   by_cases a:i<s.size
   .exact a
   .unfold bt at h45;rw[dif_neg a]at h45;exact absurd h45 D_
  have hs:sgn s i=i+1:=z2_
  have a:=yh 48 57 s _ (i+1) l_;have he:(s.extract i (zI s i)).data.toList=45::(zM s i).data.toList:=by
   unfold zM zI;rw[hs,qn M_ (a.2 M_)]
   congr 1
   unfold bt at h45;rw[dif_pos h]at h45;exact UInt8.toNat_inj.1 h45
  rw[he,iB q hd,d];generalize dv (zM s i).data.toList=n;unfold dZ loV hiV;rw[d]at hz;constructor
  .rintro⟨_,_,g⟩;refine⟨-(n:Int),?_,?_,?_⟩
   .rw[i_ (by split at g<;>simp at g<;>omega)]
   .split at g<;>simp at g<;>simp_all<;>omega
   .split<;>omega
  .rintro⟨v,a,h,m⟩;refine⟨h0,hz,?_⟩;split at a
   .cases a;split at h<;>simp_all<;>omega
   .cases a
 .have d:xm s i=false:=by
   unfold xm;exact beq_eq_false_iff_ne.2 M_
  have hs:sgn s i=i:=by unfold sgn;rw[n_ h45]
  have he:s.extract i (zI s i)=zM s i:=by unfold zM;rw[hs]
  rw[he,bM q hd,d];generalize dv (zM s i).data.toList=n;unfold dZ loV hiV;rw[d]at hz;constructor
  .rintro⟨_,_,g⟩;refine⟨(n:Int),?_,?_,?_⟩
   .rw[i_ (by split at g<;>simp at g<;>omega)]
   .split<;>omega
   .split at g<;>simp at g<;>simp_all<;>omega
  .rintro⟨v,a,h,m⟩;refine⟨h0,hz,?_⟩;split at a
   .cases a;split at m<;>simp_all<;>omega
   .cases a
def zW(k:Nat)(n:Int)(tx:BA)(vk vs:Ax):List Value:=[U_ k,Z_ n,.string tx,vk,vs]
def yl{w:Aw}{base:Nat}{e:Av}{size:Nat}{n:Nat}{xs:Ay}(h:w.ownsRow base e size v n xs):w.ownsRow 0 e size v n xs:=by
 refine⟨h.1,?_⟩;rcases h.2 with h0|⟨g,d,m,a,b,c⟩
 .exact .inl h0
 .exact .inr ⟨g,d,m,a,am_ _,c⟩
def yo(n:Nat)(X Y:Nat->List Value)(h:∀i,i<n->X i=Y i):(List.range n).flatMap X=(List.range n).flatMap Y:=by
 induction n with
 |zero=>rfl
 |succ n ih=>rw[bv_,bb_,bb_,ih (λi hi=>h i M_)];simp[h n M_]
mutual
def isT(ts:Ap)(k:Nat):PT->Prop
 | .leaf c _=>ts[k]?=some ⟨c,[]⟩
 | .wrap c _ t=>∃j,ts[k]?=some ⟨c,[j]⟩/\isT ts j t
 | .alts _ l=>∃js,ts[k]?=some ⟨40,js⟩/\cQ ts js l
def cQ(ts:Ap)(js:Ao):List PT->Prop
 | []=>js=[]
 |t::r=>∃j q,js=j::q/\isT ts j t/\cQ ts q r
end
def PT.isAlts:PT->Bool
 | .alts _ _=>true
 | _=>false
mutual
def okT(env:Au):PT->Prop
 | .leaf c _=>zi c=true\/(zY c=true/\∃pb,env c=some pb)
 | .wrap c _ t=>(c=91\/c=123)/\okT env t
 | .alts _ l=>l≠[]/\ZO env l
def ZO(env:Au):List PT->Prop
 | []=>True
 |t::r=>t.isAlts=false/\okT env t/\ZO env r
end
def okB(env:Au):PB->Prop
 | .recd fs=>∀f∈fs,okT env f.ty
 | .enum l _=>(∀c∈l.map Prod.fst,0<c)/\l.length<=300
 | .bytes n=>n<=9
def qW(env:Au):Prop:=∀c pb,env c=some pb->okB env pb
def cw(w:World)(P:Nat->Prop)(tv:Value)(ts:List TR):Prop:=
 ∃xs,w.ownsRow 0 169 2 tv ts.length xs/\(∀g,tv.ownBlock=some g->P g)/\
  ∀k t,ts[k]?=some t->∃sv,xs[2*k]?=some (U_ t.kind)/\xs[2*k+1]?=some sv/\w.ownsRow 0 3 1 sv t.subs.length (t.subs.map λ(n:Nat)=>Value.int .i64 (n:Int))/\∀g,sv.ownBlock=some g->P g
def fX(w:Aw)(P:Az)(ts:Ap)(pb:PB)(so:Int)(fv:Ax)(sb:BA)(n:Int):Prop:=
 (∃a m c,fv=.slice a m c)/\(∀g,fv.ownBlock=some g->P g)/\
 match pb with
 | .recd fs=>so=114/\∃xs,w.ownsRow 0 110 10 fv fs.length xs/\∀q f,fs[q]?=some f->∃num:Nat,xs[10*q+1]?=some (Z_ (num:Int))/\isT ts num f.ty
 | .enum l _=>so=101/\sb.data.toList.map UInt8.toNat=l.map Prod.fst
 | .bytes k=>so=102/\n=(k:Int)
structure ZAt(w:Aw)(P:Az)(bz:Nat)(ts:Ap)(env:Au):Prop where
 zP:P bz
 z:∃tv zs,Blk w bz (tv::zs) 65/\cw w P tv ts/\
  ∀k,k<6->∀pb,env (65+k)=some pb->∃(so:Int) (fv:Value) (sb:BA) (o n:Int),(∀p,p<5->zs[5*k+p]?=[Value.int .u8 so,fv,Value.string sb,Value.int .i64 o,Value.int .i64 n][p]?)/\fX w P ts pb so fv sb n
def cw.fr{w:World}{P:Nat->Prop}{tv:Value}{ts:List TR}(h:cw w P tv ts)(hf:Fr w w' S)(d:∀g,P g->¬S g):cw w' P tv ts:=by
 obtain⟨xs,a,b,c⟩:=h;refine⟨xs,zj a hf (λg e=>d g (b g e)),b,λk t m=>?_⟩;obtain⟨sv,c1,c2,c3,c4⟩:=c k t m;exact⟨sv,c1,c2,zj c3 hf (λg e=>d g (c4 g e)),c4⟩
def fX.fr{w:Aw}{P:Az}{ts:Ap}{pb:PB}{so:Int}{fv:Ax}{sb:BA}{n:Int}(h:fX w P ts pb so fv sb n)(hf:Fr w w' S)(d:∀g,P g->¬S g):fX w' P ts pb so fv sb n:=by
 obtain⟨a,b,c⟩:=h;refine⟨a,b,?_⟩;cases pb with
 |recd fs=>
  obtain⟨c1,xs,c2,c3⟩:=c;exact⟨c1,xs,zj c2 hf (λg e=>d g (b g e)),c3⟩
 |enum l o=>exact c
 |bytes k=>exact c
def ZAt.fr{w:Aw}{P:Az}{bz:Nat}{ts:Ap}{env:Au}(h:ZAt w P bz ts env)(hf:Fr w w' S)(d:∀g,P g->¬S g):ZAt w' P bz ts env:=by
 refine⟨h.zP,?_⟩;obtain⟨tv,zs,a,b,c⟩:=h.z;refine⟨tv,zs,hf.bl a (d _ h.zP),b.fr hf d,λk hk pb hp=>?_⟩;obtain⟨so,fv,sb,o,n,c1,c2⟩:=c k hk pb hp;exact⟨so,fv,sb,o,n,c1,c2.fr hf d⟩
def zr{w:Aw}{base:Nat}{e:Av}{size:Nat}{n:Nat}{xs:Ay}(h:w.ownsRow base e size v n xs){g cap:Nat}(hv:v=S_ g n cap){k:Nat}{x:Ax}(hx:xs[k]?=some x):w.cell? ⟨g,k,none⟩=some x:=by
 have a:k<xs.length:=(ak_.1 hx).1;rcases h.2 with⟨hn,_⟩|⟨g',a,a,d,hb,hg,_,_,_,a⟩
 .rw[hn]at hv;cases hv
 .rw[d]at hv;cases hv;simp only[World.cell?,hg];rw[<- a,cb_]at hx;split at hx
  .simpa using hx
  .cases hx
def ZAt.type{w:Aw}{P:Az}{bz:Nat}{ts:Ap}{env:Au}(h:ZAt w P bz ts env){k:Nat}{t:TR}(e:ts[k]?=some t):∃g n d sv,w.cell? ⟨bz,0,none⟩=some (S_ g n d)/\k<n/\w.cell? ⟨g,k*2,none⟩=some (U_ t.kind)/\w.cell? ⟨g,k*2+1,none⟩=some sv/\
  w.ownsRow 0 3 1 sv t.subs.length (t.subs.map λ(n:Nat)=>Value.int .i64 (n:Int))/\∀g,sv.ownBlock=some g->P g:=by
 obtain⟨tv,zs,a,⟨xs,b1,b2,b3⟩,c⟩:=h.z;obtain⟨sv,c1,c2,c3,c4⟩:=b3 k t e;have hk:k<ts.length:=(ak_.1 e).1;obtain⟨g,d,hv⟩:=zg b1 M_;refine⟨g,ts.length,d,sv,?_,hk,zr b1 hv (by rw[bh_];exact c1),zr b1 hv (by rw[bh_];exact c2),c3,c4⟩;rw[a.cell 0,hv];rfl
mutual
def rb(ts:Ap):∀(t:PT) (b:Nat),(∀q x,(flat b t)[q]?=some x->ts[b+q]?=some x)->isT ts (b+(flat b t).length-1) t
 | .leaf c p,b,h=>by
  simp only[flat,isT,ao_,Nat.add_sub_cancel];exact h 0 _ rfl
 | .wrap c p t,b,h=>by
  have hp:=oP b t;have h1:=rb ts t b (λq x a=>h q x (by rw[flat,ar_ (ak_.1 a).1];exact a));have d:=h (flat b t).length ⟨c,[b+(flat b t).length-1]⟩ (by rw[flat,aw_ l_];simp);simp only[isT];refine⟨_,?_,h1⟩;rw[flat,ag_,ao_,show b+((flat b t).length+1)-1=b+(flat b t).length by omega];exact d
 | .alts p l,b,h=>by
  have h1:=fO ts l b (λq x a=>h q x (by rw[flat,ar_ (ak_.1 a).1];exact a));have d:=h (zN b l).length ⟨40,jN b l⟩ (by rw[flat,aw_ l_];simp);simp only[isT];refine⟨_,?_,h1⟩;rw[flat,ag_,ao_,show b+((zN b l).length+1)-1=b+(zN b l).length by omega];exact d
def fO(ts:Ap):∀(l:List PT) (b:Nat),(∀q x,(zN b l)[q]?=some x->ts[b+q]?=some x)->cQ ts (jN b l) l
 | [],b,h=>by simp[cQ,jN]
 |t::r,b,h=>by
  have h1:=rb ts t b (λq x a=>h q x (by rw[zN,ar_ (ak_.1 a).1];exact a));have d:=fO ts r (b+(flat b t).length) (λq x a=>by
   rw[bd_]
   refine h _ x ?_
   rw[zN,aw_ M_,b7_]
   exact a)
  simp only[cQ];exact⟨_,_,by rw[jN],h1,d⟩
end
def XD{ts:Ap}:∀{l:List PT}{js:List Nat},cQ ts js l->∀(q:Nat) (t:PT),l[q]?=some t->∃j,js[q]?=some j/\isT ts j t
 | [],js,h,q,t,ht=>by simp at ht
 |u::r,js,h,q,t,ht=>by
  simp only[cQ]at h;obtain⟨j,d,rfl,h1,a⟩:=h;cases q with
  |zero=>simp only[aa_,af_]at ht;subst ht;exact⟨j,rfl,h1⟩
  |succ q=>rw[ab_]at ht⊢;exact XD a q t ht
def oo{ts:Ap}:∀{l:List PT}{js:List Nat},cQ ts js l->js.length=l.length
 | [],js,h=>by simp only[cQ]at h;subst h;rfl
 |u::r,js,h=>by
  simp only[cQ]at h;obtain⟨j,a,rfl,h1,a⟩:=h;simp[oo a]
def vI{env:Au}:∀{l:List PT},ZO env l->∀t∈l,t.isAlts=false/\okT env t
 | [],h,t,a=>by simp at a
 |u::r,h,t,a=>by
  simp only[ZO]at h;rcases aq_.1 a with rfl|a
  .exact⟨h.1,h.2.1⟩
  .exact vI h.2.2 t a
mutual
def shT:PT->Prop
 | .leaf c _=>zi c=true\/zY c=true
 | .wrap c _ t=>(c=91\/c=123)/\shT t
 | .alts _ l=>l≠[]/\eS l
def eS:List PT->Prop
 | []=>True
 |t::r=>shT t/\eS r
end
def Fu(s:BA)(f:Nat):(∀i t j,vY s f i=.ok (t,j)->shT t)/\(∀i ts j,xy s f i=.ok (ts,j)->ts≠[]/\eS ts):=by
 have cc1:=Nat
 exact cq11_
def aa{s:BA}{t:PT}{j:Nat}(h:pT s i=.ok (t,j)):shT t:=(Fu s _).1 i t j h
def Yb{a:Ao}{t:PT}{m:Int}(h:qG a t m<0):m<0/\t.kind≠40:=by
 unfold qG at h;split at h
 .omega
 .rename_i hc;refine⟨h,λe=>hc ⟨.inl e,.inl h⟩⟩
def JY{t:PT}(h:t.kind≠40):t.isAlts=false:=by
 cases t<;>simp_all [PT.kind,PT.isAlts]
mutual
def lF(env:Au):∀(t:PT) (m:Int),shT t->mix t m<0->(∀u∈zZ t,∃pb,env u.1=some pb)->m<0/\okT env t
 | .leaf c p,m,hs,hm,hu=>by
  simp only[mix]at hm;refine⟨hm,?_⟩;simp only[okT];cases hb:zi c with
  |true=>exact .inl rfl
  |false=>
   simp only[shT,hb]at hs;refine .inr ⟨hs.resolve_left D_,?_⟩;exact hu (c,p) (by simp[zZ,hb])
 | .wrap c p t,m,hs,hm,hu=>by
  simp only[shT]at hs;have:=lF env t m hs.2 hm hu;exact⟨this.1,hs.1,this.2⟩
 | .alts p l,m,hs,hm,hu=>by
  simp only[shT]at hs;have:=XB env l [] m hs.2 hm hu;exact⟨this.1,hs.1,this.2⟩
def XB(env:Au):∀(l:List PT) (a:List Nat) (m:Int),eS l->qr a l m<0->(∀u∈zX l,∃pb,env u.1=some pb)->m<0/\ZO env l
 | [],a,m,hs,hm,hu=>⟨hm,trivial⟩
 |t::r,a,m,hs,hm,hu=>by
  simp only[eS]at hs;simp only[qr]at hm;have h1:=XB env r _ _ hs.2 hm (λu a=>hu u (by rw[zX];exact b8_ _ a));have d:=Yb h1.1;have e:=lF env t m hs.1 d.1 (λu a=>hu u (by rw[zX];exact b3_ _ a));exact⟨e.1,JY d.2,e.2,h1.2⟩
end
def zV:List Value:=zW 0 0 noB (L_) (L_)
structure DM(w:Aw)(P:Az)(bl:Nat)(s:BA)(bz:Nat)(pl:Aq)(j:Nat)(bad:Aq)(ts:Ap)(env:Au)(W:Aw):Prop where
 L:LAt W bl s bz pl j bad
 Z:ZAt W P bz ts env
 nP:¬P bl
 Plt:∀g,P g->g<w.heap.size
 lt:bl<w.heap.size
 fr:Fr w W (· = bl)
 jl:j<=s.size
 sl:s.size<=4000
section
variable {w W W':Aw} {P:Az} {bl:Nat} {s:BA} {bz:Nat} {pl:Aq} {j j':Nat} {bad bad':Aq} {ts:Ap} {env:Au}
def DM.call(M:DM w P bl s bz pl j bad ts env W)(a:LAt W' bl s bz pl j' bad')(hf:Fr W W' (· = bl))(d:j'<=s.size):DM w P bl s bz pl j' bad' ts env W':=
 ⟨a,M.Z.fr hf (λ_ hg e=>M.nP (e▸hg)),M.nP,M.Plt,M.lt,M.fr.trans hf u_,d,M.sl⟩
def DM.si(M:DM w P bl s bz pl j bad ts env W)(h:zq W W'):DM w P bl s bz pl j bad ts env W':=M.call (M.L.si h) ((A_ W _).si h) M.jl
def DM.inc(M:DM w P bl s bz pl j bad ts env W)(h:j<s.size):DM w P bl s bz pl (j+1) bad ts env (W.setCell ⟨bl,1,none⟩ (Z_ ((j:Int)+1))):=M.call M.L.inc (X_ _ _ _) h
def DM.sp(M:DM w P bl s bz pl j bad ts env W):DM w P bl s bz pl j true ts env (W.setCell ⟨bl,2,none⟩ (.bool true)):=M.call M.L.sp (X_ _ _ _) M.jl
def DM.own(M:DM w P bl s bz pl j bad ts env W)(hf:Fr W W' (λg=>w.heap.size<=g)):DM w P bl s bz pl j bad ts env W':=by
 have:=M.lt;exact⟨hf.bl M.L M_,M.Z.fr hf (λg hg=>o1_ (M.Plt g hg)),M.nP,M.Plt,M.lt,M.fr.trans hf (λx hx e=>absurd e M_),M.jl,M.sl⟩
def DM.alloc(M:DM w P bl s bz pl j bad ts env W)(o:Obj):DM w P bl s bz pl j bad ts env (W.alloc o):=M.own ((A_ W _).alloc o)
def DM.put(M:DM w P bl s bz pl j bad ts env W)(a:Addr)(v:Ax)(h:w.heap.size<=a.block):DM w P bl s bz pl j bad ts env (W.setCell a v):=M.own ((A_ W _).setCell a v (λ_=>h))
def DM.here(M:DM w P bl s bz pl j bad ts env W):DM W P bl s bz pl j bad ts env W:=
 ⟨M.L,M.Z,M.nP,λg hg=>bl_ (M.Plt g hg) M.fr.size,bl_ M.lt M.fr.size,A_ _ _,M.jl,M.sl⟩
end
def zL(w:Aw)(bl:Nat)(s:BA)(bz:Nat)(pl:Aq)(r:Dh)(e:Ak)(w':Aw):Prop:=
 ∃(k:Nat) (n:Int) (tx:BA) (a1:Option Addr) (m1 c1:Nat) (a2:Option Addr) (m2 c2:Nat),e=.returned (.agg (zW k n tx (.slice a1 m1 c1) (.slice a2 m2 c2)).toArray)/\Fr w w' (· = bl)/\
 match r with
 |none=>∃j,j<=s.size/\LAt w' bl s bz pl j true
 |some (_,j)=>j<=s.size/\LAt w' bl s bz pl j false
def vS(s:BA)(env:Au)(pl:Aq)(ts:Ap)(f:Nat)(t:PT)(i:Nat):Prop:=
 ∀(w:World) (P:Nat->Prop) (bl bz k:Nat),DM w P bl s bz pl i false ts env w->isT ts k t->
  Calls prog 66 #[P_ bl,I_ k] w (zL w bl s bz pl (rdT s env pl f t i))
section
variable {w W W':Aw} {P:Az} {bl:Nat} {s:BA} {bz:Nat} {pl:Aq} {j:Nat} {ts:Ap} {env:Au} {k:Nat} {n:Int} {tx:BA} {a1 a2:Am} {m1 c1 m2 c2:Nat} {r:Dh}
def cq30_{p:Prop}(h:p:=by
 have a:=M.own (hF.mono (λ_ _ e=>M_));cases r with
 |none=>cases hr
 |some q=>
  obtain rfl:q.2=j:=by simpa using hr
  exact⟨k,n,tx,_,_,_,_,_,_,rfl,a.fr,M.jl,a.L⟩):p:=h
def vb(M:DM w P bl s bz pl j false ts env W)(hF:Fr W W' (λg=>g=w.heap.size))(hr:r.map Prod.snd=some j):zL w bl s bz pl r (.returned (.agg (zW k n tx (.slice a1 m1 c1) (.slice a2 m2 c2)).toArray)) W':=by
 exact cq30_
def vA(M:DM w P bl s bz pl j true ts env W)(d:Fr W W' (λg=>g=w.heap.size))(hr:r=none):zL w bl s bz pl r (.returned (.agg (zW k n tx (.slice a1 m1 c1) (.slice a2 m2 c2)).toArray)) W':=by
 have a:=M.own (d.mono (λ_ _ e=>M_));subst hr;exact⟨k,n,tx,_,_,_,_,_,_,rfl,a.fr,j,M.jl,a.L⟩
end
def dw(w:Aw)(c:Nat)(sv:Ax):World:=
 ((w.alloc (.cells zV.toArray 108)).alloc (.cells #[U_ c,sv] 169)).alloc (.cells (zW c 0 noB (L_) (L_)).toArray 108)
def tk(w:Aw)(c:Nat)(sv:Ax):Blk (dw w c sv) w.heap.size zV 108:=((B_ w _ _).alloc _).alloc _
def iI(w:Aw)(c:Nat)(sv:Ax):Blk (dw w c sv) (w.heap.size+1) [U_ c,sv] 169:=by
 have:=(B_ (w.alloc (.cells zV.toArray 108)) #[U_ c,sv] 169).alloc (.cells (zW c 0 noB (L_) (L_)).toArray 108);simpa[dw] using this
def oL(w:Aw)(c:Nat)(sv:Ax):Blk (dw w c sv) (w.heap.size+2) (zW c 0 noB (L_) (L_)) 108:=by
 have:=B_ ((w.alloc (.cells zV.toArray 108)).alloc (.cells #[U_ c,sv] 169)) (zW c 0 noB (L_) (L_)).toArray 108;simpa[dw] using this
def iS{w:Aw}{P:Az}{bl:Nat}{s:BA}{bz:Nat}{pl:Aq}{j:Nat}{bad:Aq}{ts:Ap}{env:Au}(M:DM w P bl s bz pl j bad ts env w)(c:Nat)(sv:Ax):DM w P bl s bz pl j bad ts env (dw w c sv):=((M.alloc _).alloc _).alloc _
structure LM(w:Aw)(P:Az)(bl:Nat)(s:BA)(bz:Nat)(pl:Aq)(j:Nat)(bad:Aq)(ts:Ap)(env:Au)(b0 b1 B c:Nat)(vk vs:Ax)(ks:Dq)(n:Nat)(xs:Ay)(W:Aw):Prop where
 M:DM w P bl s bz pl j bad ts env W
 hb:w.heap.size<=b0/\b0<b1/\b1<B
 bB:B<=W.heap.size
 r0:Blk W b0 zV 108
 r1:Blk W b1 (zW c 0 noB vk vs) 108
 kr:W.ownsRow B 9 1 vk ks.length (ks.map Value.string)
 vr:W.ownsRow B 108 5 vs n xs
 ap:∀g,vk.ownBlock=some g->vs.ownBlock≠some g
section
variable {w W W':Aw} {P:Az} {bl:Nat} {s:BA} {bz:Nat} {pl:Aq} {j j':Nat} {bad bad':Aq} {ts:Ap} {env:Au} {b0 b1 B c:Nat} {vk vs:Ax} {ks:Dq} {n:Nat} {xs:Ay}
def LM.call(Q:LM w P bl s bz pl j bad ts env b0 b1 B c vk vs ks n xs W)(a:LAt W' bl s bz pl j' bad')(hf:Fr W W' (· = bl))(d:j'<=s.size):LM w P bl s bz pl j' bad' ts env b0 b1 B c vk vs ks n xs W':=by
 have h1:=Q.M.lt;have h:=Q.hb;exact⟨Q.M.call a hf d,Q.hb,al_ Q.bB hf.size,hf.bl Q.r0 M_,hf.bl Q.r1 M_,zj Q.kr hf (λg hg e=>o1_ (Q.kr.lt g hg)),zj Q.vr hf (λg hg e=>o1_ (Q.vr.lt g hg)),Q.ap⟩
def LM.si(Q:LM w P bl s bz pl j bad ts env b0 b1 B c vk vs ks n xs W)(h:zq W W'):LM w P bl s bz pl j bad ts env b0 b1 B c vk vs ks n xs W':=Q.call (Q.M.L.si h) ((A_ W _).si h) Q.M.jl
def LM.inc(Q:LM w P bl s bz pl j bad ts env b0 b1 B c vk vs ks n xs W)(h:j<s.size):LM w P bl s bz pl (j+1) bad ts env b0 b1 B c vk vs ks n xs (W.setCell ⟨bl,1,none⟩ (Z_ ((j:Int)+1))):=Q.call Q.M.L.inc (X_ _ _ _) h
def LM.sp(Q:LM w P bl s bz pl j bad ts env b0 b1 B c vk vs ks n xs W):LM w P bl s bz pl j true ts env b0 b1 B c vk vs ks n xs (W.setCell ⟨bl,2,none⟩ (.bool true)):=Q.call Q.M.L.sp (X_ _ _ _) Q.M.jl
def LM.alloc(Q:LM w P bl s bz pl j bad ts env b0 b1 B c vk vs ks n xs W)(o:Obj):LM w P bl s bz pl j bad ts env b0 b1 B c vk vs ks n xs (W.alloc o):=
 ⟨Q.M.alloc o,Q.hb,by have:=Q.bB;simp;omega,Q.r0.alloc o,Q.r1.alloc o,World.ownsRow.alloc Q.kr o,World.ownsRow.alloc Q.vr o,Q.ap⟩
def LM.key(Q:LM w P bl s bz pl j bad ts env b0 b1 B c vk vs ks n xs W){d:Ax}{key:BA}(hg:(W.alloc o).grownBy w5 vk.ownBlock)(ho:w5.ownsRow B 9 1 d (ks.length+1) (ks.map Value.string++[.string key]))(hl:d.ownBlock=vk.ownBlock\/d.ownBlock=some (W.alloc o).heap.size):LM w P bl s bz pl j bad ts env b0 b1 B c d vs (ks++[key]) n xs (w5.setCell ⟨b1,3,none⟩ d):=by
 have hb:=Q.hb;have x:=Q.bB;have m:Fr W w5 (λg=>vk.ownBlock=some g):=Y_ ((A_ W _).alloc o) hg (λk e _=>e);have hv:∀g,d.ownBlock=some g->B<=g/\(vk.ownBlock=some g\/W.heap.size<=g):=λg a=>by
  rcases hl with e|e
  .exact⟨(Q.kr.lt g (e▸a)).1,.inl (e▸a)⟩
  .rw[e]at a;simp only[af_]at a;have:(W.alloc o).heap.size=W.heap.size+1:=x6_
   exact⟨M_,.inr M_⟩
 have t:Fr w5 (w5.setCell ⟨b1,3,none⟩ d) (λg=>g=b1):=(A_ w5 (λg=>g=b1)).setCell ⟨b1,3,none⟩ d (λ_=>rfl);have h:Fr W (w5.setCell ⟨b1,3,none⟩ d) (λg=>vk.ownBlock=some g\/g=b1):=(m.mono (λ_ _ e=>.inl e)).trans t (λ_ _ e=>.inr e);have u:=m.bl Q.r1 (λe=>o1_ (Q.kr.lt _ e));refine⟨Q.M.own (h.mono (λg _ e=>?_)),Q.hb,al_ x h.size,h.bl Q.r0 (λe=>?_),u.set 3 d,?_,zj Q.vr h (λg a e=>?_),λg a e=>?_⟩
 .rcases e with e|e
  .have:=Q.kr.lt g e;omega
  .omega
 .rcases e with e|e
  .have:=Q.kr.lt _ e;omega
  .omega
 .rw[ag_,ao_,bf_,a0_,bn_];exact zj ho t (λg a e=>o1_ (hv g a))
 .rcases e with e|e
  .exact Q.ap g e a
  .have:=Q.vr.lt _ a;omega
 .rcases(hv g a).2 with q|q
  .exact Q.ap g q e
  .have:=Q.vr.lt _ e;omega
def LM.item(Q:LM w P bl s bz pl j bad ts env b0 b1 B c vk vs ks n xs W){d:Ax}{v:Ay}(hg:(W.alloc o).grownBy w5 vs.ownBlock)(ho:w5.ownsRow B 108 5 d (n+1) (xs++v))(hl:d.ownBlock=vs.ownBlock\/d.ownBlock=some (W.alloc o).heap.size):LM w P bl s bz pl j bad ts env b0 b1 B c vk d ks (n+1) (xs++v) (w5.setCell ⟨b1,4,none⟩ d):=by
 have hb:=Q.hb;have x:=Q.bB;have m:Fr W w5 (λg=>vs.ownBlock=some g):=Y_ ((A_ W _).alloc o) hg (λk e _=>e);have hv:∀g,d.ownBlock=some g->B<=g/\(vs.ownBlock=some g\/W.heap.size<=g):=λg a=>by
  rcases hl with e|e
  .exact⟨(Q.vr.lt g (e▸a)).1,.inl (e▸a)⟩
  .rw[e]at a;simp only[af_]at a;have:(W.alloc o).heap.size=W.heap.size+1:=x6_
   exact⟨M_,.inr M_⟩
 have t:Fr w5 (w5.setCell ⟨b1,4,none⟩ d) (λg=>g=b1):=(A_ w5 (λg=>g=b1)).setCell ⟨b1,4,none⟩ d (λ_=>rfl);have h:Fr W (w5.setCell ⟨b1,4,none⟩ d) (λg=>vs.ownBlock=some g\/g=b1):=(m.mono (λ_ _ e=>.inl e)).trans t (λ_ _ e=>.inr e);have u:=m.bl Q.r1 (λe=>o1_ (Q.vr.lt _ e));refine⟨Q.M.own (h.mono (λg _ e=>?_)),Q.hb,al_ x h.size,h.bl Q.r0 (λe=>?_),u.set 4 d,zj Q.kr h (λg a e=>?_),zj ho t (λg a e=>o1_ (hv g a)),λg a e=>?_⟩
 .rcases e with e|e
  .have:=Q.vr.lt g e;omega
  .omega
 .rcases e with e|e
  .have:=Q.vr.lt _ e;omega
  .omega
 .rcases e with e|e
  .exact Q.ap g a e
  .have:=Q.kr.lt _ a;omega
 .rcases(hv g e).2 with q|q
  .exact Q.ap g a q
  .have:=Q.kr.lt _ a;omega
def LM.ie(Q:LM w P bl s bz pl j bad ts env b0 b1 B c vk vs ks n xs W)(hg:(W.alloc o).grownBy w5 vs.ownBlock):w5.cell? ⟨b1,4,none⟩=some vs/\w5.frozen? ⟨b1,4,none⟩=false:=by
 have hb:=Q.hb;have d:Fr W w5 (λg=>vs.ownBlock=some g):=Y_ ((A_ W _).alloc o) hg (λk e _=>e);have a:=d.bl Q.r1 (λe=>o1_ (Q.vr.lt _ e));exact⟨a.cell 4,a.th 4⟩
def LM.keyCell(Q:LM w P bl s bz pl j bad ts env b0 b1 B c vk vs ks n xs W)(hg:(W.alloc o).grownBy w5 vk.ownBlock):w5.cell? ⟨b1,3,none⟩=some vk/\w5.frozen? ⟨b1,3,none⟩=false:=by
 have hb:=Q.hb;have d:Fr W w5 (λg=>vk.ownBlock=some g):=Y_ ((A_ W _).alloc o) hg (λk e _=>e);have a:=d.bl Q.r1 (λe=>o1_ (Q.kr.lt _ e));exact⟨a.cell 3,a.th 3⟩
end
def pZ(acc:Ag):Option (List (BA×DT)×Nat)->Option (List (BA×DT)×Nat)
 |none=>none
 |some (l,e)=>some (acc++l,e)
def kP(acc:Ag):Option BA:=acc.getLast?.map Prod.fst
def nM(R:Al)(s:BA)(fin:Nat)(keyed:Aq)(n:Nat)(acc:Ag)(j:Nat):Option (List (BA×DT)×Nat):=
 if bt s j=fin then some (acc,j+1) else if bt s j=44 then pZ acc (yc R s fin keyed n (kP acc) (j+1)) else none
def nc(R:Al)(s:BA)(fin:Nat)(keyed:Aq)(n:Nat)(acc:Ag)(k:BA)(j:Nat):Option (List (BA×DT)×Nat):=
 match R j with
 |none=>none
 |some (d,e)=>nM R s fin keyed n (acc++[(k,d)]) e
def Xm(x:Du):pZ [] x=x:=by
 match x with
 |none=>rfl
 |some (r,j)=>rfl
def cy(R:Al)(s:BA)(fin:Nat)(keyed:Aq)(n:Nat)(a:Ag)(last:Ew)(j:Nat):pZ a (yc R s fin keyed (n+1) last j) =
 match kJ s keyed last j with
 |none=>none
 |some (k,g)=>nc R s fin keyed n a k g:=by
 rw[yc];cases kJ s keyed last j with
 |none=>rfl
 |some q=>
  obtain⟨k,g⟩:=q;simp only[nc];cases R g with
  |none=>rfl
  |some q=>
   obtain⟨d,e⟩:=q;simp only[nM];split
   .rfl
   .split
    .have:kP (a++[(k,d)])=some k:=by simp[kP]
     rw[this];cases yc R s fin keyed n (some k) (e+1) with
     |none=>rfl
     |some q=>simp[pZ]
    .rfl
def XL(keyed:Aq):Option (List (BA×DT)×Nat)->Option (DT×Nat)
 |none=>none
 |some (l,e)=>some (.mk 0 0 noB (if keyed=true then l.map Prod.fst else []) (l.map Prod.snd),e)
def km(keyed:Aq)(acc:Ag):List BA:=if keyed=true then acc.map Prod.fst else []
def Ct(R_:Du)(R:Al)(fin:Nat)(keyed:Aq)(i:Nat)(w:Aw)(P:Az)(bl:Nat)(s:BA)(bz:Nat)(pl:Aq)(ts:Ap)(env:Au)(m:Nat)(W:Aw):Prop:=
 ∃vk vs ks n xs,
  ((∃acc j,LM w P bl s bz pl j false ts env w.heap.size (w.heap.size+1) (w.heap.size+2) 0 vk vs ks n xs W/\n=acc.length/\ks=km keyed acc/\s.size+2-j<=m/\
   ((acc=[]/\j=i/\R_=if bt s i=fin then some ([],i+1) else pZ [] (yc R s fin keyed (s.size+2) none i))\/(acc≠[]/\i+acc.length<=j/\∃nn,s.size<nn+j/\R_=nM R s fin keyed nn acc j)))\/
   (∃j,LM w P bl s bz pl j true ts env w.heap.size (w.heap.size+1) (w.heap.size+2) 0 vk vs ks n xs W/\R_=none))
def og{w:Aw}{P:Az}{bl:Nat}{s:BA}{bz:Nat}{pl:Aq}{bad:Aq}{ts:Ap}{env:Au}(M:DM w P bl s bz pl i bad ts env w):LM w P bl s bz pl i bad ts env w.heap.size (w.heap.size+1) (w.heap.size+2) 0 (L_) (L_) [] 0 [] ((w.alloc (.cells zV.toArray 108)).alloc (.cells zV.toArray 108)):=by
 refine⟨(M.alloc _).alloc _,M_,by simp,(B_ w _ _).alloc _,?_,World.ownsRow_nil _ _ _ _,World.ownsRow_nil _ _ _ _,λg hg=>by simp[Value.ownBlock]at hg⟩;have:=B_ (w.alloc (.cells zV.toArray 108)) zV.toArray 108;have e:(w.alloc (.cells zV.toArray 108)).heap.size=w.heap.size+1:=x6_
 rw[e]at this;exact this
def Xa:Tryz.prog.underlying 106=some (.slice 108):=K_
def XS:(Tryz.prog.info? 108).map (λi=>(i.zero,i.size,i.bytes))=some (some (.agg zV.toArray),5,80):=K_
def QR:Tryz.prog.underlying 105=some (.slice 9):=K_
def Cx:(Tryz.prog.info? 9).map (λi=>(i.zero,i.size,i.bytes))=some (some (.string noB),1,16):=K_
def Mb(s:BA)(env:Au)(pl:Aq)(ts:Ap)(t:PT):Prop:=
 ∀(w:World) (P:Nat->Prop) (bl bz k i:Nat),DM w P bl s bz pl i true ts env w->isT ts k t->
  Calls prog 66 #[P_ bl,I_ k] w (zL w bl s bz pl none)
def yt{w:Aw}{o:Nat}(h:w.cell? ⟨b,o,none⟩=some v):b<w.heap.size:=World.block_lt_of_cell? w ⟨b,o,none⟩ h
def pf{w:Aw}{o:Nat}(h:w.cell? ⟨b,o,none⟩=some v)(X:Obj):(w.alloc X).cell? ⟨b,o,none⟩=some v:=by
 rw[World.cell?_alloc_past X b o (yt h)];exact h
def yZ{w:Aw}{o:Nat}(h:w.cell? ⟨b,o,none⟩=some v)(X Y Z:Obj):(((w.alloc X).alloc Y).alloc Z).cell? ⟨b,o,none⟩=some v:=pf (pf (pf h X) Y) Z
def kY.any{w:Aw}{P:Az}{bl:Nat}{s:BA}{bz:Nat}{pl:Aq}{j:Nat}{bad:Aq}{ts:Ap}{env:Au}{W:Aw}{d:Nat}(hd:0<d)(M:DM w P bl s bz pl j bad ts env W)(h:kY W bl s bz pl j bad d w'):∃j' bad',DM w P bl s bz pl j' bad' ts env w'/\Fr W w' (· = bl)/\H_ ((bad=false/\bt s j=d/\j'=j+1/\bad'=false)\/((bad=true\/bt s j≠d)/\j'=j/\bad'=true)):=by
 have:=M.jl;obtain⟨h1,a⟩:=h;cases bad with
 |true=>
  by_cases hb:lk s j true=d
  .simp[lk]at hb;omega
  .rw[n_ hb]at h1;exact⟨j,true,M.call h1 a M.jl,a,.inr ⟨.inl rfl,rfl,rfl⟩⟩
 |false=>
  by_cases hb:lk s j false=d
  .rw[i_ hb]at h1;exact⟨j+1,false,M.call h1.1 a h1.2,a,.inl ⟨rfl,by simpa[lk] using hb,rfl,rfl⟩⟩
  .rw[n_ hb]at h1;exact⟨j,true,M.call h1 a M.jl,a,.inr ⟨.inr (by simpa[lk] using hb),rfl,rfl⟩⟩
def cq5_{p:Prop}(h:p:=by
 intro w P bl bz k M hk;simp only[isT]at hk;obtain⟨g,m,a4,sv,z0,a5,z1,z2,ho,Q⟩:=M.Z.type hk;simp only[az_]at z1;refine hq_ λa0 Q_=>?_;have a7:=M.lt;have a8:=yt z0;have a9:=yt z1;have c3:=M.L.c3;have c2:=M.L.c2;have K:=M.jl;have N:=M.sl;obtain⟨d,sn,q,rfl⟩:=yE ho;(first|(have:=cc1;have u:=zy (iS M 108 (.slice d sn q)))|(have:=cc2;have u:=zy (iS M 110 (.slice d sn q)))|(have u:=zy (iS M 105 (.slice d sn q))));(first|(have:=cc1;have A:=zy (tk w 108 (.slice d sn q)))|(have:=cc2;have A:=zy (tk w 110 (.slice d sn q)))|(have A:=zy (tk w 105 (.slice d sn q))));(first|(have:=cc1;have O:=zy (iI w 108 (.slice d sn q)))|(have:=cc2;have O:=zy (iI w 110 (.slice d sn q)))|(have O:=zy (iI w 105 (.slice d sn q))));(first|(have:=cc1;have C:=zy (oL w 108 (.slice d sn q)))|(have:=cc2;have C:=zy (oL w 110 (.slice d sn q)))|(have C:=zy (oL w 105 (.slice d sn q))));have d2:=λX Y Z=>yZ c2 X Y Z;have a6:(k:Int)<(m:Int):=M_;replace M:=zy M;replace ho:=zy ho;replace Q:=zy Q;replace hk:=zy hk;go_in;go_wp2_with ((first|go_at_call 101|go_at_call 99);(first|(have:=cc1;apply(lM (kd:=108) u.o.L N K).mono)|(have:=cc2;apply(xQ 78 u.o.L N K rfl D_).mono)|(apply(lM (kd:=105) u.o.L N K).mono));(first|(have:=cc2;rintro e w1 ⟨rfl,G⟩)|(intro e w1 G));(first|(have:=cc2;obtain⟨b4,j1,x,t,J⟩:=kY.any D_ u.o G)|(obtain⟨v,j1,a3,rfl,H,t,J⟩:=G.any u.o));(first|(have:=cc2;have y:=t.bl A.o M_)|(have x:=t.bl A.o M_));(first|(have:=cc2;have D:=t.bl C.o M_)|(have z:=t.bl C.o M_;have p1:=z.cell 1;have p2:=z.th 1;simp only[zW,aa_,ab_]at p1;have E:=H.put ⟨w.heap.size+1+1,1,none⟩ (Z_ v) (by simp;omega);have D:=G_ z 1 (Z_ v);have y:=T_ x (a:=⟨w.heap.size+2,1,none⟩) (Z_ v) (by simp)));obtain⟨r0,r1,R,T,U⟩:=y.f5;obtain⟨V,t1,t2,t3,t4⟩:=D.f5;obtain⟨g0,g1,g2,g3,g4⟩:=y.t5;(first|(have:=cc2;simp only[zV,zW,aa_,ab_,az_]at r0 r1 R T U V t1 t2 t3 t4)|(simp only[zV,zW,aa_,ab_,an_,ap_,az_]at r0 r1 R T U V t1 t2 t3 t4;revert H t E;refine h_ λH t E=>?_));replace x:=zy x;(first|(have:=cc2;replace t:=zy t)|(replace z:=zy z));replace y:=zy y;replace D:=zy D;clear G);refine zU results66 y.o (λW5 F _=>?_);rw[Q_.o];(first|(have:=cc2;rcases J.o with⟨_,I,rfl,rfl⟩|⟨I,rfl,rfl⟩)|(rcases J.o with⟨rfl,hr⟩|⟨rfl,hr⟩))
 ·(first|(have:=cc2;exact vb x.o F (by simp[rdT,xz,I]))|(exact vb E.o F (by simp[rdT,xz,hr])))
 ·(first|(have:=cc2;exact vA x.o F (by simp[rdT,xz];simpa using I))|(exact vA E.o F (by simp[rdT,xz,hr])))):p:=h
def Cq{s:BA}{env:Au}{pl:Aq}{ts:Ap}:vS s env pl ts (f+1) (.leaf 110 p) i:=by
 have cc2:=Nat
 exact cq5_
def Cv{s:BA}{env:Au}{pl:Aq}{ts:Ap}:vS s env pl ts (f+1) (.leaf 116 p) i:=by
 intro w P bl bz k M hk;simp only[isT]at hk;obtain⟨g,m,a6,sv,z0,a7,z1,z2,ho,a3⟩:=M.Z.type hk;simp only[az_]at z1;refine hq_ λa5 V=>?_;have a8:=M.lt;have a9:=yt z0;have b4:=yt z1;have c3:=M.L.c3;have c2:=M.L.c2;have H:=M.jl;have I:=M.sl;obtain⟨z,sn,F,rfl⟩:=yE ho;have C:=zy (iS M 116 (.slice z sn F));have T:=zy (tk w 116 (.slice z sn F));have B1:=zy (iI w 116 (.slice z sn F));have U:=zy (oL w 116 (.slice z sn F));have z:=λX Y Z=>yZ c2 X Y Z;have z:(k:Int)<(m:Int):=M_;replace M:=zy M;replace ho:=zy ho;replace a3:=zy a3;replace hk:=zy hk;obtain⟨c,hc⟩:=x_ (bt s i);have a0:=zy (show lk s i false=c by simp[lk,hc]);by_cases D:c=84
 .subst D;have a4:i<s.size:=zp M_;replace hc:=zy hc;go_in;go_wp2_with (go_at_call 100;apply(yA C.o.L I H).mono;rintro e w1 ⟨rfl,A⟩;rw[a0.o];have t:=C.o.si A;have q:=(A_ _ (λg=>g=bl)).si A;have u:=q.bl T M_;have x:=q.bl U M_;have z:=x.cell 1;have F:=x.th 1;simp only[zW,aa_,ab_]at z;have d:=t.put ⟨w.heap.size+1+1,1,none⟩ (Z_ 1) x1_;have y:=G_ x 1 (Z_ 1);have h:=T_ u (a:=⟨w.heap.size+2,1,none⟩) (Z_ 1) x6_;have c1:=d.L.c1;have z:=d.L.th 1;have G:=d.inc a4;have F:=T_ y (a:=⟨bl,1,none⟩) (Z_ ((i:Int)+1)) x1_;have z:=T_ h (a:=⟨bl,1,none⟩) (Z_ ((i:Int)+1)) x1_;obtain⟨r0,r1,J,K,N⟩:=z.f5;obtain⟨O,Q,R,t3,t4⟩:=F.f5;obtain⟨g0,g1,g2,g3,g4⟩:=z.t5;simp only[zV,zW,aa_,ab_,an_,ap_,az_]at r0 r1 J K N O Q R t3 t4;replace t:=zy t;replace d:=zy d;replace G:=zy G;replace q:=zy q;replace u:=zy u;replace x:=zy x;replace h:=zy h;replace y:=zy y;replace z:=zy z;replace F:=zy F);refine zU results66 z.o (λW5 E _=>?_);rw[V.o];exact vb G E (by simp[rdT,xz,hc.o])
 .have z:((c:Int)==84)=false:=x1_
  replace hc:=zy hc;replace D:=zy D;go_in;go_wp2_with (first
   |(go_at_call 100;apply(yA C.o.L I H).mono;rintro e w1 ⟨rfl,A⟩;rw[a0.o];have t:=C.o.si A;have q:=(A_ _ (λg=>g=bl)).si A;have u:=q.bl T M_;have x:=zy (q.bl U M_);revert t q u;refine h_ λt q u=>?_)
   |(go_at_call 99;apply(xQ 70 t.o.L I H rfl D_).mono;rintro e q ⟨rfl,z⟩;obtain⟨q,q,d,q,A⟩:=kY.any D_ t z;have h:=q.bl u M_;have y:=q.bl x M_;obtain⟨r0,r1,J,K,N⟩:=h.f5;obtain⟨O,Q,R,t3,t4⟩:=y.f5;obtain⟨g0,g1,g2,g3,g4⟩:=h.t5;simp only[zV,zW,aa_,ab_,az_]at r0 r1 J K N O Q R t3 t4;revert d q h y;refine g_ λd q h y=>?_))
  refine zU results66 h.o (λW5 E _=>?_);rw[V.o];rcases A.o with⟨_,G,rfl,rfl⟩|⟨G,_,rfl⟩
  .exact vb d E (by simp[rdT,xz,G])
  .have h:bt s i≠70:=by simpa using G
   have q:bt s i≠84:=by rw[hc.o];exact D
   exact vA d E (by simp[rdT,xz,h,q])
def fY.any{w:Aw}{P:Az}{bl:Nat}{s:BA}{bz:Nat}{pl:Aq}{j:Nat}{ts:Ap}{env:Au}{W W':Aw}{e:Ak}(M:DM w P bl s bz pl j false ts env W)(h:fY W bl s bz pl j kd e W'):∃v j' bad',e=.returned (Z_ v)/\DM w P bl s bz pl j' bad' ts env W'/\Fr W W' (· = bl)/\H_ ((bad'=false/\vp s kd j=some (v,j'))\/(bad'=true/\vp s kd j=none)):=by
 obtain⟨k,neg,t,hn,q,hk,h1,g,hf,m⟩:=h;subst hn q hk;rcases m with⟨a,b,c,d⟩|⟨a,c,d⟩
 .exact⟨_,_,_,d,M.call c hf g,hf,.inl ⟨rfl,by unfold vp;exact i_ a⟩⟩
 .exact⟨_,_,_,d,M.call c hf g,hf,.inr ⟨rfl,by unfold vp;exact n_ a⟩⟩
def Cw{s:BA}{env:Au}{pl:Aq}{ts:Ap}:vS s env pl ts (f+1) (.leaf 105 p) i:=by
 exact cq5_
def Ck{s:BA}{env:Au}{pl:Aq}{ts:Ap}:vS s env pl ts (f+1) (.leaf 108 p) i:=by
 have cc1:=Nat
 exact cq5_
def kz.any{w:Aw}{P:Az}{bl:Nat}{s:BA}{bz:Nat}{pl:Aq}{j:Nat}{bad:Aq}{ts:Ap}{env:Au}{W W':Aw}{e:Ak}(M:DM w P bl s bz pl j bad ts env W)(h:kz W bl s bz pl j bad e W'):∃tx j',e=.returned (.string tx)/\DM w P bl s bz pl j' bad ts env W'/\Fr W W' (· = bl)/\tx.size<=4000/\H_ (tx=s.extract j j'/\j<=j'/\(bad=false->j'=zo s j)):=by
 obtain⟨k,h1,d,g,m,q,a⟩:=h;refine⟨_,k,m,M.call q a g,a,?_,rfl,d,λhb=>by rw[h1,hb];rfl⟩;have:=M.sl;rw[a6_];omega
def Cj{s:BA}{env:Au}{pl:Aq}{ts:Ap}:vS s env pl ts (f+1) (.leaf 115 p) i:=by
 intro w P bl bz k M hk;simp only[isT]at hk;obtain⟨g,m,E,sv,z0,E,E,z2,ho,C⟩:=M.Z.type hk;simp only[az_]at E;refine hq_ λa4 U=>?_;have a5:=M.lt;have a6:=yt z0;have a7:=yt E;have c3:=M.L.c3;have c2:=M.L.c2;have a0:=M.jl;have G:=M.sl;obtain⟨d,sn,y,rfl⟩:=yE ho;have H:=zy (iS M 115 (.slice d sn y));have O:=zy (tk w 115 (.slice d sn y));have E:=zy (iI w 115 (.slice d sn y));have Q:=zy (oL w 115 (.slice d sn y));have d:=λX Y Z=>yZ c2 X Y Z;have d:(k:Int)<(m:Int):=M_;replace M:=zy M;replace ho:=zy ho;replace C:=zy C;replace hk:=zy hk;go_in;go_wp2_with (first
  |(go_at_call 102;apply(qE q.o.L G q.o.jl).mono;intro e d K;obtain⟨tx,d,rfl,E,y,hx,hK⟩:=K.any q;have C:=y.bl A M_;have d:=y.bl R M_;have p1:=d.cell 2;have p2:=d.th 2;simp only[zW,aa_,ab_]at p1;have t:=E.put ⟨w.heap.size+1+1,2,none⟩ (.string tx) x1_;have D:=G_ d 2 (.string tx);have T:=zy (T_ C (a:=⟨w.heap.size+2,2,none⟩) (.string tx) x6_);revert E y C d t D;refine m_ λE y C d t D=>?_)
  |(go_at_call 99;apply(xQ 34 t.o.L G t.o.jl rfl D_).mono;rintro e d ⟨rfl,x⟩;obtain⟨d,d,z,d,V⟩:=kY.any D_ t x;have h:=d.bl T M_;have t:=d.bl D M_;obtain⟨r0,r1,y,C,D⟩:=h.f5;obtain⟨E,K,T,t3,t4⟩:=t.f5;obtain⟨g0,g1,g2,g3,g4⟩:=h.t5;simp only[zV,zW,aa_,ab_,an_,ap_,az_]at r0 r1 y C D E K T t3 t4;revert z d h t;refine g_ λz d h t=>?_)
  |(go_at_call 99;apply(xQ 34 H.o.L G a0 rfl D_).mono;rintro e w1 ⟨rfl,x⟩;obtain⟨d,d,q,d,J⟩:=kY.any D_ H x;have A:=d.bl O M_;have R:=zy (d.bl Q M_);revert q d A;refine h_ λq d A=>?_))
 refine zU results66 h.o (λd I _=>?_);rw[U.o];obtain⟨a3,d,N⟩:=hK.o;rcases V.o with⟨rfl,u,rfl,rfl⟩|⟨u,rfl,rfl⟩
 .rcases J.o with⟨_,h1,rfl,_⟩|⟨_,_,hb⟩
  .have F:=N rfl;subst a3;refine vb z I ?_;rw[F]at u⊢;simp[rdT,xz,h1,u]
  .cases hb
 .refine vA z I ?_;rcases J.o with⟨_,h1,rfl,rfl⟩|⟨h1,_,hb⟩
  .have F:=N rfl;rw[F]at u;have d:bt s (zo s (i+1))≠34:=by simpa using u
   simp[rdT,xz,d]
  .have d:bt s i≠34:=by simpa using h1
   simp[rdT,xz,d]
def Wt{ts:Ap}{k:Nat}{t:PT}(h:isT ts k t):∃l,ts[k]?=some ⟨t.kind,l⟩:=by
 cases t with
 |leaf c p=>exact⟨_,h⟩
 |wrap c p t=>obtain⟨j,h,_⟩:=h;exact⟨_,h⟩
 |alts p l=>obtain⟨j,h,_⟩:=h;exact⟨_,h⟩
def YA{s:BA}{env:Au}{pl:Aq}{ts:Ap}(t:PT):Mb s env pl ts t:=by
 intro w P bl bz k i M hk;obtain⟨l,hk⟩:=Wt hk;obtain⟨c,hc⟩:=x_ t.kind;rw[hc]at hk;obtain⟨g,m,a,sv,z0,a,a,d,ho,q⟩:=M.Z.type hk;simp only at a;refine hq_ λd u=>?_;have d:=M.lt;have d:=yt z0;have d:=yt a;have c3:=M.L.c3;have c2:=M.L.c2;obtain⟨e,sn,h,rfl⟩:=yE ho;have a:=tk w c (.slice e sn h);have d:=oL w c (.slice e sn h);have r0:=a.cell 0;have G:=d.cell 0;have x:=a.th 0;have r1:=a.cell 1;have H:=d.cell 1;have y:=a.th 1;have D:=a.cell 2;have I:=d.cell 2;have z:=a.th 2;have E:=a.cell 3;have t3:=d.cell 3;have A:=a.th 3;have F:=a.cell 4;have t4:=d.cell 4;have C:=a.th 4;have J:=λX Y Z=>yZ c2 X Y Z;simp only[dw,zV,zW,noB,aa_,ab_,az_]at r0 r1 D E F G H I t3 t4 x y z A C;have a:(k:Int)<(m:Int):=M_;replace M:=zy M;replace ho:=zy ho;replace q:=zy q;replace hk:=zy hk;go_in;go_wp2;have q:=((B_ w (zW c 0 noB (L_) (L_)).toArray 108).alloc (.cells #[U_ c,.slice e sn h] 169)).alloc (.cells (zW c 0 noB (L_) (L_)).toArray 108);obtain⟨a,d,e,q3,h⟩:=q.f5;simp only[zW,noB,aa_,ab_]at a d e q3 h;refine bodyPost_ret (v:=.agg (zW c 0 noB (L_) (L_)).toArray) (by simp[results,results66,go_sem,a,d,e,q3,h,zW,noB]) rfl ?_;rw[u.o];exact vA (((M.o.alloc _).alloc _).alloc _) (A_ _ _) rfl
end Go.Proofs.YtokgeopihcopeaaGreatDoor
