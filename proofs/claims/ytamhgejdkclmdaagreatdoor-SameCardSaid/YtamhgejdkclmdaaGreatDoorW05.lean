import Derived.Test.YtamhgejdkclmdaaGreatDoorW04
import Derived.Lib.ParseIntB
set_option maxHeartbeats 16000000
set_option maxRecDepth 100000
set_option linter.defProp false
set_option linter.unusedSimpArgs false
open Go.Proofs.Tryz
namespace Go.Proofs.YtamhgejdkclmdaaGreatDoor
open Go.RowKit
variable {i f p b kd:Nat}{v:Ax}{w' w5:Aw}{o:Obj}{l:Db}{S:Az}
def wB(s:BA):Nat->Nat->Option (Nat×Nat)
 | 0,_=>none
 |f+1,i=>
  if i<s.size then
   if bt s i<128 then some (bt s i,i+1)
   else match wB s f (i+1) with
    |none=>none
    |some (z,j)=>if z=0 then none else some (bt s i-128+128*z,j)
  else none
def fN(z:Nat):Int:=if z % 2=1 then -((z / 2:Nat):Int)-1 else ((z / 2:Nat):Int)
def bL(s:BA)(i:Nat):Option (Int×Nat):=
 match wB s 10 i with
 |none=>none
 |some (z,j)=>if z<18446744073709551616 then some (fN z,j) else none
def qp(s:BA)(lo hi:Int)(i:Nat):Option (Int×Nat):=
 match bL s i with
 |none=>none
 |some (n,j)=>if lo<=n/\n<=hi then some (n,j) else none
def gQ(s:BA)(i:Nat):Option (Int×Nat):=qp s 0 9223372036854775807 i
def je(s:BA)(i n:Nat):Option (BA×Nat):=if i+n<=ze s i then some (s.extract i (i+n),i+n) else none
def vM(s:BA)(i:Nat):Option (BA×Nat):=
 match gQ s i with
 |none=>none
 |some (n,j)=>je s j n.toNat
def pX(s:BA)(keyed:Ar)(last:Ey)(i:Nat):Option (BA×Nat):=
 if keyed=true then
  match vM s i with
  |none=>none
  |some (k,j)=>if kV last k=true then some (k,j) else none
 else some (noB,i)
def xy(R:Nat->Nat->Except Nat (DT×Nat×Nat))(s:BA)(keyed:Ar):Nat->Option BA->Nat->Nat->Except Nat (List (BA×DT)×Nat×Nat)
 | 0,_,i,n=>.ok ([],i,n)
 |c+1,last,i,n=>
  match pX s keyed last i with
  |none=>.error 6
  |some (k,i1)=>
   match R i1 n with
   | .error e=>.error e
   | .ok (d,j,m)=>
    match xy R s keyed c (some k) j m with
    | .error e=>.error e
    | .ok (l,j',m')=>.ok ((k,d)::l,j',m')
def yZ(R:PT->Nat->Nat->Except Nat (DT×Nat×Nat)):List PT->Nat->Nat->Except Nat (List DT×Nat×Nat)
 | [],i,n=>.ok ([],i,n)
 |t::r,i,n=>
  match R t i n with
  | .error e=>.error e
  | .ok (d,j,m)=>
   match yZ R r j m with
   | .error e=>.error e
   | .ok (ds,j',m')=>.ok (d::ds,j',m')
def jz(R:PT->Nat->Nat->Except Nat (DT×Nat×Nat))(s:BA)(pb:PB)(i n:Nat):Except Nat (DT×Nat×Nat):=
 match pb with
 | .recd fs=>match yZ R (fs.map PF.ty) i n with | .error e=>.error e | .ok (ds,j,m)=>.ok (.mk 114 0 noB [] ds,j,m)
 | .enum l _=>match qp s 0 ((l.length:Int)-1) i with|none=>.error 6|some (q,j)=>.ok (.mk 101 q noB [] [],j,n)
 | .bytes k=>match je s i k with|none=>.error 6|some (tx,j)=>.ok (.mk 102 0 tx [] [],j,n)
def wK(R:PT->Nat->Nat->Except Nat (DT×Nat×Nat))(s:BA)(env:Au)(c i n:Nat):Except Nat (DT×Nat×Nat):=
 if c=110 then .ok (.mk 110 0 noB [] [],i,n)
 else if c=116 then (if i<s.size/\bt s i<=1 then .ok (.mk 116 (bt s i:Int) noB [] [],i+1,n) else .error 6)
 else if c=105 then (match qp s (-2147483648) 2147483647 i with|none=>.error 6|some (q,j)=>.ok (.mk 105 q noB [] [],j,n))
 else if c=108 then (match bL s i with|none=>.error 6|some (q,j)=>.ok (.mk 108 q noB [] [],j,n))
 else if c=115 then (match vM s i with|none=>.error 6|some (tx,j)=>.ok (.mk 115 0 tx [] [],j,n))
 else match env c with|none=>.error 6|some pb=>jz R s pb i n
def wQ(R:Nat->Nat->Except Nat (DT×Nat×Nat))(s:BA)(c i n:Nat):Except Nat (DT×Nat×Nat):=
 match gQ s i with
 |none=>.error 6
 |some (q,j)=>
  match xy R s (c==123) q.toNat none j n with
  | .error e=>.error e
  | .ok (l,j',m)=>.ok (.mk c 0 noB (if (c==123)=true then l.map Prod.fst else []) (l.map Prod.snd),j',m)
def qt(R:PT->Nat->Nat->Except Nat (DT×Nat×Nat))(s:BA)(ts:Ad)(i n:Nat):Except Nat (DT×Nat×Nat):=
 match qp s 0 ((ts.length:Int)-1) i with
 |none=>.error 6
 |some (q,j)=>
  match ts[q.toNat]? with
  |none=>.error 6
  |some t=>match R t j n with | .error e=>.error e | .ok (d,j',m)=>.ok (.mk 40 q noB [] [d],j',m)
def rdB(s:BA)(env:Au):Nat->PT->Nat->Nat->Except Nat (DT×Nat×Nat)
 | 0,_,_,_=>.error 7
 |f+1,t,i,n=>
  if 300<=n then .error 7
  else match t with
   | .leaf c _=>wK (rdB s env f) s env c i (n+1)
   | .wrap c _ t=>wQ (rdB s env f t) s c i (n+1)
   | .alts _ ts=>qt (rdB s env f) s ts i (n+1)
def nj{s:BA}:∀(f i z j:Nat),wB s f i=some (z,j)->i<j/\j<=s.size/\j<=i+f/\z<128 ^ f
 | 0,i,z,j,h=>by simp[wB]at h
 |f+1,i,z,j,h=>by
  unfold wB at h;have hp:128 ^ (f+1)=128 ^ f*128:=Nat.pow_succ 128 f;have h1:1<=128 ^ f:=Nat.one_le_pow _ _ D_;split at h
  .split at h
   .simp only[af_,ac_]at h;omega
   .split at h
    .simp at h
    .rename_i a j' he;have:=nj f _ _ _ he;have hb:=fC s i;split at h
     .simp at h
     .simp only[af_,ac_]at h;omega
  .simp at h
def cN{s:BA}{n:Int}{j:Nat}(h:bL s i=some (n,j)):i<j/\j<=s.size/\-9223372036854775808<=n/\n<=9223372036854775807:=by
 unfold bL at h;split at h
 .simp at h
 .rename_i z j' he;have:=nj _ _ _ _ he;split at h
  .simp only[af_,ac_]at h;obtain⟨h1,a⟩:=h;unfold fN at h1;split at h1<;>omega
  .simp at h
def yS{s:BA}{lo hi:Int}{n:Int}{j:Nat}(h:qp s lo hi i=some (n,j)):i<j/\j<=s.size/\lo<=n/\n<=hi/\-9223372036854775808<=n/\n<=9223372036854775807:=by
 unfold qp at h;split at h
 .simp at h
 .rename_i z j' he;have:=cN he;split at h
  .simp only[af_,ac_]at h;omega
  .simp at h
def rg{s:BA}(h:i<=s.size):ze s i<=s.size:=(yR 97 122 s _ i l_).2 h
def wa{s:BA}{n:Nat}{tx:BA}{j:Nat}(hi:i<=s.size)(h:je s i n=some (tx,j)):i<=j/\j<=s.size/\j=i+n/\tx.size=n:=by
 unfold je at h;have hl:=rg hi;split at h
 .simp only[af_,ac_]at h;obtain⟨rfl,rfl⟩:=h;rw[bk_];omega
 .simp at h
def kz{s:BA}{tx:BA}{j:Nat}(h:vM s i=some (tx,j)):i<j/\j<=s.size/\tx.size<=s.size:=by
 unfold vM at h;split at h
 .simp at h
 .rename_i n j' he;have h1:=yS he;have a:=wa M_ h;omega
def Ql{s:BA}{keyed:Ar}{a:Ey}{k:BA}{j:Nat}(hi:i<=s.size)(h:pX s keyed a i=some (k,j)):i<=j/\j<=s.size/\k.size<=s.size:=by
 unfold pX at h;split at h
 .split at h
  .simp at h
  .rename_i d j' he;have:=kz he;split at h
   .simp only[af_,ac_]at h;obtain⟨rfl,rfl⟩:=h;omega
   .simp at h
 .simp only[af_,ac_]at h;obtain⟨rfl,rfl⟩:=h;exact⟨l_,hi,al_ _⟩
def GV(s:BA)(R:Nat->Nat->Except Nat (DT×Nat×Nat)):Prop:=∀i n d j m,i<=s.size->n<=300->R i n=.ok (d,j,m)->i<=j/\j<=s.size/\n<m/\m<=300
def mI{s:BA}{R:Nat->Nat->Except Nat (DT×Nat×Nat)}(g:GV s R){keyed:Ar}:∀(c:Nat) (a:Option BA) (i n:Nat) (l:List (BA×DT)) (j m:Nat),i<=s.size->n<=300->xy R s keyed c a i n=.ok (l,j,m)->i<=j/\j<=s.size/\n+l.length<=m/\m<=300/\l.length=c
 | 0,a,i,n,l,j,m,hi,hn,h=>by
  simp only[xy,ae_,ac_]at h;obtain⟨rfl,rfl,rfl⟩:=h;simp;omega
 |c+1,a,i,n,l,j,m,hi,hn,h=>by
  unfold xy at h;split at h
  .simp at h
  .rename_i k q hk;have h1:=Ql hi hk;split at h
   .simp at h
   .rename_i d t m1 hd;have e:=g _ _ _ _ _ h1.2.1 hn hd;split at h
    .simp at h
    .rename_i u j' x he;have:=mI g c _ _ _ _ _ _ e.2.1 e.2.2.2 he;simp only[ae_,ac_]at h;obtain⟨rfl,rfl,rfl⟩:=h;simp only[ay_];omega
def uz{s:BA}{R:PT->Nat->Nat->Except Nat (DT×Nat×Nat)}(e:∀t,GV s (R t)):∀(ts:List PT) (i n:Nat) (l:List DT) (j m:Nat),i<=s.size->n<=300->yZ R ts i n=.ok (l,j,m)->i<=j/\j<=s.size/\n+l.length<=m/\m<=300/\l.length=ts.length
 | [],i,n,l,j,m,hi,hn,h=>by
  simp only[yZ,ae_,ac_]at h;obtain⟨rfl,rfl,rfl⟩:=h;simp;omega
 |t::r,i,n,l,j,m,hi,hn,h=>by
  unfold yZ at h;split at h
  .simp at h
  .rename_i d g m1 hd;have a:=e t _ _ _ _ _ hi hn hd;split at h
   .simp at h
   .rename_i q j' u he;have:=uz e r _ _ _ _ _ a.2.1 a.2.2.2 he;simp only[ae_,ac_]at h;obtain⟨rfl,rfl,rfl⟩:=h;simp only[ay_];omega
def qK(s:BA)(env:Au):∀(f:Nat) (t:PT),GV s (rdB s env f t):=by
 intro f;induction f with
 |zero=>intro t i n d j m _ _ h;simp[rdB]at h
 |succ f ih=>
  intro t i n d j m hi hn h;unfold rdB at h;split at h
  .simp at h
  .rename_i g;split at h
   .rename_i c p;unfold wK at h;split at h
    .simp only[ae_,ac_]at h;omega
    .split at h
     .split at h
      .simp only[ae_,ac_]at h;omega
      .simp at h
     .split at h
      .split at h
       .simp at h
       .rename_i q a he;have:=yS he;simp only[ae_,ac_]at h;omega
      .split at h
       .split at h
        .simp at h
        .rename_i q a he;have:=cN he;simp only[ae_,ac_]at h;omega
       .split at h
        .split at h
         .simp at h
         .rename_i q a he;have:=kz he;simp only[ae_,ac_]at h;omega
        .split at h
         .simp at h
         .rename_i pb u;unfold jz at h;split at h
          .split at h
           .simp at h
           .rename_i ds a m1 he;have:=uz ih _ _ _ _ _ _ hi M_ he;simp only[ae_,ac_]at h;omega
          .split at h
           .simp at h
           .rename_i q a he;have:=yS he;simp only[ae_,ac_]at h;omega
          .split at h
           .simp at h
           .rename_i q a he;have:=wa hi he;simp only[ae_,ac_]at h;omega
   .rename_i c p t;unfold wQ at h;split at h
    .simp at h
    .rename_i q a he;have h1:=yS he;split at h
     .simp at h
     .rename_i l e m2 hl;have:=mI (ih t) _ _ _ _ _ _ _ h1.2.1 M_ hl;simp only[ae_,ac_]at h;omega
   .rename_i p ts;unfold qt at h;split at h
    .simp at h
    .rename_i q a he;have h1:=yS he;split at h
     .simp at h
     .rename_i t x;split at h
      .simp at h
      .rename_i d1 e m2 hd;have:=ih t _ _ _ _ _ h1.2.1 M_ hd;simp only[ae_,ac_]at h;omega
def dv:List UInt8->Nat
 | []=>0
 |c::r=>(c.toNat-48)*10 ^ r.length+dv r
def qB(l:Db):Prop:=∀c∈l,48<=c.toNat/\c.toNat<=57
def qB.tail{c:UInt8}{r:Db}(h:qB (c::r)):qB r:=λx hx=>h x (List.mem_cons_of_mem _ hx)
def mH:∀{l:List UInt8},qB l->dv l<10 ^ l.length
 | [],_=>by simp[dv]
 |c::r,h=>by
  have h1:=mH h.tail;have a:=h c (b2_ ..);have a:(c.toNat-48)*10 ^ r.length<=9*10 ^ r.length:=b6_ _ M_;simp only[dv,ay_,Nat.pow_succ];omega
def Vj{c:UInt8}{r:Db}(hc:49<=c.toNat):10 ^ r.length<=dv (c::r):=by
 have a:1*10 ^ r.length<=(c.toNat-48)*10 ^ r.length:=b6_ _ M_;simp only[dv];omega
def YR:∀{a b:List UInt8},a.length=b.length->qB a->qB b->(Op.bytesLess a b=true↔dv a<dv b)/\(a=b↔dv a=dv b)
 | [],[],_,_,_=>by simp[Op.bytesLess,dv]
 | [],_::_,h,_,_=>by simp at h
 | _::_,[],h,_,_=>by simp at h
 |x::a,y::b,h,ha,hb=>by
  have hl:a.length=b.length:=by simpa using h
  obtain⟨A,C⟩:=YR hl ha.tail hb.tail;have hx:=ha x (b2_ ..);have hy:=hb y (b2_ ..);have g:=mH ha.tail;have q:=mH hb.tail;rw[hl]at g;have z:(x<y)↔x.toNat<y.toNat:=UInt8.lt_iff_toNat_lt;have t:(x=y)↔x.toNat=y.toNat:=UInt8.toNat_inj.symm;simp only[Op.bytesLess,dv,hl,ax_,a0_,decide_eq_true_eq,beq_iff_eq,List.cons.injEq];rw[z,t,A,C];generalize 10 ^ b.length=p at g q⊢;generalize dv a=u at g⊢;generalize dv b=v at q⊢;generalize x.toNat=m at hx⊢;generalize y.toNat=n at hy⊢;rcases Nat.lt_trichotomy m n with h|h|h
  .have d:(m-48+1)*p<=(n-48)*p:=b6_ _ M_;rw[Nat.add_mul,Nat.one_mul]at d;exact⟨⟨λ_=>M_,λ_=>.inl h⟩,⟨λe=>M_,λe=>M_⟩⟩
  .subst h;exact⟨⟨λe=>M_,λe=>.inr ⟨rfl,M_⟩⟩,⟨λe=>M_,λe=>⟨rfl,M_⟩⟩⟩
  .have d:(n-48+1)*p<=(m-48)*p:=b6_ _ M_;rw[Nat.add_mul,Nat.one_mul]at d;exact⟨⟨λe=>M_,λe=>M_⟩,⟨λe=>M_,λe=>M_⟩⟩
def Bx{t T:Db}{c d:UInt8}{r R:Db}(g:t=c::r)(a:T=d::R)(dt:qB t)(dT:qB T)(hc:¬(c.toNat=48/\1<t.length))(hd:49<=d.toNat):(t.length<=T.length/\(t.length=T.length->(!Op.bytesLess t T && !(t==T))=false))↔dv t<=dv T:=by
 have lt:=mH dt;have m:=mH dT;have m:10 ^ R.length<=dv T:=by rw[a];exact Vj hd
 rcases Nat.lt_trichotomy t.length T.length with h|h|h
 .have h1:10 ^ t.length<=10 ^ R.length:=Nat.pow_le_pow_right D_ (by rw[a]at h;simp at h;omega);exact⟨λ_=>M_,λ_=>⟨M_,λe=>M_⟩⟩
 .obtain⟨o1,o2⟩:=YR h dt dT;constructor
  .rintro⟨_,m⟩;have q:=m h;by_cases hb:Op.bytesLess t T=true
   .have:=o1.1 hb;omega
   .by_cases he:t=T
    .have:=o2.1 he;omega
    .simp[hb,he]at q
  .intro u;refine⟨M_,λ_=>?_⟩;by_cases hb:Op.bytesLess t T=true
   .simp[hb]
   .have u:¬dv t<dv T:=λe=>hb (o1.2 e);have he:t=T:=o2.2 M_;simp[he]
 .have h1:49<=c.toNat:=by
   have:=dt c (by rw[g];exact b2_ ..);have u:0<T.length:=by rw[a];simp
   omega
  have m:10 ^ r.length<=dv t:=by rw[g];exact Vj h1
  have q:10 ^ T.length<=10 ^ r.length:=Nat.pow_le_pow_right D_ (by rw[g]at h;simp at h;omega);exact⟨λ⟨e,_⟩=>M_,λe=>M_⟩
def ly:∀{l:List UInt8}{acc:Nat},qB l->acc<=2 ^ 64-1->
 Lib.parseUintM (2 ^ 64-1) acc l=if acc*10 ^ l.length+dv l<=2 ^ 64-1 then .ok (acc*10 ^ l.length+dv l) else .range
 | [],acc,_,h=>by simp only[Lib.parseUintM,dv,a1_,Nat.pow_zero,Nat.mul_one,b3_];rw[i_ h]
 |c::r,acc,hd,h=>by
  have hc:=hd c (b2_ ..);have e:acc*10 ^ (c::r).length+dv (c::r)=(acc*10+(c.toNat-48))*10 ^ r.length+dv r:=by
   simp only[dv,ay_,Nat.pow_succ,Nat.add_mul];rw[Nat.mul_assoc acc 10,bi_ 10 (10 ^ r.length)];omega
  have hp:1<=10 ^ r.length:=Nat.one_le_pow _ _ D_;have a:acc*10+(c.toNat-48)<=(acc*10+(c.toNat-48))*10 ^ r.length:=by
   have:=Nat.mul_le_mul_left (acc*10+(c.toNat-48)) hp;omega
  rw[e];unfold Lib.parseUintM;rw[i_ hc];by_cases h1:1844674407370955162<=acc
  .rw[i_ h1,n_ M_]
  .rw[n_ h1];by_cases a:2 ^ 64-1<acc*10+(c.toNat-48)
   .rw[i_ a,n_ M_]
   .rw[n_ a];exact ly hd.tail M_
def tW(hl:l≠[])(hd:qB l):Lib.parseUintB 64 l=if dv l<=2 ^ 64-1 then .ok (dv l) else .range:=by
 unfold Lib.parseUintB;rw[n_ hl,ly hd M_];simp
def XT(hl:l≠[])(hd:qB l):Lib.parseIntB 64 l=if dv l<2 ^ 63 then .ok (dv l:Int) else .range:=by
 cases l with
 |nil=>exact absurd rfl hl
 |cons c r=>
  have hc:=hd c (b2_ ..);unfold Lib.parseIntB;simp only;rw[n_ M_,tW x8_ hd];by_cases h1:dv (c::r)<2 ^ 63
  .rw[i_ h1,i_ M_];simp only;rw[n_ M_,n_ M_,n_ M_]
  .rw[n_ h1];by_cases a:dv (c::r)<=2 ^ 64-1
   .rw[i_ a];simp only;rw[i_ M_]
   .rw[n_ a]
def XN(hl:l≠[])(hd:qB l):Lib.parseIntB 64 (45::l)=if dv l<=2 ^ 63 then .ok (-(dv l:Int)) else .range:=by
 unfold Lib.parseIntB;simp only;rw[i_ D_,tW hl hd];by_cases h1:dv l<=2 ^ 63
 .rw[i_ h1,i_ M_];simp only;rw[n_ (λh=>h.1 D_),n_ M_,i_ D_]
 .rw[n_ h1];by_cases a:dv l<=2 ^ 64-1
  .rw[i_ a];simp only;rw[n_ (λh=>h.1 D_),i_ ⟨D_,M_⟩]
  .rw[n_ a]
def dJ(kd:Nat)(neg:Ar):Nat:=if kd=105 then (if neg=true then 2147483648 else 2147483647) else (if neg=true then 9223372036854775808 else 9223372036854775807)
def VY(kd:Nat)(neg:Ar):∃d R,(qD kd neg).data.toList=d::R/\qB (qD kd neg).data.toList/\49<=d.toNat/\dv (qD kd neg).data.toList=dJ kd neg:=by
 unfold qD dJ;by_cases h:kd=105<;>cases neg<;>simp only[h,if_true,if_false,be_]
 all_goals exact⟨_,_,rfl,(by unfold qB;decide),D_,D_⟩
def Vg{t:BA}{c:UInt8}{r:Db}(h:t.data.toList=c::r):bt t 0=c.toNat:=by
 obtain⟨⟨l⟩⟩:=t;simp only at h;subst h;rfl
def tR{neg:Ar}{t:BA}(hd:qB t.data.toList):qE kd neg t↔0<t.size/\¬(bt t 0=48/\(1<t.size\/neg=true))/\dv t.data.toList<=dJ kd neg:=by
 obtain⟨d,R,h1,m,q,a⟩:=VY kd neg;have hz:∀x:BA,x.size=x.data.toList.length:=λx=>Array.length_toList.symm;unfold qE;rw[ByteArray.toList_eq,ByteArray.toList_eq,<- a];constructor
 .rintro⟨a,g2,g⟩;refine⟨a,g2,?_⟩;cases hl:t.data.toList with
  |nil=>have h:=hz t;rw[hl,a1_]at h;omega
  |cons c r=>
   rw[<- hl];have hb:=Vg hl;exact(Bx hl h1 hd m ys_ q).1 (by rw[<- hz,<- hz];exact g)
 .rintro⟨a,g2,g⟩;refine⟨a,g2,?_⟩;cases hl:t.data.toList with
  |nil=>have h:=hz t;rw[hl,a1_]at h;omega
  |cons c r=>
   rw[<- hl];have hb:=Vg hl;have:=(Bx hl h1 hd m ys_ q).2 g;rw[<- hz,<- hz]at this;exact this
def qo(lo hi:Nat)(s:BA):∀n i,s.size-i<=n->∀k,i<=k->k<zJ lo hi s i->lo<=bt s k/\bt s k<=hi:=by
 intro n;induction n with
 |zero=>
  intro i hn k h1 a;by_cases hb:lo<=bt s i/\bt s i<=hi
  .by_cases hk:k=i
   .subst hk;exact hb
   .unfold zJ at a;simp only[dif_neg (show ¬i<s.size by omega)]at a;omega
  .rw[vN hb]at a;omega
 |succ n ih=>
  intro i hn k h1 a;by_cases hb:lo<=bt s i/\bt s i<=hi
  .by_cases d:i<s.size
   .rw[gS d hb]at a;by_cases hk:k=i
    .subst hk;exact hb
    .exact ih (i+1) M_ k M_ a
   .exact ih i M_ k h1 a
  .rw[vN hb]at a;omega
def mL{s:BA}{a:Nat}{c:UInt8}(h:c∈(s.extract a b).data.toList):∃k,a<=k/\k<b/\bt s k=c.toNat:=by
 rw[Array.mem_toList_iff,Array.mem_iff_getElem]at h;obtain⟨q,d,he⟩:=h;have e:q<(s.extract a b).size:=d;rw[bk_]at e;refine⟨a+q,M_,M_,?_⟩;unfold bt;rw[dif_pos M_,<- he]
 congr 1
 exact(ByteArray.getElem_extract ..).symm
def rW(s:BA)(i:Nat):qB (s.extract i (zJ 48 57 s i)).data.toList:=by
 intro c hc;obtain⟨k,h1,a,d⟩:=mL hc;have:=qo 48 57 s _ i l_ k h1 a;omega
def bN{s:BA}{e:Nat}(h1:i<e)(a:e<=s.size):(s.extract i e).data.toList=(s[i]' M_)::(s.extract (i+1) e).data.toList:=by
 obtain⟨⟨l⟩⟩:=s;have hl:e<=l.length:=a;simp only[ByteArray.data_extract,List.extract_toArray,List.extract_eq_take_drop];have hd:l.drop i=l[i]::l.drop (i+1):=bo_ M_;rw[hd,show e-i=(e-(i+1))+1 by omega,List.take_succ_cons];rfl
def loV(kd:Nat):Int:=if kd=105 then -2147483648 else -9223372036854775808
def hiV(kd:Nat):Int:=if kd=105 then 2147483647 else 9223372036854775807
def aS{s:BA}(h0:0<(zS s i).size)(hz:¬(bt (zS s i) 0=48/\(1<(zS s i).size\/xK s i=true))):qE kd (xK s i) (zS s i)↔∃v,Lib.parseIntB 64 (s.extract i (yo s i)).data.toList=.ok v/\loV kd<=v/\v<=hiV kd:=by
 have hd:qB (zS s i).data.toList:=rW s (sgn s i);have t:(zS s i).data.toList≠[]:=by
  intro e;have hs:(zS s i).size=(zS s i).data.toList.length:=Array.length_toList.symm;rw[e,a1_]at hs;omega
 rw[tR hd];by_cases a:bt s i=45
 .have h:xK s i=true:=by unfold xK;rw[a];rfl
  have m:i<s.size:=by
   by_cases d:i<s.size
   .exact d
   .unfold bt at a;rw[dif_neg d]at a;exact absurd a D_
  have hs:sgn s i=i+1:=by unfold sgn;rw[i_ a]
  have d:=yR 48 57 s _ (i+1) l_;have he:(s.extract i (yo s i)).data.toList=45::(zS s i).data.toList:=by
   unfold zS yo;rw[hs,bN M_ (d.2 M_)]
   congr 1
   unfold bt at a;rw[dif_pos m]at a;exact UInt8.toNat_inj.1 a
  rw[he,XN t hd,h];generalize dv (zS s i).data.toList=n;unfold dJ loV hiV;rw[h]at hz;constructor
  .rintro⟨_,_,g⟩;refine⟨-(n:Int),?_,?_,?_⟩
   .rw[i_ (by split at g<;>simp at g<;>omega)]
   .split at g<;>simp at g<;>simp_all<;>omega
   .split<;>omega
  .rintro⟨v,d,m,q⟩;refine⟨h0,hz,?_⟩;split at d
   .cases d;split at m<;>simp_all<;>omega
   .cases d
 .have h:xK s i=false:=by
   unfold xK;exact beq_eq_false_iff_ne.2 M_
  have hs:sgn s i=i:=by unfold sgn;rw[n_ a]
  have he:s.extract i (yo s i)=zS s i:=by unfold zS;rw[hs]
  rw[he,XT t hd,h];generalize dv (zS s i).data.toList=n;unfold dJ loV hiV;rw[h]at hz;constructor
  .rintro⟨_,_,g⟩;refine⟨(n:Int),?_,?_,?_⟩
   .rw[i_ (by split at g<;>simp at g<;>omega)]
   .split<;>omega
   .split at g<;>simp at g<;>simp_all<;>omega
  .rintro⟨v,d,m,q⟩;refine⟨h0,hz,?_⟩;split at d
   .cases d;split at q<;>simp_all<;>omega
   .cases d
def zQ(k:Nat)(n:Int)(tx:BA)(vk vs:Ax):List Value:=[U_ k,Z_ n,.string tx,vk,vs]
def yr{w:Aw}{base:Nat}{e:Av}{size:Nat}{n:Nat}{xs:Ay}(h:w.ownsRow base e size v n xs):w.ownsRow 0 e size v n xs:=by
 refine⟨h.1,?_⟩;rcases h.2 with h0|⟨g,d,m,a,b,c⟩
 .exact .inl h0
 .exact .inr ⟨g,d,m,a,al_ _,c⟩
def xf(n:Nat)(X Y:Nat->List Value)(h:∀i,i<n->X i=Y i):(List.range n).flatMap X=(List.range n).flatMap Y:=by
 induction n with
 |zero=>rfl
 |succ n ih=>rw[br_,a9_,a9_,ih (λi hi=>h i M_)];simp[h n M_]
mutual
def isT(ts:Ap)(k:Nat):PT->Prop
 | .leaf c _=>ts[k]?=some ⟨c,[]⟩
 | .wrap c _ t=>∃j,ts[k]?=some ⟨c,[j]⟩/\isT ts j t
 | .alts _ l=>∃js,ts[k]?=some ⟨40,js⟩/\cX ts js l
def cX(ts:Ap)(js:Ao):List PT->Prop
 | []=>js=[]
 |t::r=>∃j q,js=j::q/\isT ts j t/\cX ts q r
end
def PT.isAlts:PT->Bool
 | .alts _ _=>true
 | _=>false
mutual
def okT(env:Au):PT->Prop
 | .leaf c _=>zr c=true\/(zo c=true/\∃pb,env c=some pb)
 | .wrap c _ t=>(c=91\/c=123)/\okT env t
 | .alts _ l=>l≠[]/\iu env l
def iu(env:Au):List PT->Prop
 | []=>True
 |t::r=>t.isAlts=false/\okT env t/\iu env r
end
def okB(env:Au):PB->Prop
 | .recd fs=>∀f∈fs,okT env f.ty
 | .enum l _=>(∀c∈l.map Prod.fst,0<c)/\l.length<=300
 | .bytes n=>n<=9
def jT(env:Au):Prop:=∀c pb,env c=some pb->okB env pb
def cq(w:World)(P:Nat->Prop)(tv:Value)(ts:List TR):Prop:=
 ∃xs,w.ownsRow 0 112 2 tv ts.length xs/\(∀g,tv.ownBlock=some g->P g)/\
  ∀k t,ts[k]?=some t->∃sv,xs[2*k]?=some (U_ t.kind)/\xs[2*k+1]?=some sv/\w.ownsRow 0 3 1 sv t.subs.length (t.subs.map λ(n:Nat)=>Value.int .i64 (n:Int))/\∀g,sv.ownBlock=some g->P g
def fK(w:Aw)(P:Az)(ts:Ap)(pb:PB)(so:Int)(fv:Ax)(sb:BA)(n:Int):Prop:=
 (∃a m c,fv=.slice a m c)/\(∀g,fv.ownBlock=some g->P g)/\
 match pb with
 | .recd fs=>so=114/\∃xs,w.ownsRow 0 79 10 fv fs.length xs/\∀q f,fs[q]?=some f->∃num:Nat,xs[10*q+1]?=some (Z_ (num:Int))/\isT ts num f.ty
 | .enum l _=>so=101/\sb.data.toList.map UInt8.toNat=l.map Prod.fst
 | .bytes k=>so=102/\n=(k:Int)
structure ZAt(w:Aw)(P:Az)(bz:Nat)(ts:Ap)(env:Au):Prop where
 zP:P bz
 z:∃tv zs,Blk w bz (tv::zs) 45/\cq w P tv ts/\
  ∀k,k<6->∀pb,env (65+k)=some pb->∃(so:Int) (fv:Value) (sb:BA) (o n:Int),(∀p,p<5->zs[5*k+p]?=[Value.int .u8 so,fv,Value.string sb,Value.int .i64 o,Value.int .i64 n][p]?)/\fK w P ts pb so fv sb n
def cq.fr{w:World}{P:Nat->Prop}{tv:Value}{ts:List TR}(h:cq w P tv ts)(hf:Fr w w' S)(d:∀g,P g->¬S g):cq w' P tv ts:=by
 obtain⟨xs,a,b,c⟩:=h;refine⟨xs,zj a hf (λg e=>d g (b g e)),b,λk t m=>?_⟩;obtain⟨sv,c1,c2,c3,c4⟩:=c k t m;exact⟨sv,c1,c2,zj c3 hf (λg e=>d g (c4 g e)),c4⟩
def fK.fr{w:Aw}{P:Az}{ts:Ap}{pb:PB}{so:Int}{fv:Ax}{sb:BA}{n:Int}(h:fK w P ts pb so fv sb n)(hf:Fr w w' S)(d:∀g,P g->¬S g):fK w' P ts pb so fv sb n:=by
 obtain⟨a,b,c⟩:=h;refine⟨a,b,?_⟩;cases pb with
 |recd fs=>
  obtain⟨c1,xs,c2,c3⟩:=c;exact⟨c1,xs,zj c2 hf (λg e=>d g (b g e)),c3⟩
 |enum l o=>exact c
 |bytes k=>exact c
def ZAt.fr{w:Aw}{P:Az}{bz:Nat}{ts:Ap}{env:Au}(h:ZAt w P bz ts env)(hf:Fr w w' S)(d:∀g,P g->¬S g):ZAt w' P bz ts env:=by
 refine⟨h.zP,?_⟩;obtain⟨tv,zs,a,b,c⟩:=h.z;refine⟨tv,zs,hf.bl a (d _ h.zP),b.fr hf d,λk hk pb hp=>?_⟩;obtain⟨so,fv,sb,o,n,c1,c2⟩:=c k hk pb hp;exact⟨so,fv,sb,o,n,c1,c2.fr hf d⟩
def zt{w:Aw}{base:Nat}{e:Av}{size:Nat}{n:Nat}{xs:Ay}(h:w.ownsRow base e size v n xs){g cap:Nat}(hv:v=S_ g n cap){k:Nat}{x:Ax}(hx:xs[k]?=some x):w.cell? ⟨g,k,none⟩=some x:=by
 have a:k<xs.length:=(ai_.1 hx).1;rcases h.2 with⟨hn,_⟩|⟨g',a,a,d,hb,hg,_,_,_,a⟩
 .rw[hn]at hv;cases hv
 .rw[d]at hv;cases hv;simp only[World.cell?,hg];rw[<- a,cd_]at hx;split at hx
  .simpa using hx
  .cases hx
def ZAt.type{w:Aw}{P:Az}{bz:Nat}{ts:Ap}{env:Au}(h:ZAt w P bz ts env){k:Nat}{t:TR}(e:ts[k]?=some t):∃g n d sv,w.cell? ⟨bz,0,none⟩=some (S_ g n d)/\k<n/\w.cell? ⟨g,k*2,none⟩=some (U_ t.kind)/\w.cell? ⟨g,k*2+1,none⟩=some sv/\
  w.ownsRow 0 3 1 sv t.subs.length (t.subs.map λ(n:Nat)=>Value.int .i64 (n:Int))/\∀g,sv.ownBlock=some g->P g:=by
 obtain⟨tv,zs,a,⟨xs,b1,b2,b3⟩,c⟩:=h.z;obtain⟨sv,c1,c2,c3,c4⟩:=b3 k t e;have hk:k<ts.length:=(ai_.1 e).1;obtain⟨g,d,hv⟩:=zp b1 M_;refine⟨g,ts.length,d,sv,?_,hk,zt b1 hv (by rw[bi_];exact c1),zt b1 hv (by rw[bi_];exact c2),c3,c4⟩;rw[a.cell 0,hv];rfl
mutual
def rZ(ts:Ap):∀(t:PT) (b:Nat),(∀q x,(flat b t)[q]?=some x->ts[b+q]?=some x)->isT ts (b+(flat b t).length-1) t
 | .leaf c p,b,h=>by
  simp only[flat,isT,ap_,Nat.add_sub_cancel];exact h 0 _ rfl
 | .wrap c p t,b,h=>by
  have hp:=oB b t;have h1:=rZ ts t b (λq x a=>h q x (by rw[flat,aq_ (ai_.1 a).1];exact a));have d:=h (flat b t).length ⟨c,[b+(flat b t).length-1]⟩ (by rw[flat,au_ l_];simp);simp only[isT];refine⟨_,?_,h1⟩;rw[flat,ah_,ap_,show b+((flat b t).length+1)-1=b+(flat b t).length by omega];exact d
 | .alts p l,b,h=>by
  have h1:=pf ts l b (λq x a=>h q x (by rw[flat,aq_ (ai_.1 a).1];exact a));have d:=h (zT b l).length ⟨40,jN b l⟩ (by rw[flat,au_ l_];simp);simp only[isT];refine⟨_,?_,h1⟩;rw[flat,ah_,ap_,show b+((zT b l).length+1)-1=b+(zT b l).length by omega];exact d
def pf(ts:Ap):∀(l:List PT) (b:Nat),(∀q x,(zT b l)[q]?=some x->ts[b+q]?=some x)->cX ts (jN b l) l
 | [],b,h=>by simp[cX,jN]
 |t::r,b,h=>by
  have h1:=rZ ts t b (λq x a=>h q x (by rw[zT,aq_ (ai_.1 a).1];exact a));have d:=pf ts r (b+(flat b t).length) (λq x a=>by
   rw[bw_]
   refine h _ x ?_
   rw[zT,au_ M_,cg_]
   exact a)
  simp only[cX];exact⟨_,_,by rw[jN],h1,d⟩
end
def XD{ts:Ap}:∀{l:List PT}{js:List Nat},cX ts js l->∀(q:Nat) (t:PT),l[q]?=some t->∃j,js[q]?=some j/\isT ts j t
 | [],js,h,q,t,ht=>by simp at ht
 |u::r,js,h,q,t,ht=>by
  simp only[cX]at h;obtain⟨j,d,rfl,h1,a⟩:=h;cases q with
  |zero=>simp only[aa_,af_]at ht;subst ht;exact⟨j,rfl,h1⟩
  |succ q=>rw[ab_]at ht⊢;exact XD a q t ht
def oV{ts:Ap}:∀{l:List PT}{js:List Nat},cX ts js l->js.length=l.length
 | [],js,h=>by simp only[cX]at h;subst h;rfl
 |u::r,js,h=>by
  simp only[cX]at h;obtain⟨j,a,rfl,h1,a⟩:=h;simp[oV a]
def vW{env:Au}:∀{l:List PT},iu env l->∀t∈l,t.isAlts=false/\okT env t
 | [],h,t,a=>by simp at a
 |u::r,h,t,a=>by
  simp only[iu]at h;rcases an_.1 a with rfl|a
  .exact⟨h.1,h.2.1⟩
  .exact vW h.2.2 t a
mutual
def shT:PT->Prop
 | .leaf c _=>zr c=true\/zo c=true
 | .wrap c _ t=>(c=91\/c=123)/\shT t
 | .alts _ l=>l≠[]/\az l
def az:List PT->Prop
 | []=>True
 |t::r=>shT t/\az r
end
def Fp(s:BA)(f:Nat):(∀i t j,ve s f i=.ok (t,j)->shT t)/\(∀i ts j,yO s f i=.ok (ts,j)->ts≠[]/\az ts):=by
 have cc1:=Nat
 exact cq8_
def aX{s:BA}{t:PT}{j:Nat}(h:pT s i=.ok (t,j)):shT t:=(Fp s _).1 i t j h
def Yu{a:Ao}{t:PT}{m:Int}(h:qG a t m<0):m<0/\t.kind≠40:=by
 unfold qG at h;split at h
 .omega
 .rename_i hc;refine⟨h,λe=>hc ⟨.inl e,.inl h⟩⟩
def JK{t:PT}(h:t.kind≠40):t.isAlts=false:=by
 cases t<;>simp_all [PT.kind,PT.isAlts]
mutual
def lU(env:Au):∀(t:PT) (m:Int),shT t->mix t m<0->(∀u∈za t,∃pb,env u.1=some pb)->m<0/\okT env t
 | .leaf c p,m,hs,hm,hu=>by
  simp only[mix]at hm;refine⟨hm,?_⟩;simp only[okT];cases hb:zr c with
  |true=>exact .inl rfl
  |false=>
   simp only[shT,hb]at hs;refine .inr ⟨hs.resolve_left D_,?_⟩;exact hu (c,p) (by simp[za,hb])
 | .wrap c p t,m,hs,hm,hu=>by
  simp only[shT]at hs;have:=lU env t m hs.2 hm hu;exact⟨this.1,hs.1,this.2⟩
 | .alts p l,m,hs,hm,hu=>by
  simp only[shT]at hs;have:=XG env l [] m hs.2 hm hu;exact⟨this.1,hs.1,this.2⟩
def XG(env:Au):∀(l:List PT) (a:List Nat) (m:Int),az l->qh a l m<0->(∀u∈zZ l,∃pb,env u.1=some pb)->m<0/\iu env l
 | [],a,m,hs,hm,hu=>⟨hm,trivial⟩
 |t::r,a,m,hs,hm,hu=>by
  simp only[az]at hs;simp only[qh]at hm;have h1:=XG env r _ _ hs.2 hm (λu a=>hu u (by rw[zZ];exact b4_ _ a));have d:=Yu h1.1;have e:=lU env t m hs.1 d.1 (λu a=>hu u (by rw[zZ];exact by_ _ a));exact⟨e.1,JK d.2,e.2,h1.2⟩
end
def zX:List Value:=zQ 0 0 noB (L_) (L_)
structure DM(w:Aw)(P:Az)(bl:Nat)(s:BA)(bz:Nat)(pl:Ar)(j:Nat)(bad:Ar)(ts:Ap)(env:Au)(W:Aw):Prop where
 L:LAt W bl s bz pl j bad
 Z:ZAt W P bz ts env
 nP:¬P bl
 Plt:∀g,P g->g<w.heap.size
 lt:bl<w.heap.size
 fr:Fr w W (· = bl)
 jl:j<=s.size
 sl:s.size<=4000
section
variable {w W W':Aw} {P:Az} {bl:Nat} {s:BA} {bz:Nat} {pl:Ar} {j j':Nat} {bad bad':Ar} {ts:Ap} {env:Au}
def DM.call(M:DM w P bl s bz pl j bad ts env W)(a:LAt W' bl s bz pl j' bad')(hf:Fr W W' (· = bl))(d:j'<=s.size):DM w P bl s bz pl j' bad' ts env W':=
 ⟨a,M.Z.fr hf (λ_ hg e=>M.nP (e▸hg)),M.nP,M.Plt,M.lt,M.fr.trans hf u_,d,M.sl⟩
def DM.si(M:DM w P bl s bz pl j bad ts env W)(h:zq W W'):DM w P bl s bz pl j bad ts env W':=M.call (M.L.si h) ((A_ W _).si h) M.jl
def DM.inc(M:DM w P bl s bz pl j bad ts env W)(h:j<s.size):DM w P bl s bz pl (j+1) bad ts env (W.setCell ⟨bl,1,none⟩ (Z_ ((j:Int)+1))):=M.call M.L.inc (X_ _ _ _) h
def DM.sp(M:DM w P bl s bz pl j bad ts env W):DM w P bl s bz pl j true ts env (W.setCell ⟨bl,2,none⟩ (.bool true)):=M.call M.L.sp (X_ _ _ _) M.jl
def DM.own(M:DM w P bl s bz pl j bad ts env W)(hf:Fr W W' (λg=>w.heap.size<=g)):DM w P bl s bz pl j bad ts env W':=by
 have:=M.lt;exact⟨hf.bl M.L M_,M.Z.fr hf (λg hg=>by have:=M.Plt g hg;omega),M.nP,M.Plt,M.lt,M.fr.trans hf (λx hx e=>absurd e M_),M.jl,M.sl⟩
def DM.alloc(M:DM w P bl s bz pl j bad ts env W)(o:Obj):DM w P bl s bz pl j bad ts env (W.alloc o):=M.own ((A_ W _).alloc o)
def DM.put(M:DM w P bl s bz pl j bad ts env W)(a:Addr)(v:Ax)(h:w.heap.size<=a.block):DM w P bl s bz pl j bad ts env (W.setCell a v):=M.own ((A_ W _).setCell a v (λ_=>h))
def DM.here(M:DM w P bl s bz pl j bad ts env W):DM W P bl s bz pl j bad ts env W:=
 ⟨M.L,M.Z,M.nP,λg hg=>bg_ (M.Plt g hg) M.fr.size,bg_ M.lt M.fr.size,A_ _ _,M.jl,M.sl⟩
end
def zC(w:Aw)(bl:Nat)(s:BA)(bz:Nat)(pl:Ar)(r:Dm)(e:Ak)(w':Aw):Prop:=
 ∃(k:Nat) (n:Int) (tx:BA) (a1:Option Addr) (m1 c1:Nat) (a2:Option Addr) (m2 c2:Nat),e=.returned (.agg (zQ k n tx (.slice a1 m1 c1) (.slice a2 m2 c2)).toArray)/\Fr w w' (· = bl)/\
 match r with
 |none=>∃j,j<=s.size/\LAt w' bl s bz pl j true
 |some (_,j)=>j<=s.size/\LAt w' bl s bz pl j false
def vR(s:BA)(env:Au)(pl:Ar)(ts:Ap)(f:Nat)(t:PT)(i:Nat):Prop:=
 ∀(w:World) (P:Nat->Prop) (bl bz k:Nat),DM w P bl s bz pl i false ts env w->isT ts k t->
  Calls prog 40 #[P_ bl,I_ k] w (zC w bl s bz pl (rdT s env pl f t i))
section
variable {w W W':Aw} {P:Az} {bl:Nat} {s:BA} {bz:Nat} {pl:Ar} {j:Nat} {ts:Ap} {env:Au} {k:Nat} {n:Int} {tx:BA} {a1 a2:Al} {m1 c1 m2 c2:Nat} {r:Dm}
def cq32_{p:Prop}(h:p:=by
 have a:=M.own (hF.mono (λ_ _ e=>M_));cases r with
 |none=>cases hr
 |some q=>
  obtain rfl:q.2=j:=by simpa using hr
  exact⟨k,n,tx,_,_,_,_,_,_,rfl,a.fr,M.jl,a.L⟩):p:=h
def vq(M:DM w P bl s bz pl j false ts env W)(hF:Fr W W' (λg=>g=w.heap.size))(hr:r.map Prod.snd=some j):zC w bl s bz pl r (.returned (.agg (zQ k n tx (.slice a1 m1 c1) (.slice a2 m2 c2)).toArray)) W':=by
 exact cq32_
def vD(M:DM w P bl s bz pl j true ts env W)(d:Fr W W' (λg=>g=w.heap.size))(hr:r=none):zC w bl s bz pl r (.returned (.agg (zQ k n tx (.slice a1 m1 c1) (.slice a2 m2 c2)).toArray)) W':=by
 have a:=M.own (d.mono (λ_ _ e=>M_));subst hr;exact⟨k,n,tx,_,_,_,_,_,_,rfl,a.fr,j,M.jl,a.L⟩
end
def dw(w:Aw)(c:Nat)(sv:Ax):World:=
 ((w.alloc (.cells zX.toArray 77)).alloc (.cells #[U_ c,sv] 112)).alloc (.cells (zQ c 0 noB (L_) (L_)).toArray 77)
def tm(w:Aw)(c:Nat)(sv:Ax):Blk (dw w c sv) w.heap.size zX 77:=((B_ w _ _).alloc _).alloc _
def iI(w:Aw)(c:Nat)(sv:Ax):Blk (dw w c sv) (w.heap.size+1) [U_ c,sv] 112:=by
 have:=(B_ (w.alloc (.cells zX.toArray 77)) #[U_ c,sv] 112).alloc (.cells (zQ c 0 noB (L_) (L_)).toArray 77);simpa[dw] using this
def oH(w:Aw)(c:Nat)(sv:Ax):Blk (dw w c sv) (w.heap.size+2) (zQ c 0 noB (L_) (L_)) 77:=by
 have:=B_ ((w.alloc (.cells zX.toArray 77)).alloc (.cells #[U_ c,sv] 112)) (zQ c 0 noB (L_) (L_)).toArray 77;simpa[dw] using this
def iS{w:Aw}{P:Az}{bl:Nat}{s:BA}{bz:Nat}{pl:Ar}{j:Nat}{bad:Ar}{ts:Ap}{env:Au}(M:DM w P bl s bz pl j bad ts env w)(c:Nat)(sv:Ax):DM w P bl s bz pl j bad ts env (dw w c sv):=((M.alloc _).alloc _).alloc _
structure LM(w:Aw)(P:Az)(bl:Nat)(s:BA)(bz:Nat)(pl:Ar)(j:Nat)(bad:Ar)(ts:Ap)(env:Au)(b0 b1 B c:Nat)(vk vs:Ax)(ks:Dx)(n:Nat)(xs:Ay)(W:Aw):Prop where
 M:DM w P bl s bz pl j bad ts env W
 hb:w.heap.size<=b0/\b0<b1/\b1<B
 bB:B<=W.heap.size
 r0:Blk W b0 zX 77
 r1:Blk W b1 (zQ c 0 noB vk vs) 77
 kr:W.ownsRow B 9 1 vk ks.length (ks.map Value.string)
 vr:W.ownsRow B 77 5 vs n xs
 ap:∀g,vk.ownBlock=some g->vs.ownBlock≠some g
section
variable {w W W':Aw} {P:Az} {bl:Nat} {s:BA} {bz:Nat} {pl:Ar} {j j':Nat} {bad bad':Ar} {ts:Ap} {env:Au} {b0 b1 B c:Nat} {vk vs:Ax} {ks:Dx} {n:Nat} {xs:Ay}
def LM.call(Q:LM w P bl s bz pl j bad ts env b0 b1 B c vk vs ks n xs W)(a:LAt W' bl s bz pl j' bad')(hf:Fr W W' (· = bl))(d:j'<=s.size):LM w P bl s bz pl j' bad' ts env b0 b1 B c vk vs ks n xs W':=by
 have h1:=Q.M.lt;have h:=Q.hb;exact⟨Q.M.call a hf d,Q.hb,aj_ Q.bB hf.size,hf.bl Q.r0 M_,hf.bl Q.r1 M_,zj Q.kr hf (λg hg e=>by have:=Q.kr.lt g hg;omega),zj Q.vr hf (λg hg e=>by have:=Q.vr.lt g hg;omega),Q.ap⟩
def LM.si(Q:LM w P bl s bz pl j bad ts env b0 b1 B c vk vs ks n xs W)(h:zq W W'):LM w P bl s bz pl j bad ts env b0 b1 B c vk vs ks n xs W':=Q.call (Q.M.L.si h) ((A_ W _).si h) Q.M.jl
def LM.inc(Q:LM w P bl s bz pl j bad ts env b0 b1 B c vk vs ks n xs W)(h:j<s.size):LM w P bl s bz pl (j+1) bad ts env b0 b1 B c vk vs ks n xs (W.setCell ⟨bl,1,none⟩ (Z_ ((j:Int)+1))):=Q.call Q.M.L.inc (X_ _ _ _) h
def LM.sp(Q:LM w P bl s bz pl j bad ts env b0 b1 B c vk vs ks n xs W):LM w P bl s bz pl j true ts env b0 b1 B c vk vs ks n xs (W.setCell ⟨bl,2,none⟩ (.bool true)):=Q.call Q.M.L.sp (X_ _ _ _) Q.M.jl
def LM.alloc(Q:LM w P bl s bz pl j bad ts env b0 b1 B c vk vs ks n xs W)(o:Obj):LM w P bl s bz pl j bad ts env b0 b1 B c vk vs ks n xs (W.alloc o):=
 ⟨Q.M.alloc o,Q.hb,by have:=Q.bB;simp;omega,Q.r0.alloc o,Q.r1.alloc o,World.ownsRow.alloc Q.kr o,World.ownsRow.alloc Q.vr o,Q.ap⟩
def LM.key(Q:LM w P bl s bz pl j bad ts env b0 b1 B c vk vs ks n xs W){d:Ax}{key:BA}(hg:(W.alloc o).grownBy w5 vk.ownBlock)(ho:w5.ownsRow B 9 1 d (ks.length+1) (ks.map Value.string++[.string key]))(hl:d.ownBlock=vk.ownBlock\/d.ownBlock=some (W.alloc o).heap.size):LM w P bl s bz pl j bad ts env b0 b1 B c d vs (ks++[key]) n xs (w5.setCell ⟨b1,3,none⟩ d):=by
 have hb:=Q.hb;have x:=Q.bB;have m:Fr W w5 (λg=>vk.ownBlock=some g):=Y_ ((A_ W _).alloc o) hg (λk e _=>e);have hv:∀g,d.ownBlock=some g->B<=g/\(vk.ownBlock=some g\/W.heap.size<=g):=λg a=>by
  rcases hl with e|e
  .exact⟨(Q.kr.lt g (e▸a)).1,.inl (e▸a)⟩
  .rw[e]at a;simp only[af_]at a;have:(W.alloc o).heap.size=W.heap.size+1:=x8_
   exact⟨M_,.inr M_⟩
 have t:Fr w5 (w5.setCell ⟨b1,3,none⟩ d) (λg=>g=b1):=(A_ w5 (λg=>g=b1)).setCell ⟨b1,3,none⟩ d (λ_=>rfl);have h:Fr W (w5.setCell ⟨b1,3,none⟩ d) (λg=>vk.ownBlock=some g\/g=b1):=(m.mono (λ_ _ e=>.inl e)).trans t (λ_ _ e=>.inr e);have u:=m.bl Q.r1 (λe=>by have:=Q.kr.lt _ e;omega);refine⟨Q.M.own (h.mono (λg _ e=>?_)),Q.hb,aj_ x h.size,h.bl Q.r0 (λe=>?_),u.set 3 d,?_,zj Q.vr h (λg a e=>?_),λg a e=>?_⟩
 .rcases e with e|e
  .have:=Q.kr.lt g e;omega
  .omega
 .rcases e with e|e
  .have:=Q.kr.lt _ e;omega
  .omega
 .rw[ah_,ap_,bb_,av_,ba_];exact zj ho t (λg a e=>by have:=hv g a;omega)
 .rcases e with e|e
  .exact Q.ap g e a
  .have:=Q.vr.lt _ a;omega
 .rcases(hv g a).2 with q|q
  .exact Q.ap g q e
  .have:=Q.vr.lt _ e;omega
def LM.item(Q:LM w P bl s bz pl j bad ts env b0 b1 B c vk vs ks n xs W){d:Ax}{v:Ay}(hg:(W.alloc o).grownBy w5 vs.ownBlock)(ho:w5.ownsRow B 77 5 d (n+1) (xs++v))(hl:d.ownBlock=vs.ownBlock\/d.ownBlock=some (W.alloc o).heap.size):LM w P bl s bz pl j bad ts env b0 b1 B c vk d ks (n+1) (xs++v) (w5.setCell ⟨b1,4,none⟩ d):=by
 have hb:=Q.hb;have x:=Q.bB;have m:Fr W w5 (λg=>vs.ownBlock=some g):=Y_ ((A_ W _).alloc o) hg (λk e _=>e);have hv:∀g,d.ownBlock=some g->B<=g/\(vs.ownBlock=some g\/W.heap.size<=g):=λg a=>by
  rcases hl with e|e
  .exact⟨(Q.vr.lt g (e▸a)).1,.inl (e▸a)⟩
  .rw[e]at a;simp only[af_]at a;have:(W.alloc o).heap.size=W.heap.size+1:=x8_
   exact⟨M_,.inr M_⟩
 have t:Fr w5 (w5.setCell ⟨b1,4,none⟩ d) (λg=>g=b1):=(A_ w5 (λg=>g=b1)).setCell ⟨b1,4,none⟩ d (λ_=>rfl);have h:Fr W (w5.setCell ⟨b1,4,none⟩ d) (λg=>vs.ownBlock=some g\/g=b1):=(m.mono (λ_ _ e=>.inl e)).trans t (λ_ _ e=>.inr e);have u:=m.bl Q.r1 (λe=>by have:=Q.vr.lt _ e;omega);refine⟨Q.M.own (h.mono (λg _ e=>?_)),Q.hb,aj_ x h.size,h.bl Q.r0 (λe=>?_),u.set 4 d,zj Q.kr h (λg a e=>?_),zj ho t (λg a e=>by have:=hv g a;omega),λg a e=>?_⟩
 .rcases e with e|e
  .have:=Q.vr.lt g e;omega
  .omega
 .rcases e with e|e
  .have:=Q.vr.lt _ e;omega
  .omega
 .rcases e with e|e
  .exact Q.ap g a e
  .have:=Q.kr.lt _ a;omega
 .rcases(hv g e).2 with q|q
  .exact Q.ap g a q
  .have:=Q.kr.lt _ a;omega
def LM.ie(Q:LM w P bl s bz pl j bad ts env b0 b1 B c vk vs ks n xs W)(hg:(W.alloc o).grownBy w5 vs.ownBlock):w5.cell? ⟨b1,4,none⟩=some vs/\w5.frozen? ⟨b1,4,none⟩=false:=by
 have hb:=Q.hb;have d:Fr W w5 (λg=>vs.ownBlock=some g):=Y_ ((A_ W _).alloc o) hg (λk e _=>e);have a:=d.bl Q.r1 (λe=>by have:=Q.vr.lt _ e;omega);exact⟨a.cell 4,a.th 4⟩
def LM.keyCell(Q:LM w P bl s bz pl j bad ts env b0 b1 B c vk vs ks n xs W)(hg:(W.alloc o).grownBy w5 vk.ownBlock):w5.cell? ⟨b1,3,none⟩=some vk/\w5.frozen? ⟨b1,3,none⟩=false:=by
 have hb:=Q.hb;have d:Fr W w5 (λg=>vk.ownBlock=some g):=Y_ ((A_ W _).alloc o) hg (λk e _=>e);have a:=d.bl Q.r1 (λe=>by have:=Q.kr.lt _ e;omega);exact⟨a.cell 3,a.th 3⟩
end
def pJ(acc:Af):Option (List (BA×DT)×Nat)->Option (List (BA×DT)×Nat)
 |none=>none
 |some (l,e)=>some (acc++l,e)
def kB(acc:Af):Option BA:=acc.getLast?.map Prod.fst
def nM(R:Aj)(s:BA)(fin:Nat)(keyed:Ar)(n:Nat)(acc:Af)(j:Nat):Option (List (BA×DT)×Nat):=
 if bt s j=fin then some (acc,j+1) else if bt s j=44 then pJ acc (ye R s fin keyed n (kB acc) (j+1)) else none
def nh(R:Aj)(s:BA)(fin:Nat)(keyed:Ar)(n:Nat)(acc:Af)(k:BA)(j:Nat):Option (List (BA×DT)×Nat):=
 match R j with
 |none=>none
 |some (d,e)=>nM R s fin keyed n (acc++[(k,d)]) e
def Xf(x:Dz):pJ [] x=x:=by
 match x with
 |none=>rfl
 |some (r,j)=>rfl
def cz(R:Aj)(s:BA)(fin:Nat)(keyed:Ar)(n:Nat)(a:Af)(h:Ey)(j:Nat):pJ a (ye R s fin keyed (n+1) h j) =
 match kJ s keyed h j with
 |none=>none
 |some (k,g)=>nh R s fin keyed n a k g:=by
 rw[ye];cases kJ s keyed h j with
 |none=>rfl
 |some q=>
  obtain⟨k,g⟩:=q;simp only[nh];cases R g with
  |none=>rfl
  |some q=>
   obtain⟨d,e⟩:=q;simp only[nM];split
   .rfl
   .split
    .have:kB (a++[(k,d)])=some k:=by simp[kB]
     rw[this];cases ye R s fin keyed n (some k) (e+1) with
     |none=>rfl
     |some q=>simp[pJ]
    .rfl
def XC(keyed:Ar):Option (List (BA×DT)×Nat)->Option (DT×Nat)
 |none=>none
 |some (l,e)=>some (.mk 0 0 noB (if keyed=true then l.map Prod.fst else []) (l.map Prod.snd),e)
def kh(keyed:Ar)(acc:Af):List BA:=if keyed=true then acc.map Prod.fst else []
def Cb(R_:Dz)(R:Aj)(fin:Nat)(keyed:Ar)(i:Nat)(w:Aw)(P:Az)(bl:Nat)(s:BA)(bz:Nat)(pl:Ar)(ts:Ap)(env:Au)(m:Nat)(W:Aw):Prop:=
 ∃vk vs ks n xs,
  ((∃acc j,LM w P bl s bz pl j false ts env w.heap.size (w.heap.size+1) (w.heap.size+2) 0 vk vs ks n xs W/\n=acc.length/\ks=kh keyed acc/\s.size+2-j<=m/\
   ((acc=[]/\j=i/\R_=if bt s i=fin then some ([],i+1) else pJ [] (ye R s fin keyed (s.size+2) none i))\/(acc≠[]/\i+acc.length<=j/\∃nn,s.size<nn+j/\R_=nM R s fin keyed nn acc j)))\/
   (∃j,LM w P bl s bz pl j true ts env w.heap.size (w.heap.size+1) (w.heap.size+2) 0 vk vs ks n xs W/\R_=none))
def od{w:Aw}{P:Az}{bl:Nat}{s:BA}{bz:Nat}{pl:Ar}{bad:Ar}{ts:Ap}{env:Au}(M:DM w P bl s bz pl i bad ts env w):LM w P bl s bz pl i bad ts env w.heap.size (w.heap.size+1) (w.heap.size+2) 0 (L_) (L_) [] 0 [] ((w.alloc (.cells zX.toArray 77)).alloc (.cells zX.toArray 77)):=by
 refine⟨(M.alloc _).alloc _,M_,by simp,(B_ w _ _).alloc _,?_,World.ownsRow_nil _ _ _ _,World.ownsRow_nil _ _ _ _,λg hg=>by simp[Value.ownBlock]at hg⟩;have:=B_ (w.alloc (.cells zX.toArray 77)) zX.toArray 77;have e:(w.alloc (.cells zX.toArray 77)).heap.size=w.heap.size+1:=x8_
 rw[e]at this;exact this
def Xn:Tryz.prog.underlying 75=some (.slice 77):=K_
def XE:(Tryz.prog.info? 77).map (λi=>(i.zero,i.size,i.bytes))=some (some (.agg zX.toArray),5,80):=K_
def QN:Tryz.prog.underlying 74=some (.slice 9):=K_
def MD:(Tryz.prog.info? 9).map (λi=>(i.zero,i.size,i.bytes))=some (some (.string noB),1,16):=K_
def Mq(s:BA)(env:Au)(pl:Ar)(ts:Ap)(t:PT):Prop:=
 ∀(w:World) (P:Nat->Prop) (bl bz k i:Nat),DM w P bl s bz pl i true ts env w->isT ts k t->
  Calls prog 40 #[P_ bl,I_ k] w (zC w bl s bz pl none)
def yc{w:Aw}{o:Nat}(h:w.cell? ⟨b,o,none⟩=some v):b<w.heap.size:=World.block_lt_of_cell? w ⟨b,o,none⟩ h
def pe{w:Aw}{o:Nat}(h:w.cell? ⟨b,o,none⟩=some v)(X:Obj):(w.alloc X).cell? ⟨b,o,none⟩=some v:=by
 rw[World.cell?_alloc_past X b o (yc h)];exact h
def ya{w:Aw}{o:Nat}(h:w.cell? ⟨b,o,none⟩=some v)(X Y Z:Obj):(((w.alloc X).alloc Y).alloc Z).cell? ⟨b,o,none⟩=some v:=pe (pe (pe h X) Y) Z
def kZ.any{w:Aw}{P:Az}{bl:Nat}{s:BA}{bz:Nat}{pl:Ar}{j:Nat}{bad:Ar}{ts:Ap}{env:Au}{W:Aw}{d:Nat}(hd:0<d)(M:DM w P bl s bz pl j bad ts env W)(h:kZ W bl s bz pl j bad d w'):∃j' bad',DM w P bl s bz pl j' bad' ts env w'/\Fr W w' (· = bl)/\H_ ((bad=false/\bt s j=d/\j'=j+1/\bad'=false)\/((bad=true\/bt s j≠d)/\j'=j/\bad'=true)):=by
 have:=M.jl;obtain⟨h1,a⟩:=h;cases bad with
 |true=>
  by_cases hb:lk s j true=d
  .simp[lk]at hb;omega
  .rw[n_ hb]at h1;exact⟨j,true,M.call h1 a M.jl,a,.inr ⟨.inl rfl,rfl,rfl⟩⟩
 |false=>
  by_cases hb:lk s j false=d
  .rw[i_ hb]at h1;exact⟨j+1,false,M.call h1.1 a h1.2,a,.inl ⟨rfl,by simpa[lk] using hb,rfl,rfl⟩⟩
  .rw[n_ hb]at h1;exact⟨j,true,M.call h1 a M.jl,a,.inr ⟨.inr (by simpa[lk] using hb),rfl,rfl⟩⟩
def cq5_{p:Prop}(h:p:=by
 intro w P bl bz k M hk;simp only[isT]at hk;obtain⟨g,m,a4,sv,z0,a5,z1,z2,ho,T⟩:=M.Z.type hk;simp only[az_]at z1;refine hq_ λa0 Q_=>?_;have a7:=M.lt;have a8:=yc z0;have a9:=yc z1;have c3:=M.L.c3;have c2:=M.L.c2;have J:=M.jl;have K:=M.sl;obtain⟨d,sn,q,rfl⟩:=yD ho;(first|(have:=cc1;have x:=zy (iS M 108 (.slice d sn q)))|(have:=cc2;have x:=zy (iS M 110 (.slice d sn q)))|(have x:=zy (iS M 105 (.slice d sn q))));(first|(have:=cc1;have C:=zy (tm w 108 (.slice d sn q)))|(have:=cc2;have C:=zy (tm w 110 (.slice d sn q)))|(have C:=zy (tm w 105 (.slice d sn q))));(first|(have:=cc1;have R:=zy (iI w 108 (.slice d sn q)))|(have:=cc2;have R:=zy (iI w 110 (.slice d sn q)))|(have R:=zy (iI w 105 (.slice d sn q))));(first|(have:=cc1;have D:=zy (oH w 108 (.slice d sn q)))|(have:=cc2;have D:=zy (oH w 110 (.slice d sn q)))|(have D:=zy (oH w 105 (.slice d sn q))));have d2:=λX Y Z=>ya c2 X Y Z;have a6:(k:Int)<(m:Int):=M_;replace M:=zy M;replace ho:=zy ho;replace T:=zy T;replace hk:=zy hk;go_in;go_wp2_with ((first|go_at_call 67|go_at_call 65);(first|(have:=cc1;apply(lC (kd:=108) x.o.L K J).mono)|(have:=cc2;apply(xZ 78 x.o.L K J rfl D_).mono)|(apply(lC (kd:=105) x.o.L K J).mono));(first|(have:=cc2;rintro e w1 ⟨rfl,G⟩)|(intro e w1 G));(first|(have:=cc2;obtain⟨b4,j1,z,u,I⟩:=kZ.any D_ x.o G)|(obtain⟨v,j1,a3,rfl,z,u,I⟩:=G.any x.o));(first|(have:=cc2;have y:=u.bl C.o M_)|(have t:=u.bl C.o M_));(first|(have:=cc2;have t:=u.bl D.o M_)|(have A:=u.bl D.o M_;have p1:=A.cell 1;have p2:=A.th 1;simp only[zQ,aa_,ab_]at p1;have E:=z.put ⟨w.heap.size+1+1,1,none⟩ (Z_ v) (by simp;omega);have E2:=G_ A 1 (Z_ v);have y:=T_ t (a:=⟨w.heap.size+2,1,none⟩) (Z_ v) (by simp)));obtain⟨r0,r1,U,V,r4⟩:=y.f5;(first|(have:=cc2;obtain⟨N,O,Q,t3,t4⟩:=t.f5)|(obtain⟨N,O,Q,t3,t4⟩:=E2.f5));obtain⟨g0,g1,g2,g3,g4⟩:=y.t5;(first|(have:=cc2;simp only[zX,zQ,aa_,ab_,az_]at r0 r1 U V r4 N O Q t3 t4)|(simp only[zX,zQ,aa_,ab_,am_,ao_,az_]at r0 r1 U V r4 N O Q t3 t4));replace z:=zy z;(first|(have:=cc2)|(replace E:=zy E));replace u:=zy u;(first|(have:=cc2)|(replace t:=zy t;replace A:=zy A));replace y:=zy y;(first|(have:=cc2;replace t:=zy t)|(replace E2:=zy E2));clear G);refine zW results40 y.o (λW5 F _=>?_);rw[Q_.o];(first|(have:=cc2;rcases I.o with⟨_,H,rfl,rfl⟩|⟨H,rfl,rfl⟩)|(rcases I.o with⟨rfl,hr⟩|⟨rfl,hr⟩))
 ·(first|(have:=cc2;exact vq z.o F (by simp[rdT,xw,H]))|(exact vq E.o F (by simp[rdT,xw,hr])))
 ·(first|(have:=cc2;exact vD z.o F (by simp[rdT,xw];simpa using H))|(exact vD E.o F (by simp[rdT,xw,hr])))):p:=h
def ME{s:BA}{env:Au}{pl:Ar}{ts:Ap}:vR s env pl ts (f+1) (.leaf 110 p) i:=by
 have cc2:=Nat
 exact cq5_
def MT{s:BA}{env:Au}{pl:Ar}{ts:Ap}:vR s env pl ts (f+1) (.leaf 116 p) i:=by
 intro w P bl bz k M hk;simp only[isT]at hk;obtain⟨g,m,a7,sv,z0,a8,z1,z2,ho,a3⟩:=M.Z.type hk;simp only[az_]at z1;refine hq_ λa5 Q_=>?_;have b4:=M.lt;have b5:=yc z0;have b6:=yc z1;have c3:=M.L.c3;have c2:=M.L.c2;have K:=M.jl;have N:=M.sl;obtain⟨F,sn,G,rfl⟩:=yD ho;have C:=zy (iS M 116 (.slice F sn G));have B0:=zy (tm w 116 (.slice F sn G));have B1:=zy (iI w 116 (.slice F sn G));have B2:=zy (oH w 116 (.slice F sn G));have d2:=λX Y Z=>ya c2 X Y Z;have a9:(k:Int)<(m:Int):=M_;replace M:=zy M;replace ho:=zy ho;replace a3:=zy a3;replace hk:=zy hk;obtain⟨c,hc⟩:=x_ (bt s i);have a0:=zy (show lk s i false=c by simp[lk,hc]);by_cases D:c=84
 .subst D;have a4:i<s.size:=zm M_;replace hc:=zy hc;go_in;go_wp2_with (go_at_call 66;apply(yN C.o.L N K).mono;rintro e w1 ⟨rfl,z⟩;rw[a0.o];have t:=C.o.si z;have q:=(A_ _ (λg=>g=bl)).si z;have u:=q.bl B0 M_;have x:=q.bl B2 M_;have p1:=x.cell 1;have p2:=x.th 1;simp only[zQ,aa_,ab_]at p1;have d:=t.put ⟨w.heap.size+1+1,1,none⟩ (Z_ 1) x1_;have E2:=G_ x 1 (Z_ 1);have h:=T_ u (a:=⟨w.heap.size+2,1,none⟩) (Z_ 1) x8_;have c1:=d.L.c1;have f1:=d.L.th 1;have I:=d.inc a4;have H:=T_ E2 (a:=⟨bl,1,none⟩) (Z_ ((i:Int)+1)) x1_;have y:=T_ h (a:=⟨bl,1,none⟩) (Z_ ((i:Int)+1)) x1_;obtain⟨r0,r1,O,Q,R⟩:=y.f5;obtain⟨T,U,V,t3,t4⟩:=H.f5;obtain⟨g0,g1,g2,g3,g4⟩:=y.t5;simp only[zX,zQ,aa_,ab_,am_,ao_,az_]at r0 r1 O Q R T U V t3 t4;revert t q u x d E2;refine m_ λt q u x d E2=>?_;revert h I H y;refine g_ λh I H y=>?_);refine zW results40 y.o (λW5 E _=>?_);rw[Q_.o];exact vq I E (by simp[rdT,xw,hc.o])
 .have b7:((c:Int)==84)=false:=x1_
  replace hc:=zy hc;replace D:=zy D;go_in;go_wp2_with (first
   |(go_at_call 66;apply(yN C.o.L N K).mono;rintro e w1 ⟨rfl,z⟩;rw[a0.o];have t:=C.o.si z;have q:=(A_ _ (λg=>g=bl)).si z;have u:=q.bl B0 M_;have x:=zy (q.bl B2 M_);revert t q u;refine h_ λt q u=>?_)
   |(go_at_call 65;apply(xZ 70 t.o.L N K rfl D_).mono;rintro e w2 ⟨rfl,hE⟩;obtain⟨j2,a6,d,A,hJ⟩:=kZ.any D_ t hE;have h:=A.bl u M_;have E2:=A.bl x M_;obtain⟨r0,r1,O,Q,R⟩:=h.f5;obtain⟨T,U,V,t3,t4⟩:=E2.f5;obtain⟨g0,g1,g2,g3,g4⟩:=h.t5;simp only[zX,zQ,aa_,ab_,az_]at r0 r1 O Q R T U V t3 t4;revert d A h E2;refine g_ λd A h E2=>?_))
  refine zW results40 h.o (λW5 E _=>?_);rw[Q_.o];rcases hJ.o with⟨_,J,rfl,rfl⟩|⟨J,_,rfl⟩
  .exact vq d E (by simp[rdT,xw,J])
  .have y:bt s i≠70:=by simpa using J
   have H:bt s i≠84:=by rw[hc.o];exact D
   exact vD d E (by simp[rdT,xw,y,H])
def fQ.any{w:Aw}{P:Az}{bl:Nat}{s:BA}{bz:Nat}{pl:Ar}{j:Nat}{ts:Ap}{env:Au}{W W':Aw}{e:Ak}(M:DM w P bl s bz pl j false ts env W)(h:fQ W bl s bz pl j kd e W'):∃v j' bad',e=.returned (Z_ v)/\DM w P bl s bz pl j' bad' ts env W'/\Fr W W' (· = bl)/\H_ ((bad'=false/\vj s kd j=some (v,j'))\/(bad'=true/\vj s kd j=none)):=by
 obtain⟨k,neg,t,hn,q,hk,h1,g,hf,m⟩:=h;subst hn q hk;rcases m with⟨a,b,c,d⟩|⟨a,c,d⟩
 .exact⟨_,_,_,d,M.call c hf g,hf,.inl ⟨rfl,by unfold vj;exact i_ a⟩⟩
 .exact⟨_,_,_,d,M.call c hf g,hf,.inr ⟨rfl,by unfold vj;exact n_ a⟩⟩
def MO{s:BA}{env:Au}{pl:Ar}{ts:Ap}:vR s env pl ts (f+1) (.leaf 105 p) i:=by
 exact cq5_
def MA{s:BA}{env:Au}{pl:Ar}{ts:Ap}:vR s env pl ts (f+1) (.leaf 108 p) i:=by
 have cc1:=Nat
 exact cq5_
def kx.any{w:Aw}{P:Az}{bl:Nat}{s:BA}{bz:Nat}{pl:Ar}{j:Nat}{bad:Ar}{ts:Ap}{env:Au}{W W':Aw}{e:Ak}(M:DM w P bl s bz pl j bad ts env W)(h:kx W bl s bz pl j bad e W'):∃tx j',e=.returned (.string tx)/\DM w P bl s bz pl j' bad ts env W'/\Fr W W' (· = bl)/\tx.size<=4000/\H_ (tx=s.extract j j'/\j<=j'/\(bad=false->j'=ze s j)):=by
 obtain⟨k,h1,d,g,m,q,a⟩:=h;refine⟨_,k,m,M.call q a g,a,?_,rfl,d,λhb=>by rw[h1,hb];rfl⟩;have:=M.sl;rw[bk_];omega
def MN{s:BA}{env:Au}{pl:Ar}{ts:Ap}:vR s env pl ts (f+1) (.leaf 115 p) i:=by
 intro w P bl bz k M hk;simp only[isT]at hk;obtain⟨g,m,b4,sv,z0,b5,V,z2,ho,T⟩:=M.Z.type hk;simp only[az_]at V;refine hq_ λa7 Q_=>?_;have b7:=M.lt;have b8:=yc z0;have b9:=yc V;have c3:=M.L.c3;have c2:=M.L.c2;have a5:=M.jl;have K:=M.sl;obtain⟨C,sn,D,rfl⟩:=yD ho;have N:=zy (iS M 115 (.slice C sn D));have B0:=zy (tm w 115 (.slice C sn D));have B1:=zy (iI w 115 (.slice C sn D));have B2:=zy (oH w 115 (.slice C sn D));have d2:=λX Y Z=>ya c2 X Y Z;have b6:(k:Int)<(m:Int):=M_;replace M:=zy M;replace ho:=zy ho;replace T:=zy T;replace hk:=zy hk;go_in;go_wp2_with (first
  |(go_at_call 68;apply(qA h.o.L K h.o.jl).mono;intro e w2 R;obtain⟨tx,j2,rfl,I,y,hx,hK⟩:=R.any h;have F:=y.bl E M_;have E2:=y.bl D2 M_;have p1:=E2.cell 2;have p2:=E2.th 2;simp only[zQ,aa_,ab_]at p1;have q:=I.put ⟨w.heap.size+1+1,2,none⟩ (.string tx) x1_;have G:=G_ E2 2 (.string tx);have G0:=zy (T_ F (a:=⟨w.heap.size+2,2,none⟩) (.string tx) x8_);revert I y F E2 q G;refine m_ λI y F E2 q G=>?_)
  |(go_at_call 65;apply(xZ 34 q.o.L K q.o.jl rfl D_).mono;rintro e w4 ⟨rfl,u⟩;obtain⟨j4,a9,A,z,a4⟩:=kZ.any D_ q u;have d:=z.bl G0 M_;have H:=z.bl G M_;obtain⟨r0,r1,r2,r3,r4⟩:=d.f5;obtain⟨t0,t1,t2,t3,t4⟩:=H.f5;obtain⟨g0,g1,g2,g3,g4⟩:=d.t5;simp only[zX,zQ,aa_,ab_,am_,ao_,az_]at r0 r1 r2 r3 r4 t0 t1 t2 t3 t4;revert A z d H;refine g_ λA z d H=>?_)
  |(go_at_call 65;apply(xZ 34 N.o.L K a5 rfl D_).mono;rintro e w1 ⟨rfl,u⟩;obtain⟨j1,a8,h,x,Q⟩:=kZ.any D_ N u;have E:=x.bl B0 M_;have D2:=zy (x.bl B2 M_);revert h x E;refine h_ λh x E=>?_))
 refine zW results40 d.o (λW5 O _=>?_);rw[Q_.o];obtain⟨a6,d6,U⟩:=hK.o;rcases a4.o with⟨rfl,t,rfl,rfl⟩|⟨t,rfl,rfl⟩
 .rcases Q.o with⟨_,h1,rfl,_⟩|⟨_,_,hb⟩
  .have J:=U rfl;subst a6;refine vq A O ?_;rw[J]at t⊢;simp[rdT,xw,h1,t]
  .cases hb
 .refine vD A O ?_;rcases Q.o with⟨_,h1,rfl,rfl⟩|⟨h1,_,hb⟩
  .have J:=U rfl;rw[J]at t;have a3:bt s (ze s (i+1))≠34:=by simpa using t
   simp[rdT,xw,a3]
  .have a0:bt s i≠34:=by simpa using h1
   simp[rdT,xw,a0]
def Ws{ts:Ap}{k:Nat}{t:PT}(h:isT ts k t):∃l,ts[k]?=some ⟨t.kind,l⟩:=by
 cases t with
 |leaf c p=>exact⟨_,h⟩
 |wrap c p t=>obtain⟨j,h,_⟩:=h;exact⟨_,h⟩
 |alts p l=>obtain⟨j,h,_⟩:=h;exact⟨_,h⟩
def YS{s:BA}{env:Au}{pl:Ar}{ts:Ap}(t:PT):Mq s env pl ts t:=by
 intro w P bl bz k i M hk;obtain⟨l,hk⟩:=Ws hk;obtain⟨c,hc⟩:=x_ t.kind;rw[hc]at hk;obtain⟨g,m,a,sv,z0,a,a,d,ho,q⟩:=M.Z.type hk;simp only at a;refine hq_ λd u=>?_;have d:=M.lt;have d:=yc z0;have d:=yc a;have c3:=M.L.c3;have c2:=M.L.c2;obtain⟨e,sn,h,rfl⟩:=yD ho;have a:=tm w c (.slice e sn h);have d:=oH w c (.slice e sn h);have r0:=a.cell 0;have G:=d.cell 0;have x:=a.th 0;have r1:=a.cell 1;have H:=d.cell 1;have y:=a.th 1;have D:=a.cell 2;have I:=d.cell 2;have z:=a.th 2;have E:=a.cell 3;have t3:=d.cell 3;have A:=a.th 3;have F:=a.cell 4;have t4:=d.cell 4;have C:=a.th 4;have J:=λX Y Z=>ya c2 X Y Z;simp only[dw,zX,zQ,noB,aa_,ab_,az_]at r0 r1 D E F G H I t3 t4 x y z A C;have a:(k:Int)<(m:Int):=M_;replace M:=zy M;replace ho:=zy ho;replace q:=zy q;replace hk:=zy hk;go_in;go_wp2;have q:=((B_ w (zQ c 0 noB (L_) (L_)).toArray 77).alloc (.cells #[U_ c,.slice e sn h] 112)).alloc (.cells (zQ c 0 noB (L_) (L_)).toArray 77);obtain⟨a,d,e,q3,h⟩:=q.f5;simp only[zQ,noB,aa_,ab_]at a d e q3 h;refine bodyPost_ret (v:=.agg (zQ c 0 noB (L_) (L_)).toArray) (by simp[results,results40,go_sem,a,d,e,q3,h,zQ,noB]) rfl ?_;rw[u.o];exact vD (((M.o.alloc _).alloc _).alloc _) (A_ _ _) rfl
end Go.Proofs.YtamhgejdkclmdaaGreatDoor
