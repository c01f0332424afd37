import Derived.Test.YthmjjpkjgjklmaaGreatDoorW04
import Derived.Test.YthmjjpkjgjklmaaGreatDoorA00
set_option maxHeartbeats 16000000
set_option maxRecDepth 100000
set_option linter.unusedSimpArgs false
namespace Go.Proofs.YthmjjpkjgjklmaaGreatDoor
open Go.RowKit
variable {s:BA}{i j:Nat}
def lebD (s:BA):Nat->Nat->Option (Nat×Nat)
 | 0,_=>none
 | f+1,i=>
  if i<s.size then
   if bt s i<128 then some (bt s i,i+1)
   else match lebD s f (i+1) with
    | none=>none
    | some (z,j)=>if z=0 then none else some (bt s i-128+128*z,j)
  else none
def unfI (z:Nat):Int:=if z % 2=1 then -((z / 2:Nat):Int)-1 else ((z / 2:Nat):Int)
def bL (s:BA) (i:Nat):Option (Int×Nat):=
 match lebD s 10 i with
 | none=>none
 | some (z,j)=>if z<18446744073709551616 then some (unfI z,j) else none
def bNum (s:BA) (lo hi:Int) (i:Nat):Option (Int×Nat):=
 match bL s i with
 | none=>none
 | some (n,j)=>if lo<=n/\n<=hi then some (n,j) else none
def zdg (s:BA) (i:Nat):Option (Int×Nat):=bNum s 0 9223372036854775807 i
def j7_ (s:BA) (i n:Nat):Option (BA×Nat):=if i+n<=zp_ s i then some (s.extract i (i+n),i+n) else none
def vu_ (s:BA) (i:Nat):Option (BA×Nat):=
 match zdg s i with
 | none=>none
 | some (n,j)=>j7_ s j n.toNat
def bKey (s:BA) (keyed:Bool) (last:Option BA) (i:Nat):Option (BA×Nat):=
 if keyed=true then
  match vu_ s i with
  | none=>none
  | some (k,j)=>if zen last k=true then some (k,j) else none
 else some (noB,i)
def xd_ (R:Nat->Nat->Except Nat (DT×Nat×Nat)) (s:BA) (keyed:Bool):Nat->Option BA->Nat->Nat->Except Nat (List (BA×DT)×Nat×Nat)
 | 0,_,i,n=>.ok ([],i,n)
 | c+1,last,i,n=>
  match bKey s keyed last i with
  | none=>.error 6
  | some (k,i1)=>
   match R i1 n with
   | .error e=>.error e
   | .ok (d,j,m)=>
    match xd_ R s keyed c (some k) j m with
    | .error e=>.error e
    | .ok (l,j',m')=>.ok ((k,d)::l,j',m')
def yq_ (R:PT->Nat->Nat->Except Nat (DT×Nat×Nat)):List PT->Nat->Nat->Except Nat (List DT×Nat×Nat)
 | [],i,n=>.ok ([],i,n)
 | t::r,i,n=>
  match R t i n with
  | .error e=>.error e
  | .ok (d,j,m)=>
   match yq_ R r j m with
   | .error e=>.error e
   | .ok (ds,j',m')=>.ok (d::ds,j',m')
def vv_ (R:PT->Nat->Nat->Except Nat (DT×Nat×Nat)) (s:BA) (pb:PB) (i n:Nat):Except Nat (DT×Nat×Nat):=
 match pb with
 | .recd fs=>match yq_ R (fs.map PF.ty) i n with | .error e=>.error e | .ok (ds,j,m)=>.ok (.mk 114 0 noB [] ds,j,m)
 | .enum l _=>match bNum s 0 ((l.length:Int)-1) i with|none=>.error 6|some (q,j)=>.ok (.mk 101 q noB [] [],j,n)
 | .bytes k=>match j7_ s i k with|none=>.error 6|some (tx,j)=>.ok (.mk 102 0 tx [] [],j,n)
def zag (R:PT->Nat->Nat->Except Nat (DT×Nat×Nat)) (s:BA) (env:Nat->Option PB) (c i n:Nat):Except Nat (DT×Nat×Nat):=
 if c=110 then .ok (.mk 110 0 noB [] [],i,n)
 else if c=116 then (if i<s.size/\bt s i<=1 then .ok (.mk 116 (bt s i:Int) noB [] [],i+1,n) else .error 6)
 else if c=105 then (match bNum s (-2147483648) 2147483647 i with|none=>.error 6|some (q,j)=>.ok (.mk 105 q noB [] [],j,n))
 else if c=108 then (match bL s i with|none=>.error 6|some (q,j)=>.ok (.mk 108 q noB [] [],j,n))
 else if c=115 then (match vu_ s i with|none=>.error 6|some (tx,j)=>.ok (.mk 115 0 tx [] [],j,n))
 else match env c with|none=>.error 6|some pb=>vv_ R s pb i n
def zdf (R:Nat->Nat->Except Nat (DT×Nat×Nat)) (s:BA) (c i n:Nat):Except Nat (DT×Nat×Nat):=
 match zdg s i with
 | none=>.error 6
 | some (q,j)=>
  match xd_ R s (c==123) q.toNat none j n with
  | .error e=>.error e
  | .ok (l,j',m)=>.ok (.mk c 0 noB (if (c==123)=true then l.map Prod.fst else []) (l.map Prod.snd),j',m)
def j8_ (R:PT->Nat->Nat->Except Nat (DT×Nat×Nat)) (s:BA) (ts:List PT) (i n:Nat):Except Nat (DT×Nat×Nat):=
 match bNum s 0 ((ts.length:Int)-1) i with
 | none=>.error 6
 | some (q,j)=>
  match ts[q.toNat]? with
  | none=>.error 6
  | some t=>match R t j n with | .error e=>.error e | .ok (d,j',m)=>.ok (.mk 40 q noB [] [d],j',m)
def rdB (s:BA) (env:Nat->Option PB):Nat->PT->Nat->Nat->Except Nat (DT×Nat×Nat)
 | 0,_,_,_=>.error 7
 | f+1,t,i,n=>
  if 300<=n then .error 7
  else match t with
   | .leaf c _=>zag (rdB s env f) s env c i (n+1)
   | .wrap c _ t=>zdf (rdB s env f t) s c i (n+1)
   | .alts _ ts=>j8_ (rdB s env f) s ts i (n+1)
theorem zkz :∀ (f i z j:Nat),lebD s f i=some (z,j)->i<j/\j<=s.size/\j<=i+f/\z<128 ^ f
 | 0,i,z,j,h=>by simp[lebD] at h
 | f+1,i,z,j,h=>by
  unfold lebD at h;have hp:128 ^ (f+1)=128 ^ f*128:=Nat.pow_succ 128 f;have h1:1<=128 ^ f:=Nat.one_le_pow _ _ (by decide);split at h
  ·split at h
   ·simp only[ad_,ab_] at h;omega
   ·split at h
    ·simp at h
    ·rename_i z' j' he;have:=zkz f _ _ _ he;have hb:=zqx s i;split at h
     ·simp at h
     ·simp only[ad_,ab_] at h;omega
  ·simp at h
theorem zi6 {n:Int}(h:bL s i=some (n,j)):i<j/\j<=s.size/\-9223372036854775808<=n/\n<=9223372036854775807:=by
 unfold bL at h;split at h
 ·simp at h
 ·rename_i z j' he;have:=zkz _ _ _ _ he;split at h
  ·simp only[ad_,ab_] at h;obtain⟨h1,h2⟩:=h;unfold unfI at h1;split at h1<;>omega
  ·simp at h
theorem y7_ {lo hi:Int}{n:Int}(h:bNum s lo hi i=some (n,j)):i<j/\j<=s.size/\lo<=n/\n<=hi/\-9223372036854775808<=n/\n<=9223372036854775807:=by
 unfold bNum at h;split at h
 ·simp at h
 ·rename_i z j' he;have:=zi6 he;split at h
  ·simp only[ad_,ab_] at h;omega
  ·simp at h
theorem zhk (h:i<=s.size):zp_ s i<=s.size:=(yj_ 97 122 s _ i l_).2 h
theorem zbw {n:Nat}{tx:BA}(hi:i<=s.size) (h:j7_ s i n=some (tx,j)):i<=j/\j<=s.size/\j=i+n/\tx.size=n:=by
 unfold j7_ at h;have hl:=zhk hi;split at h
 ·simp only[ad_,ab_] at h;obtain⟨rfl,rfl⟩:=h;rw[as_];omega
 ·simp at h
theorem zat {tx:BA}(h:vu_ s i=some (tx,j)):i<j/\j<=s.size/\tx.size<=s.size:=by
 unfold vu_ at h;split at h
 ·simp at h
 ·rename_i n j' he;have h1:=y7_ he;have h2:=zbw (by omega) h;omega
theorem zuj {keyed:Bool}{last:Option BA}{k:BA}(hi:i<=s.size) (h:bKey s keyed last i=some (k,j)):i<=j/\j<=s.size/\k.size<=s.size:=by
 unfold bKey at h;split at h
 ·split at h
  ·simp at h
  ·rename_i k' j' he;have:=zat he;split at h
   ·simp only[ad_,ab_] at h;obtain⟨rfl,rfl⟩:=h;omega
   ·simp at h
 ·simp only[ad_,ab_] at h;obtain⟨rfl,rfl⟩:=h;exact⟨l_,hi,aj_ _⟩
def zy6 (s:BA) (R:Nat->Nat->Except Nat (DT×Nat×Nat)):Prop:=∀ i n d j m,i<=s.size->n<=300->R i n=.ok (d,j,m)->i<=j/\j<=s.size/\n<m/\m<=300
theorem zgm {R:Nat->Nat->Except Nat (DT×Nat×Nat)}(hR:zy6 s R){keyed:Bool}:∀ (c:Nat) (last:Option BA) (i n:Nat) (l:List (BA×DT)) (j m:Nat),i<=s.size->n<=300->xd_ R s keyed c last i n=.ok (l,j,m)->i<=j/\j<=s.size/\n+l.length<=m/\m<=300/\l.length=c
 | 0,last,i,n,l,j,m,hi,hn,h=>by
  simp only[xd_,af_,ab_] at h;obtain⟨rfl,rfl,rfl⟩:=h
  simp;omega
 | c+1,last,i,n,l,j,m,hi,hn,h=>by
  unfold xd_ at h;split at h
  ·simp at h
  ·rename_i k i1 hk;have h1:=zuj hi hk;split at h
   ·simp at h
   ·rename_i d j1 m1 hd;have h2:=hR _ _ _ _ _ h1.2.1 hn hd;split at h
    ·simp at h
    ·rename_i l' j' m' he;have:=zgm hR c _ _ _ _ _ _ h2.2.1 h2.2.2.2 he;simp only[af_,ab_] at h;obtain⟨rfl,rfl,rfl⟩:=h;simp only[ar_];omega
theorem zeg {R:PT->Nat->Nat->Except Nat (DT×Nat×Nat)}(hR:∀ t,zy6 s (R t)):∀ (ts:List PT) (i n:Nat) (l:List DT) (j m:Nat),i<=s.size->n<=300->yq_ R ts i n=.ok (l,j,m)->i<=j/\j<=s.size/\n+l.length<=m/\m<=300/\l.length=ts.length
 | [],i,n,l,j,m,hi,hn,h=>by
  simp only[yq_,af_,ab_] at h;obtain⟨rfl,rfl,rfl⟩:=h
  simp;omega
 | t::r,i,n,l,j,m,hi,hn,h=>by
  unfold yq_ at h;split at h
  ·simp at h
  ·rename_i d j1 m1 hd;have h2:=hR t _ _ _ _ _ hi hn hd;split at h
   ·simp at h
   ·rename_i l' j' m' he;have:=zeg hR r _ _ _ _ _ h2.2.1 h2.2.2.2 he;simp only[af_,ab_] at h;obtain⟨rfl,rfl,rfl⟩:=h;simp only[ar_];omega
theorem zbm (s:BA) (env:Nat->Option PB):∀ (f:Nat) (t:PT),zy6 s (rdB s env f t):=by
 intro f
 induction f with
 | zero=>intro t i n d j m _ _ h;simp[rdB] at h
 | succ f ih=>
  intro t i n d j m hi hn h;unfold rdB at h;split at h
  ·simp at h
  ·rename_i hn3;split at h
   ·rename_i c p;unfold zag at h;split at h
    ·simp only[af_,ab_] at h;omega
    ·split at h
     ·split at h
      ·simp only[af_,ab_] at h;omega
      ·simp at h
     ·split at h
      ·split at h
       ·simp at h
       ·rename_i q j1 he;have:=y7_ he;simp only[af_,ab_] at h;omega
      ·split at h
       ·split at h
        ·simp at h
        ·rename_i q j1 he;have:=zi6 he;simp only[af_,ab_] at h;omega
       ·split at h
        ·split at h
         ·simp at h
         ·rename_i q j1 he;have:=zat he;simp only[af_,ab_] at h;omega
        ·split at h
         ·simp at h
         ·rename_i pb hpb;unfold vv_ at h;split at h
          ·split at h
           ·simp at h
           ·rename_i ds j1 m1 he;have:=zeg ih _ _ _ _ _ _ hi (by omega) he;simp only[af_,ab_] at h;omega
          ·split at h
           ·simp at h
           ·rename_i q j1 he;have:=y7_ he;simp only[af_,ab_] at h;omega
          ·split at h
           ·simp at h
           ·rename_i q j1 he;have:=zbw hi he;simp only[af_,ab_] at h;omega
   ·rename_i c p t;unfold zdf at h;split at h
    ·simp at h
    ·rename_i q j1 he;have h1:=y7_ he;split at h
     ·simp at h
     ·rename_i l j2 m2 hl;have:=zgm (ih t) _ _ _ _ _ _ _ h1.2.1 (by omega) hl;simp only[af_,ab_] at h;omega
   ·rename_i p ts;unfold j8_ at h;split at h
    ·simp at h
    ·rename_i q j1 he;have h1:=y7_ he;split at h
     ·simp at h
     ·rename_i t ht;split at h
      ·simp at h
      ·rename_i d1 j2 m2 hd;have:=ih t _ _ _ _ _ h1.2.1 (by omega) hd;simp only[af_,ab_] at h;omega
end Go.Proofs.YthmjjpkjgjklmaaGreatDoor
