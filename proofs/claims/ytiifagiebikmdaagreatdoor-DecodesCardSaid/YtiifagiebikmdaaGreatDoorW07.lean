import Derived.Test.YtiifagiebikmdaaGreatDoorW06
import Derived.Test.YtiifagiebikmdaaGreatDoorA00
set_option maxHeartbeats 16000000
set_option maxRecDepth 100000
set_option linter.unusedSimpArgs false
namespace Go.Proofs.YtiifagiebikmdaaGreatDoor
open Go.RowKit
variable {s:BA}{i j:Nat}
def lebD (s:BA):Nat->Nat->Option (Nat×Nat)
 | 0,_=>none
 | f+1,i=>
  if i<s.size then
   if bt s i<128 then some (bt s i,i+1)
   else match lebD s f (i+1) with
    | none=>none
    | some (z,j)=>if z=0 then none else some (bt s i-128+128*z,j)
  else none
def unfI (z:Nat):Int:=if z % 2=1 then -((z / 2:Nat):Int)-1 else ((z / 2:Nat):Int)
def bL (s:BA) (i:Nat):Option (Int×Nat):=
 match lebD s 10 i with
 | none=>none
 | some (z,j)=>if z<18446744073709551616 then some (unfI z,j) else none
def bNum (s:BA) (lo hi:Int) (i:Nat):Option (Int×Nat):=
 match bL s i with
 | none=>none
 | some (n,j)=>if lo<=n/\n<=hi then some (n,j) else none
def jw_ (s:BA) (i:Nat):Option (Int×Nat):=bNum s 0 9223372036854775807 i
def vt_ (s:BA) (i n:Nat):Option (BA×Nat):=if i+n<=zw_ s i then some (s.extract i (i+n),i+n) else none
def x1_ (s:BA) (i:Nat):Option (BA×Nat):=
 match jw_ s i with
 | none=>none
 | some (n,j)=>vt_ s j n.toNat
def bKey (s:BA) (keyed:Bool) (last:Option BA) (i:Nat):Option (BA×Nat):=
 if keyed=true then
  match x1_ s i with
  | none=>none
  | some (k,j)=>if zgo last k=true then some (k,j) else none
 else some (noB,i)
def xk_ (R:Nat->Nat->Except Nat (DT×Nat×Nat)) (s:BA) (keyed:Bool):Nat->Option BA->Nat->Nat->Except Nat (List (BA×DT)×Nat×Nat)
 | 0,_,i,n=>.ok ([],i,n)
 | c+1,last,i,n=>
  match bKey s keyed last i with
  | none=>.error 6
  | some (k,i1)=>
   match R i1 n with
   | .error e=>.error e
   | .ok (d,j,m)=>
    match xk_ R s keyed c (some k) j m with
    | .error e=>.error e
    | .ok (l,j',m')=>.ok ((k,d)::l,j',m')
def yu_ (R:PT->Nat->Nat->Except Nat (DT×Nat×Nat)):List PT->Nat->Nat->Except Nat (List DT×Nat×Nat)
 | [],i,n=>.ok ([],i,n)
 | t::r,i,n=>
  match R t i n with
  | .error e=>.error e
  | .ok (d,j,m)=>
   match yu_ R r j m with
   | .error e=>.error e
   | .ok (ds,j',m')=>.ok (d::ds,j',m')
def xa_ (R:PT->Nat->Nat->Except Nat (DT×Nat×Nat)) (s:BA) (pb:PB) (i n:Nat):Except Nat (DT×Nat×Nat):=
 match pb with
 | .recd fs=>match yu_ R (fs.map PF.ty) i n with | .error e=>.error e | .ok (ds,j,m)=>.ok (.mk 114 0 noB [] ds,j,m)
 | .enum l _=>match bNum s 0 ((l.length:Int)-1) i with|none=>.error 6|some (q,j)=>.ok (.mk 101 q noB [] [],j,n)
 | .bytes k=>match vt_ s i k with|none=>.error 6|some (tx,j)=>.ok (.mk 102 0 tx [] [],j,n)
def j6_ (R:PT->Nat->Nat->Except Nat (DT×Nat×Nat)) (s:BA) (env:Nat->Option PB) (c i n:Nat):Except Nat (DT×Nat×Nat):=
 if c=110 then .ok (.mk 110 0 noB [] [],i,n)
 else if c=116 then (if i<s.size/\bt s i<=1 then .ok (.mk 116 (bt s i:Int) noB [] [],i+1,n) else .error 6)
 else if c=105 then (match bNum s (-2147483648) 2147483647 i with|none=>.error 6|some (q,j)=>.ok (.mk 105 q noB [] [],j,n))
 else if c=108 then (match bL s i with|none=>.error 6|some (q,j)=>.ok (.mk 108 q noB [] [],j,n))
 else if c=115 then (match x1_ s i with|none=>.error 6|some (tx,j)=>.ok (.mk 115 0 tx [] [],j,n))
 else match env c with|none=>.error 6|some pb=>xa_ R s pb i n
def zce (R:Nat->Nat->Except Nat (DT×Nat×Nat)) (s:BA) (c i n:Nat):Except Nat (DT×Nat×Nat):=
 match jw_ s i with
 | none=>.error 6
 | some (q,j)=>
  match xk_ R s (c==123) q.toNat none j n with
  | .error e=>.error e
  | .ok (l,j',m)=>.ok (.mk c 0 noB (if (c==123)=true then l.map Prod.fst else []) (l.map Prod.snd),j',m)
def v5_ (R:PT->Nat->Nat->Except Nat (DT×Nat×Nat)) (s:BA) (ts:List PT) (i n:Nat):Except Nat (DT×Nat×Nat):=
 match bNum s 0 ((ts.length:Int)-1) i with
 | none=>.error 6
 | some (q,j)=>
  match ts[q.toNat]? with
  | none=>.error 6
  | some t=>match R t j n with | .error e=>.error e | .ok (d,j',m)=>.ok (.mk 40 q noB [] [d],j',m)
def rdB (s:BA) (env:Nat->Option PB):Nat->PT->Nat->Nat->Except Nat (DT×Nat×Nat)
 | 0,_,_,_=>.error 7
 | f+1,t,i,n=>
  if 300<=n then .error 7
  else match t with
   | .leaf c _=>j6_ (rdB s env f) s env c i (n+1)
   | .wrap c _ t=>zce (rdB s env f t) s c i (n+1)
   | .alts _ ts=>v5_ (rdB s env f) s ts i (n+1)
theorem zkb :∀ (f i z j:Nat),lebD s f i=some (z,j)->i<j/\j<=s.size/\j<=i+f/\z<128 ^ f
 | 0,i,z,j,h=>by simp[lebD] at h
 | f+1,i,z,j,h=>by
  unfold lebD at h;have a:128 ^ (f+1)=128 ^ f*128:=Nat.pow_succ 128 f;have h1:1<=128 ^ f:=Nat.one_le_pow _ _ (by decide);split at h
  ·split at h
   ·simp only[ag_,ad_] at h;omega
   ·split at h
    ·simp at h
    ·rename_i b j' he;have:=zkb f _ _ _ he;have hb:=zf4 s i;split at h
     ·simp at h
     ·simp only[ag_,ad_] at h;omega
  ·simp at h
theorem zf8 {n:Int}(h:bL s i=some (n,j)):i<j/\j<=s.size/\-9223372036854775808<=n/\n<=9223372036854775807:=by
 unfold bL at h;split at h
 ·simp at h
 ·rename_i z j' he;have:=zkb _ _ _ _ he;split at h
  ·simp only[ag_,ad_] at h;obtain⟨h1,a⟩:=h;unfold unfI at h1;split at h1<;>omega
  ·simp at h
theorem y2_ {lo a:Int}{n:Int}(h:bNum s lo a i=some (n,j)):i<j/\j<=s.size/\lo<=n/\n<=a/\-9223372036854775808<=n/\n<=9223372036854775807:=by
 unfold bNum at h;split at h
 ·simp at h
 ·rename_i z j' he;have:=zf8 he;split at h
  ·simp only[ag_,ad_] at h;omega
  ·simp at h
theorem zdn (h:i<=s.size):zw_ s i<=s.size:=(vh_ 97 122 s _ i l_).2 h
theorem zbx {n:Nat}{tx:BA}(a:i<=s.size) (h:vt_ s i n=some (tx,j)):i<=j/\j<=s.size/\j=i+n/\tx.size=n:=by
 unfold vt_ at h;have hl:=zdn a;split at h
 ·simp only[ag_,ad_] at h;obtain⟨rfl,rfl⟩:=h;rw[bb_];omega
 ·simp at h
theorem zav {tx:BA}(h:x1_ s i=some (tx,j)):i<j/\j<=s.size/\tx.size<=s.size:=by
 unfold x1_ at h;split at h
 ·simp at h
 ·rename_i n j' he;have h1:=y2_ he;have a:=zbx (by omega) h;omega
theorem zst {keyed:Bool}{last:Option BA}{k:BA}(a:i<=s.size) (h:bKey s keyed last i=some (k,j)):i<=j/\j<=s.size/\k.size<=s.size:=by
 unfold bKey at h;split at h
 ·split at h
  ·simp at h
  ·rename_i b j' he;have:=zav he;split at h
   ·simp only[ag_,ad_] at h;obtain⟨rfl,rfl⟩:=h;omega
   ·simp at h
 ·simp only[ag_,ad_] at h;obtain⟨rfl,rfl⟩:=h;exact⟨l_,a,ak_ _⟩
def zxv (s:BA) (R:Nat->Nat->Except Nat (DT×Nat×Nat)):Prop:=∀ i n d j m,i<=s.size->n<=300->R i n=.ok (d,j,m)->i<=j/\j<=s.size/\n<m/\m<=300
theorem zf9 {R:Nat->Nat->Except Nat (DT×Nat×Nat)}(b:zxv s R){keyed:Bool}:∀ (c:Nat) (last:Option BA) (i n:Nat) (l:List (BA×DT)) (j m:Nat),i<=s.size->n<=300->xk_ R s keyed c last i n=.ok (l,j,m)->i<=j/\j<=s.size/\n+l.length<=m/\m<=300/\l.length=c
 | 0,last,i,n,l,j,m,hi,hn,h=>by
  simp only[xk_,ae_,ad_] at h;obtain⟨rfl,rfl,rfl⟩:=h
  simp;omega
 | c+1,last,i,n,l,j,m,hi,hn,h=>by
  unfold xk_ at h;split at h
  ·simp at h
  ·rename_i k e hk;have h1:=zst hi hk;split at h
   ·simp at h
   ·rename_i d f p hd;have a:=b _ _ _ _ _ h1.2.1 hn hd;split at h
    ·simp at h
    ·rename_i g j' o he;have:=zf9 b c _ _ _ _ _ _ a.2.1 a.2.2.2 he;simp only[ae_,ad_] at h;obtain⟨rfl,rfl,rfl⟩:=h;simp only[aq_];omega
theorem zeg {R:PT->Nat->Nat->Except Nat (DT×Nat×Nat)}(b:∀ t,zxv s (R t)):∀ (ts:List PT) (i n:Nat) (l:List DT) (j m:Nat),i<=s.size->n<=300->yu_ R ts i n=.ok (l,j,m)->i<=j/\j<=s.size/\n+l.length<=m/\m<=300/\l.length=ts.length
 | [],i,n,l,j,m,hi,hn,h=>by
  simp only[yu_,ae_,ad_] at h;obtain⟨rfl,rfl,rfl⟩:=h
  simp;omega
 | t::r,i,n,l,j,m,hi,hn,h=>by
  unfold yu_ at h;split at h
  ·simp at h
  ·rename_i d c g hd;have a:=b t _ _ _ _ _ hi hn hd;split at h
   ·simp at h
   ·rename_i e j' f he;have:=zeg b r _ _ _ _ _ a.2.1 a.2.2.2 he;simp only[ae_,ad_] at h;obtain⟨rfl,rfl,rfl⟩:=h;simp only[aq_];omega
theorem j0_ (s:BA) (env:Nat->Option PB):∀ (f:Nat) (t:PT),zxv s (rdB s env f t):=by
 intro f
 induction f with
 | zero=>intro t i n d j m _ _ h;simp[rdB] at h
 | succ f ih=>
  intro t i n d j m b hn h;unfold rdB at h;split at h
  ·simp at h
  ·rename_i o;split at h
   ·rename_i c p;unfold j6_ at h;split at h
    ·simp only[ae_,ad_] at h;omega
    ·split at h
     ·split at h
      ·simp only[ae_,ad_] at h;omega
      ·simp at h
     ·split at h
      ·split at h
       ·simp at h
       ·rename_i q a he;have:=y2_ he;simp only[ae_,ad_] at h;omega
      ·split at h
       ·split at h
        ·simp at h
        ·rename_i q a he;have:=zf8 he;simp only[ae_,ad_] at h;omega
       ·split at h
        ·split at h
         ·simp at h
         ·rename_i q a he;have:=zav he;simp only[ae_,ad_] at h;omega
        ·split at h
         ·simp at h
         ·rename_i pb r;unfold xa_ at h;split at h
          ·split at h
           ·simp at h
           ·rename_i ds a v he;have:=zeg ih _ _ _ _ _ _ b (by omega) he;simp only[ae_,ad_] at h;omega
          ·split at h
           ·simp at h
           ·rename_i q a he;have:=y2_ he;simp only[ae_,ad_] at h;omega
          ·split at h
           ·simp at h
           ·rename_i q a he;have:=zbx b he;simp only[ae_,ad_] at h;omega
   ·rename_i c p t;unfold zce at h;split at h
    ·simp at h
    ·rename_i q a he;have h1:=y2_ he;split at h
     ·simp at h
     ·rename_i l e g hl;have:=zf9 (ih t) _ _ _ _ _ _ _ h1.2.1 (by omega) hl;simp only[ae_,ad_] at h;omega
   ·rename_i p ts;unfold v5_ at h;split at h
    ·simp at h
    ·rename_i q a he;have h1:=y2_ he;split at h
     ·simp at h
     ·rename_i t u;split at h
      ·simp at h
      ·rename_i k e g hd;have:=ih t _ _ _ _ _ h1.2.1 (by omega) hd;simp only[ae_,ad_] at h;omega
end Go.Proofs.YtiifagiebikmdaaGreatDoor
