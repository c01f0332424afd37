import Derived.Test.YthmjjpkjgjklmaaGreatDoorW13
import Derived.Test.YthmjjpkjgjklmaaGreatDoorW11
import Derived.Test.YthmjjpkjgjklmaaGreatDoorW12
import Derived.Test.YthmjjpkjgjklmaaGreatDoorW21
import Derived.Test.YthmjjpkjgjklmaaGreatDoorW28
import Derived.Test.YthmjjpkjgjklmaaGreatDoorW37
import Derived.Test.YthmjjpkjgjklmaaGreatDoorW36
import Derived.Test.YthmjjpkjgjklmaaGreatDoorA00
set_option maxHeartbeats 16000000
set_option maxRecDepth 100000
set_option linter.unusedSimpArgs false
namespace Go.Proofs.YthmjjpkjgjklmaaGreatDoor
open Go.RowKit
variable {s x k a b s':BA}{i j c p q u:Nat}{n:Int}{keyed:Bool}{t:PT}{last:Option BA}
theorem zb5 (s:BA) (i:Nat):bt s i=(s.data.toList.getD i 0).toNat:=by
 unfold bt;rw[aq_];split
 ·rename_i h
  have h':i<s.data.toList.length:=by rw[Array.length_toList];exact h
  rw[am_ h']
  rfl
 ·rename_i h;rw[bm_ (by rw[Array.length_toList];exact Nat.le_of_not_lt h)]
  rfl
theorem zuc (a b:BA) (k:Nat):bt (a++b) k=if k<a.size then bt a k else bt b (k-a.size):=by
 have e:(a++b).data.toList=a.data.toList++b.data.toList:=by simp
 have hl:a.data.toList.length=a.size:=Array.length_toList;rw[zb5,e];split
 ·rw[zb5,aq_,aq_,av_ (by omega)]
 ·rw[zb5,aq_,aq_,aw_ (by omega),hl]
theorem zwj (hs:a.size=b.size) (h:∀ k,k<a.size->bt a k=bt b k):a=b:=by
 apply br_
 apply Array.ext
 ·exact hs
 ·intro i h1 h2;have:=h i h1;rw[zbh a i h1,zbh b i h2] at this;exact UInt8.toNat_inj.1 this
def At (s:BA) (i:Nat) (b:BA):Prop:=i+b.size<=s.size/\∀ k,k<b.size->bt s (i+k)=bt b k
theorem At.app :At s i (a++b)↔At s i a/\At s (i+a.size) b:=by
 unfold At;rw[ag_]
 constructor
 ·rintro⟨h1,h2⟩;refine⟨⟨by omega,λ k hk=>?_⟩,by omega,λ k hk=>?_⟩
  ·rw[h2 k (by omega),zuc,if_pos hk]
  ·rw[a0_,h2 (a.size+k) (by omega),zuc,if_neg (by omega),Nat.add_sub_cancel_left]
 ·rintro⟨⟨h1,h2⟩,h3,h4⟩;refine⟨by omega,λ k hk=>?_⟩;rw[zuc];split
  ·exact h2 k (by assumption)
  ·rw[<- h4 (k-a.size) (by omega)]
   congr 1
   omega
theorem At.eq (h:At s i a) (h2:At s i b) (hs:a.size=b.size):a=b:=
 zwj hs (λ k hk=>by rw[<- h.2 k hk,h2.2 k (by omega)])
theorem zht {k:Nat}(h:i+k<j) (hj:j<=s.size):bt (s.extract i j) k=bt s (i+k):=by
 have hs:(s.extract i j).size=j-i:=by rw[as_];omega
 rw[zb5,zb5]
 congr 1
 rw[aq_,aq_]
 congr 1
 rw[ByteArray.data_extract,Array.toList_extract,List.extract_eq_take_drop,List.getElem?_take_of_lt (by omega),List.getElem?_drop]
theorem At.ext (h:i<=j) (hj:j<=s.size):At s i (s.extract i j):=by
 have hs:(s.extract i j).size=j-i:=by rw[as_];omega
 exact⟨by omega,λ k hk=>(zht (by omega) hj).symm⟩
theorem zil:noB.size=0:=rfl
theorem At.nil (h:i<=s.size):At s i noB:=⟨h,λ k hk=>absurd hk (by rw[zil];omega)⟩
theorem zxd:∀ (l:List Nat) (k:Nat),bt (bts l) k=l.getD k 0 % 256:=by
 intro l k;rw[zb5];show(((l.map UInt8.ofNat)).getD k 0).toNat=_;rw[aq_,aq_,a4_];cases l[k]?<;>simp
theorem At.cons {l:List Nat}(hc:c<256):At s i (bts (c::l))↔i<s.size/\bt s i=c/\At s (i+1) (bts l):=by
 have e:bts (c::l)=bts [c]++bts l:=zd0 [c] l;have h1:(bts [c]).size=1:=zi_ [c];rw[e,At.app,h1]
 constructor
 ·rintro⟨⟨a,b⟩,d⟩;have:=b 0 (by omega);rw[zxd] at this;refine⟨by omega,?_,d⟩
  simpa[Nat.mod_eq_of_lt hc] using this
 ·rintro⟨a,b,d⟩;refine⟨⟨by omega,λ k hk=>?_⟩,d⟩
  obtain rfl:k=0:=by omega
  rw[zxd]
  simpa[Nat.mod_eq_of_lt hc] using b
theorem At.one (hc:c<256):At s i (bts [c])↔i<s.size/\bt s i=c:=by
 rw[At.cons hc]
 constructor
 ·rintro⟨a,b,_⟩;exact⟨a,b⟩
 ·rintro⟨a,b⟩;exact⟨a,b,At.nil a⟩
def Lets (x:BA):Prop:=∀ k,k<x.size->97<=bt x k/\bt x k<=122
theorem zfr {lo hi:Nat}:∀ (m i:Nat),i+m<=s.size->(∀ k,k<m->lo<=bt s (i+k)/\bt s (i+k)<=hi)->zm_ lo hi s i=zm_ lo hi s (i+m)
 | 0,i,_,_=>rfl
 | m+1,i,h1,h2=>by
  rw[zfq (by omega) (by simpa using h2 0 (by omega)),zfr m (i+1) (by omega) (λ k hk=>by have:=h2 (k+1) (by omega);rw[show i+1+k=i+(k+1) by omega];exact this)]
  congr 1
  omega
theorem zbq (h:At s i x) (hx:Lets x):zp_ s i=zp_ s (i+x.size):=by
 unfold zp_;exact zfr x.size i h.1 (λ k hk=>by rw[h.2 k hk];exact hx k hk)
def Rise:Option BA->List BA->Prop
 | _,[]=>True
 | last,k::r=>zen last k=true/\Lets k/\k.size<=9223372036854775807/\Rise (some k) r
inductive Dat (env:Nat->Option PB):DT->PT->Prop
 | null {p:Nat}:Dat env (.mk 110 0 noB [] []) (.leaf 110 p)
 | bool {p n:Nat} (h:n<=1):Dat env (.mk 116 (n:Int) noB [] []) (.leaf 116 p)
 | num {p:Nat} {n:Int} (h0 : -2147483648<=n) (h1:n<=2147483647):Dat env (.mk 105 n noB [] []) (.leaf 105 p)
 | long {p:Nat} {n:Int} (h0 : -9223372036854775808<=n) (h1:n<=9223372036854775807):Dat env (.mk 108 n noB [] []) (.leaf 108 p)
 | text {p:Nat} {x:BA} (h:Lets x) (h1:x.size<=9223372036854775807):Dat env (.mk 115 0 x [] []) (.leaf 115 p)
 | bytes {c p:Nat} {x:BA} (he:env c=some (.bytes x.size)) (hb:zu_ c=false) (h:Lets x):Dat env (.mk 102 0 x [] []) (.leaf c p)
 | sym {c p n:Nat} {l:List (Nat×Nat)} {o:Option (Nat×Nat)} (he:env c=some (.enum l o)) (hb:zu_ c=false) (hn:n<l.length):Dat env (.mk 101 (n:Int) noB [] []) (.leaf c p)
 | recd {c p:Nat} {fs:List PF} {ds:List DT} (he:env c=some (.recd fs)) (hb:zu_ c=false) (hl:ds.length=fs.length) (h:∀ (i:Nat) (d:DT) (t:PT),ds[i]?=some d->(fs.map PF.ty)[i]?=some t->Dat env d t):Dat env (.mk 114 0 noB [] ds) (.leaf c p)
 | list {p:Nat} {u:PT} {ds:List DT} (hl:ds.length<=9223372036854775807) (h:∀ d∈ds,Dat env d u):Dat env (.mk 91 0 noB [] ds) (.wrap 91 p u)
 | map {p:Nat} {u:PT} {ks:List BA} {ds:List DT} (hl:ds.length<=9223372036854775807) (hk:ks.length=ds.length) (hr:Rise none ks) (h:∀ d∈ds,Dat env d u):Dat env (.mk 123 0 noB ks ds) (.wrap 123 p u)
 | alts {n p:Nat} {l:List PT} {u:PT} {d:DT} (hn:n<=9223372036854775807) (hl:l[n]?=some u) (h:Dat env d u):Dat env (.mk 40 (n:Int) noB [] [d]) (.alts p l)
theorem ztg :∀ (f i z j:Nat),lebD s f i=some (z,j)->∀ g,f<=g+1->At s i (bts (lebN g z))/\j=i+(bts (lebN g z)).size
 | 0,i,z,j,h,g,hg=>by simp[lebD] at h
 | f+1,i,z,j,h,g,hg=>by
  unfold lebD at h;split at h
  ·rename_i hi;split at h
   ·rename_i hb;simp only[ad_,ab_] at h;obtain⟨rfl,rfl⟩:=h
    have e:lebN g (bt s i)=[bt s i]:=by cases g<;>simp[lebN,hb]
    rw[e,zi_];exact⟨(At.one (zqx s i)).2 ⟨hi,rfl⟩,rfl⟩
   ·rename_i hb;split at h
    ·simp at h
    ·rename_i z' j' he;split at h
     ·simp at h
     ·rename_i hz;simp only[ad_,ab_] at h;obtain⟨rfl,rfl⟩:=h;have hl:=zqx s i
      have hf:1<=f:=by
       cases f
       ·simp[lebD] at he
       ·omega
      obtain⟨g',rfl⟩:∃ g',g=g'+1:=⟨g-1,by omega⟩
      have e:lebN (g'+1) (bt s i-128+128*z')=bt s i::lebN g' z':=by
       rw[lebN,if_neg (by omega),show(bt s i-128+128*z') % 128+128=bt s i by omega,show(bt s i-128+128*z') / 128=z' by omega]
      obtain⟨h1,h2⟩:=ztg f (i+1) z' j' he g' (by omega);rw[e,At.cons hl];refine⟨⟨hi,rfl,h1⟩,?_⟩;rw[h2,zi_,zi_,ar_];omega
  ·simp at h
theorem ztf :∀ (f i z g:Nat),z<128 ^ (f+1)->f<=g->At s i (bts (lebN g z))->lebD s (f+1) i=some (z,i+(bts (lebN g z)).size)
 | f,i,z,g,hz,hg,h=>by
  by_cases hb:z<128
  ·have e:lebN g z=[z]:=by cases g<;>simp[lebN,hb]
   rw[e] at h⊢;obtain⟨h1,h2⟩:=(At.one (by omega)).1 h;unfold lebD;rw[if_pos h1,h2,if_pos hb,zi_]
   rfl
  ·cases f with
   | zero=>simp at hz;omega
   | succ f=>
    obtain⟨g',rfl⟩:∃ g',g=g'+1:=⟨g-1,by omega⟩
    have e:lebN (g'+1) z=(z % 128+128)::lebN g' (z / 128):=by rw[lebN,if_neg hb]
    rw[e] at h⊢;obtain⟨h1,h2,h3⟩:=(At.cons (by omega)).1 h;have:=ztf f (i+1) (z / 128) g' (by rw[Nat.pow_succ] at hz;exact Nat.div_lt_of_lt_mul (by rw[bo_];exact hz)) (by omega) h3;unfold lebD;rw[if_pos h1,h2,if_neg (by omega),this];simp only;rw[if_neg (by omega)];simp only[ad_,ab_];rw[zi_,zi_,ar_];omega
theorem zwh (z:Nat):zci (unfI z)=z:=by
 unfold zci unfI;split<;>split<;>omega
theorem zu9 (n:Int):unfI (zci n)=n:=by
 unfold zci unfI;split<;>split<;>omega
theorem z0i (h:bL s i=some (n,j)):At s i (zt_ n)/\j=i+(zt_ n).size:=by
 unfold bL at h;split at h
 ·simp at h
 ·rename_i z j' he;split at h
  ·simp only[ad_,ab_] at h;obtain⟨rfl,rfl⟩:=h;unfold zt_ leb;rw[zwh];exact ztg 10 i z _ he 10 (by omega)
  ·simp at h
theorem z0h (h0 : -9223372036854775808<=n) (h1:n<=9223372036854775807) (h:At s i (zt_ n)):bL s i=some (n,i+(zt_ n).size):=by
 have hz:zci n<18446744073709551616:=by unfold zci;split<;>omega
 unfold bL;rw[ztf 9 i (zci n) 10 (by omega) (by omega) h];simp only;rw[if_pos hz,zu9]
 rfl
theorem zgk {lo hi:Int}(h:bNum s lo hi i=some (n,j)):lo<=n/\n<=hi/\At s i (zt_ n)/\j=i+(zt_ n).size:=by
 unfold bNum at h;split at h
 ·simp at h
 ·rename_i n' j' he;split at h
  ·rename_i hb;simp only[ad_,ab_] at h;obtain⟨rfl,rfl⟩:=h;exact⟨hb.1,hb.2,z0i he⟩
  ·simp at h
theorem zd3 {lo hi:Int}(h0 : -9223372036854775808<=n) (h1:n<=9223372036854775807) (hl:lo<=n) (hh:n<=hi) (h:At s i (zt_ n)):bNum s lo hi i=some (n,i+(zt_ n).size):=by
 unfold bNum;rw[z0h h0 h1 h];simp only;rw[if_pos ⟨hl,hh⟩]
theorem zo1 {n:Nat}(hi:i<=s.size) (h:j7_ s i n=some (x,j)):At s i x/\j=i+x.size/\x.size=n/\Lets x:=by
 obtain⟨g1,g2,g3,g4⟩:=zbw hi h;unfold j7_ at h;split at h
 ·rename_i hb;simp only[ad_,ab_] at h;obtain⟨rfl,rfl⟩:=h;refine⟨At.ext (by omega) g2,by omega,g4,λ k hk=>?_⟩;rw[zht (by omega) g2];exact x9_ 97 122 s (s.size-i) i l_ (i+k) (by omega) (by unfold zp_ at hb;omega)
 ·simp at h
theorem zo0 (hx:Lets x) (h:At s i x):j7_ s i x.size=some (x,i+x.size):=by
 have h1:=zbq h hx;have h2:=(yj_ 97 122 s _ (i+x.size) l_).1;unfold j7_;rw[if_pos (by rw[h1];exact h2)];have hs:=h.1;have e:s.extract i (i+x.size)=x:=(At.ext (by omega) hs).eq h (by rw[as_];omega);rw[e]
theorem zlw (h:vu_ s i=some (x,j)):At s i (zt_ x.size++x)/\j=i+(zt_ x.size++x).size/\Lets x/\x.size<=9223372036854775807:=by
 unfold vu_ at h;split at h
 ·simp at h
 ·rename_i n j' he;obtain⟨a1,a2,a3,rfl⟩:=zgk he;obtain⟨b1,b2,b3,b4⟩:=zo1 a3.1 h
  have e:(x.size:Int)=n:=by omega
  rw[e,At.app,ag_];exact⟨⟨a3,b1⟩,by omega,b4,by omega⟩
theorem zlv (hx:Lets x) (h1:x.size<=9223372036854775807) (h:At s i (zt_ x.size++x)):vu_ s i=some (x,i+(zt_ x.size++x).size):=by
 obtain⟨a,b⟩:=At.app.1 h;unfold vu_ zdg;rw[zd3 (by omega) (by omega) (by omega) (by omega) a];simp only[bc_];rw[zo0 hx b,ag_,a0_]
open Go.RowKit
theorem zdz:∀ (ds:List DT) (ks ks':List BA),byTs false ks ds=byTs false ks' ds
 | [],_,_=>by simp[byTs]
 | d::r,ks,ks'=>by
  simp only[byTs];rw[zdz r ks.tail ks'.tail]
  simp
def RbAt (env:Nat->Option PB) (s:BA) (R:Nat->Nat->Except Nat (DT×Nat×Nat)) (t:PT):Prop:=
 ∀ i n d j m,i<=s.size->R i n=.ok (d,j,m)->Dat env d t/\At s i (byT d)/\j=i+(byT d).size
def keyB (keyed:Bool) (k:BA):BA:=if keyed=true then zt_ k.size++k else noB
theorem zy3 (hi:i<=s.size) (h:bKey s keyed last i=some (k,j)) :
 At s i (keyB keyed k)/\j=i+(keyB keyed k).size/\(keyed=true->zen last k=true/\Lets k/\k.size<=9223372036854775807):=by
 unfold bKey at h;unfold keyB
 cases keyed with
 | false=>
  simp only[az_,if_false,ad_,ab_] at h⊢;obtain⟨rfl,rfl⟩:=h;exact⟨At.nil hi,rfl,λ h=>h.elim⟩
 | true=>
  simp only[if_true] at h⊢;split at h
  ·simp at h
  ·rename_i k' j' he;split at h
   ·rename_i hr;simp only[ad_,ab_] at h;obtain⟨rfl,rfl⟩:=h;obtain⟨a,b,c,d⟩:=zlw he;exact⟨a,b,λ _=>⟨hr,c,d⟩⟩
   ·simp at h
theorem zls (keyed:Bool) (k:BA) (ks:List BA) (d:DT) (ds:List DT):byTs keyed (k::ks) (d::ds)=(keyB keyed k++byT d)++byTs keyed ks ds:=by
 rw[byTs];rfl
theorem zlx {env:Nat->Option PB}{R:Nat->Nat->Except Nat (DT×Nat×Nat)}(hR:RbAt env s R t):∀ (c:Nat) (last:Option BA) (i n:Nat) (l:List (BA×DT)) (j m:Nat),i<=s.size->xd_ R s keyed c last i n=.ok (l,j,m)->
 l.length=c/\(∀ e∈l,Dat env e.2 t)/\(keyed=true->Rise last (l.map Prod.fst))/\At s i (byTs keyed (l.map Prod.fst) (l.map Prod.snd))/\j=i+(byTs keyed (l.map Prod.fst) (l.map Prod.snd)).size
 | 0,last,i,n,l,j,m,hi,h=>by
  simp only[xd_,af_,ab_] at h;obtain⟨rfl,rfl,rfl⟩:=h;refine⟨rfl,λ e he=>(by cases he),λ _=>trivial,?_,?_⟩
  ·simp only[a1_,byTs];exact At.nil hi
  ·simp only[a1_,byTs];rfl
 | c+1,last,i,n,l,j,m,hi,h=>by
  unfold xd_ at h;split at h
  ·simp at h
  ·rename_i k i1 hk;obtain⟨k1,k2,k3⟩:=zy3 hi hk;split at h
   ·simp at h
   ·rename_i d j1 m1 hd;have:=k1.1;obtain⟨d1,d2,d3⟩:=hR _ _ _ _ _ (by omega) hd;split at h
    ·simp at h
    ·rename_i l' j' m' he;have:=d2.1;obtain⟨e1,e2,e3,e4,e5⟩:=zlx hR c _ _ _ _ _ _ (by omega) he;simp only[af_,ab_] at h;obtain⟨rfl,rfl,rfl⟩:=h;simp only[ap_,zls];refine⟨by simp[e1],λ e he=>?_,λ hk=>⟨(k3 hk).1,(k3 hk).2.1,(k3 hk).2.2,e3 hk⟩,?_,?_⟩
     ·rcases an_.1 he with rfl|he
      ·exact d1
      ·exact e2 e he
     ·rw[At.app,At.app,ag_];refine⟨⟨k1,?_⟩,?_⟩
      ·rw[<- k2];exact d2
      ·rw[<- a0_,<- k2,<- d3];exact e4
     ·rw[ag_,ag_];omega
theorem zhw {env:Nat->Option PB}{R:PT->Nat->Nat->Except Nat (DT×Nat×Nat)}:∀ (ts:List PT),(∀ t∈ts,RbAt env s (R t) t)->∀ (i n:Nat) (l:List DT) (j m:Nat),i<=s.size->yq_ R ts i n=.ok (l,j,m)->
 l.length=ts.length/\(∀ (q:Nat) (d:DT) (t:PT),l[q]?=some d->ts[q]?=some t->Dat env d t)/\At s i (byTs false [] l)/\j=i+(byTs false [] l).size
 | [],hR,i,n,l,j,m,hi,h=>by
  simp only[yq_,af_,ab_] at h;obtain⟨rfl,rfl,rfl⟩:=h;refine⟨rfl,λ q d t hd=>by simp at hd,?_,?_⟩
  ·simp only[byTs];exact At.nil hi
  ·simp only[byTs];rfl
 | t::r,hR,i,n,l,j,m,hi,h=>by
  unfold yq_ at h;split at h
  ·simp at h
  ·rename_i d j1 m1 hd;obtain⟨d1,d2,d3⟩:=hR t (ay_ ..) _ _ _ _ _ hi hd;split at h
   ·simp at h
   ·rename_i l' j' m' he;have:=d2.1;obtain⟨e1,e2,e4,e5⟩:=zhw r (λ t ht=>hR t (bv_ _ ht)) _ _ _ _ _ (by omega) he;simp only[af_,ab_] at h;obtain⟨rfl,rfl,rfl⟩:=h
    have e:byTs false [] (d::l')=byT d++byTs false [] l':=by simp only[byTs,List.tail_nil];simp[xl_]
    rw[e];refine⟨by simp[e1],λ q d' t' hd' ht'=>?_,?_,?_⟩
    ·cases q with
     | zero=>simp at hd' ht';subst hd' ht';exact d1
     | succ q=>exact e2 q d' t' (by simpa using hd') (by simpa using ht')
    ·rw[At.app,<- d3];exact⟨d2,e4⟩
    ·rw[ag_];omega
theorem zw8 {env:Nat->Option PB}(hE:zes env) (s:BA):∀ (f:Nat) (t:PT),okT env t->RbAt env s (rdB s env f t) t:=by
 intro f
 induction f with
 | zero=>intro t _ i n d j m _ h;simp[rdB] at h
 | succ f ih=>
  intro t ht i n d j m hi h;unfold rdB at h;split at h
  ·simp at h
  ·split at h
   ·rename_i c p;unfold zag at h;split at h
    ·rename_i hc;subst hc;simp only[af_,ab_] at h;obtain⟨rfl,rfl,rfl⟩:=h
     have e:byT (.mk 110 0 noB [] [])=noB:=by simp[byT,byTs,xl_]
     rw[e];exact⟨.null,At.nil hi,rfl⟩
    ·split at h
     ·rename_i hc;subst hc;split at h
      ·rename_i hb;simp only[af_,ab_] at h;obtain⟨rfl,rfl,rfl⟩:=h
       have e:byT (.mk 116 (bt s i:Int) noB [] [])=bts [bt s i]:=by simp[byT]
       rw[e,zi_];exact⟨.bool hb.2,(At.one (zqx s i)).2 ⟨hb.1,rfl⟩,rfl⟩
      ·simp at h
     ·split at h
      ·rename_i hc;subst hc;split at h
       ·simp at h
       ·rename_i q j' he;simp only[af_,ab_] at h;obtain⟨rfl,rfl,rfl⟩:=h;obtain⟨a1,a2,a3,a4⟩:=zgk he
        have e:byT (.mk 105 q noB [] [])=zt_ q:=by simp[byT]
        rw[e];exact⟨.num a1 a2,a3,a4⟩
      ·split at h
       ·rename_i hc;subst hc;split at h
        ·simp at h
        ·rename_i q j' he;simp only[af_,ab_] at h;obtain⟨rfl,rfl,rfl⟩:=h;obtain⟨a3,a4⟩:=z0i he;have hg:=zi6 he
         have e:byT (.mk 108 q noB [] [])=zt_ q:=by simp[byT]
         rw[e];exact⟨.long hg.2.2.1 hg.2.2.2,a3,a4⟩
       ·split at h
        ·rename_i hc;subst hc;split at h
         ·simp at h
         ·rename_i x j' he;simp only[af_,ab_] at h;obtain⟨rfl,rfl,rfl⟩:=h;obtain⟨a1,a2,a3,a4⟩:=zlw he
          have e:byT (.mk 115 0 x [] [])=zt_ x.size++x:=by simp[byT]
          rw[e];exact⟨.text a3 a4,a1,a2⟩
        ·rename_i h1 h2 h3 h4 h5
         have hb:zu_ c=false:=by simp[zu_,h1,h2,h3,h4,h5]
         split at h
         ·simp at h
         ·rename_i pb he;have hok:=hE c pb he;unfold vv_ at h;split at h
          ·rename_i fs;split at h
           ·simp at h
           ·rename_i ds j' m' hf;simp only[af_,ab_] at h;obtain⟨rfl,rfl,rfl⟩:=h
            obtain⟨a1,a2,a3,a4⟩:=zhw (fs.map PF.ty) (λ t ht=>by
             obtain⟨g,hg,rfl⟩:=bk_.1 ht
             exact ih g.ty (hok g hg)) _ _ _ _ _ hi hf
            have e:byT (.mk 114 0 noB [] ds)=byTs false [] ds:=by simp[byT,xl_]
            rw[e];exact⟨.recd he hb (by simpa using a1) a2,a3,a4⟩
          ·rename_i l o;split at h
           ·simp at h
           ·rename_i q j' hq;simp only[af_,ab_] at h;obtain⟨rfl,rfl,rfl⟩:=h;obtain⟨a1,a2,a3,a4⟩:=zgk hq;obtain⟨q,rfl⟩:∃ k:Nat,q=k:=⟨q.toNat,by omega⟩
            have e:byT (.mk 101 (q:Int) noB [] [])=zt_ q:=by simp[byT]
            rw[e];exact⟨.sym he hb (by omega),a3,a4⟩
          ·rename_i k;split at h
           ·simp at h
           ·rename_i x j' hx;simp only[af_,ab_] at h;obtain⟨rfl,rfl,rfl⟩:=h;obtain⟨a1,a2,a3,a4⟩:=zo1 hi hx
            have e:byT (.mk 102 0 x [] [])=x:=by simp[byT]
            rw[e];subst a3;exact⟨.bytes he hb a4,a1,a2⟩
   ·rename_i c p u;unfold okT at ht;unfold zdf at h;split at h
    ·simp at h
    ·rename_i q j' hq;obtain⟨a1,a2,a3,a4⟩:=zgk hq;obtain⟨q,rfl⟩:∃ k:Nat,q=k:=⟨q.toNat,by omega⟩;split at h
     ·simp at h
     ·rename_i l j2 m2 hl;simp only[af_,ab_] at h;obtain⟨rfl,rfl,rfl⟩:=h;have:=a3.1;obtain⟨b1,b2,b3,b4,b5⟩:=zlx (ih u ht.2) _ _ _ _ _ _ _ (by omega) hl;rw[bc_] at b1
      have hd:∀ d∈l.map Prod.snd,Dat env d u:=λ d hd=>by
       obtain⟨e,he,rfl⟩:=bk_.1 hd;exact b2 e he
      rcases ht.1 with rfl|rfl
      ·have e:byT (.mk 91 0 noB [] (l.map Prod.snd))=zt_ q++byTs false (l.map Prod.fst) (l.map Prod.snd):=by
        rw[zdz (l.map Prod.snd) (l.map Prod.fst) []]
        simp[byT,b1]
       simp only[show((91:Nat)==123)=false from rfl,az_,if_false] at b4 b5⊢;rw[e,At.app,ag_];refine⟨.list (by simp;omega) hd,⟨a3,?_⟩,by omega⟩;rw[<- a4];exact b4
      ·have e:byT (.mk 123 0 noB (l.map Prod.fst) (l.map Prod.snd))=zt_ q++byTs true (l.map Prod.fst) (l.map Prod.snd):=by simp[byT,b1]
       simp only[show((123:Nat)==123)=true from rfl,if_true] at b3 b4 b5⊢;rw[e,At.app,ag_];refine⟨.map (by simp;omega) (by simp) (b3 trivial) hd,⟨a3,?_⟩,by omega⟩;rw[<- a4];exact b4
   ·rename_i p ts;unfold okT at ht;unfold j8_ at h;split at h
    ·simp at h
    ·rename_i q j' hq;obtain⟨a1,a2,a3,a4⟩:=zgk hq;obtain⟨q,rfl⟩:∃ k:Nat,q=k:=⟨q.toNat,by omega⟩;rw[bc_] at h;have hg:=(y7_ hq);split at h
     ·simp at h
     ·rename_i u hu;split at h
      ·simp at h
      ·rename_i d' j2 m2 hd;simp only[af_,ab_] at h;obtain⟨rfl,rfl,rfl⟩:=h;have:=a3.1;obtain⟨b1,b2,b3⟩:=ih u (j6_ ht.2 u (ak_ hu)).2 _ _ _ _ _ (by omega) hd
       have e:byT (.mk 40 (q:Int) noB [] [d'])=zt_ q++byT d':=by simp[byT,byTs,xl_,j9_]
       rw[e,At.app,ag_];refine⟨.alts (by omega) hu b1,⟨a3,?_⟩,by omega⟩;rw[<- a4];exact b2
open Go.RowKit
theorem zy2 (h:At s i (keyB keyed k)) (hk:keyed=true->zen last k=true/\Lets k/\k.size<=9223372036854775807) :
 bKey s keyed last i=some (if keyed=true then k else noB,i+(keyB keyed k).size):=by
 unfold bKey;unfold keyB at h⊢
 cases keyed with
 | false=>simp only[az_,if_false];rfl
 | true=>
  simp only[if_true] at h⊢;obtain⟨a,b,c⟩:=hk rfl;rw[zlv b c h];simp only;rw[if_pos a]
theorem zgl {R:Nat->Nat->Except Nat (DT×Nat×Nat)}{N n0:Nat}:∀ (ks:List BA) (ds:List DT) (last:Option BA) (i n:Nat),ks.length=ds.length->(keyed=true->Rise last ks)->
 (∀ d∈ds,∀ i n,n0<=n->At s i (byT d)->n+ndT d<=N->R i n=.ok (d,i+(byT d).size,n+ndT d))->n0<=n->At s i (byTs keyed ks ds)->n+ndTs ds<=N->
 ∃ l,xd_ R s keyed ds.length last i n=.ok (l,i+(byTs keyed ks ds).size,n+ndTs ds)/\l.map Prod.snd=ds/\(keyed=true->l.map Prod.fst=ks)
 | [],[],last,i,n,_,_,_,_,h,_=>by
  refine⟨[],?_,rfl,λ _=>rfl⟩;simp only[ax_,xd_,byTs,ndTs]
  rfl
 | k::ks,d::ds,last,i,n,hl,hr,hR,hn,h,hN=>by
  rw[zls] at h⊢;obtain⟨h12,h3⟩:=At.app.1 h;obtain⟨h1,h2⟩:=At.app.1 h12;rw[ndTs] at hN;have hd:=hR d (ay_ ..) (i+(keyB keyed k).size) n hn h2 (by omega);rw[ag_,<- a0_] at h3;obtain⟨l,e1,e2,e3⟩:=zgl ks ds (some (if keyed=true then k else noB)) _ (n+ndT d) (by simpa using hl) (λ hk=>by subst hk;exact(hr rfl).2.2.2) (λ d' hd'=>hR d' (bv_ _ hd')) (by omega) h3 (by omega);refine⟨(if keyed=true then k else noB,d)::l,?_,by simp[e2],λ hk=>by subst hk;simp[e3]⟩;rw[ar_];unfold xd_;rw[zy2 h1 (λ hk=>⟨(hr hk).1,(hr hk).2.1,(hr hk).2.2.1⟩)];simp only;rw[hd];simp only;rw[e1];simp only[af_,ab_,true_and,ndTs,ag_];omega
 | [],_::_,_,_,_,hl,_,_,_,_,_=>by simp at hl
 | _::_,[],_,_,_,hl,_,_,_,_,_=>by simp at hl
theorem zhv {R:PT->Nat->Nat->Except Nat (DT×Nat×Nat)}{N n0:Nat}:∀ (ts:List PT) (ds:List DT) (i n:Nat),ds.length=ts.length->
 (∀ (q:Nat) (d:DT) (t:PT),ds[q]?=some d->ts[q]?=some t->∀ i n,n0<=n->At s i (byT d)->n+ndT d<=N->R t i n=.ok (d,i+(byT d).size,n+ndT d))->n0<=n->At s i (byTs false [] ds)->n+ndTs ds<=N->
 yq_ R ts i n=.ok (ds,i+(byTs false [] ds).size,n+ndTs ds)
 | [],[],i,n,_,_,_,h,_=>by
  simp only[yq_,byTs,ndTs]
  rfl
 | t::ts,d::ds,i,n,hl,hR,hn,h,hN=>by
  have e:byTs false [] (d::ds)=byT d++byTs false [] ds:=by simp only[byTs,List.tail_nil];simp[xl_]
  rw[e] at h⊢;obtain⟨h2,h3⟩:=At.app.1 h;rw[ndTs] at hN;have hd:=hR 0 d t rfl rfl i n hn h2 (by omega);have e1:=zhv ts ds _ (n+ndT d) (by simpa using hl) (λ q d' t' hd' ht'=>hR (q+1) d' t' (by simpa using hd') (by simpa using ht')) (by omega) h3 (by omega);unfold yq_;rw[hd];simp only;rw[e1];simp only[af_,ab_,true_and,ndTs,ag_];omega
 | [],_::_,_,_,hl,_,_,_,_=>by simp at hl
 | _::_,[],_,_,hl,_,_,_,_=>by simp at hl
theorem xv_ (k:Nat) (n:Int) (x:BA) (ks:List BA) (ds:List DT):ndT (.mk k n x ks ds)=1+ndTs ds:=by rw[ndT]
theorem y0_ (h:zu_ c=false):c≠110/\c≠116/\c≠105/\c≠108/\c≠115:=by
 simp[zu_] at h
 omega
theorem zzn {env:Nat->Option PB}(hE:zes env) (s:BA):∀ (f:Nat) (d:DT) (t:PT) (i n:Nat),Dat env d t->At s i (byT d)->n+ndT d<=300->301<=f+n->rdB s env f t i n=.ok (d,i+(byT d).size,n+ndT d):=by
 intro f
 induction f with
 | zero=>intro d t i n _ _ h1 h2;cases d;rw[ndT] at h1;omega
 | succ f ih=>
  intro d t i n hd hA h1 h2
  have hn:¬ 300<=n:=by cases d;rw[ndT] at h1;omega
  unfold rdB;rw[if_neg hn]
  cases hd with
  | null=>
   have e:byT (.mk 110 0 noB [] [])=noB:=by simp[byT,byTs,xl_]
   simp only[zag,if_true,e,xv_,ndTs]
   rfl
  | bool hb=>
   rename_i p q
   have e:byT (.mk 116 (q:Int) noB [] [])=bts [q]:=by simp[byT]
   rw[e] at hA⊢;obtain⟨a1,a2⟩:=(At.one (by omega)).1 hA;simp only[zag];rw[if_neg (by decide),if_pos trivial,if_pos ⟨a1,by omega⟩,a2];simp only[zi_,xv_,ndTs]
   rfl
  | num h0 h1'=>
   rename_i p q
   have e:byT (.mk 105 q noB [] [])=zt_ q:=by simp[byT]
   rw[e] at hA⊢;simp only[zag];rw[if_neg (by decide),if_neg (by decide),if_pos trivial,zd3 (by omega) (by omega) h0 h1' hA];simp only[xv_,ndTs]
  | long h0 h1'=>
   rename_i p q
   have e:byT (.mk 108 q noB [] [])=zt_ q:=by simp[byT]
   rw[e] at hA⊢;simp only[zag];rw[if_neg (by decide),if_neg (by decide),if_neg (by decide),if_pos trivial,z0h h0 h1' hA];simp only[xv_,ndTs]
  | text hx h1'=>
   rename_i p x
   have e:byT (.mk 115 0 x [] [])=zt_ x.size++x:=by simp[byT]
   rw[e] at hA⊢;simp only[zag];rw[if_neg (by decide),if_neg (by decide),if_neg (by decide),if_neg (by decide),if_pos trivial,zlv hx h1' hA];simp only[xv_,ndTs]
  | bytes he hb hx=>
   rename_i c p x;obtain⟨b1,b2,b3,b4,b5⟩:=y0_ hb
   have e:byT (.mk 102 0 x [] [])=x:=by simp[byT]
   rw[e] at hA⊢;simp only[zag];rw[if_neg b1,if_neg b2,if_neg b3,if_neg b4,if_neg b5,he];simp only[vv_];rw[zo0 hx hA];simp only[xv_,ndTs]
  | sym he hb hn'=>
   rename_i c p q l o;obtain⟨b1,b2,b3,b4,b5⟩:=y0_ hb;have hlen:=(hE c _ he).2
   have e:byT (.mk 101 (q:Int) noB [] [])=zt_ q:=by simp[byT]
   rw[e] at hA⊢;simp only[zag];rw[if_neg b1,if_neg b2,if_neg b3,if_neg b4,if_neg b5,he];simp only[vv_];rw[zd3 (by omega) (by omega) (by omega) (by omega) hA];simp only[xv_,ndTs]
  | recd he hb hl h=>
   rename_i c p fs ds;obtain⟨b1,b2,b3,b4,b5⟩:=y0_ hb
   have e:byT (.mk 114 0 noB [] ds)=byTs false [] ds:=by simp[byT,xl_]
   rw[e] at hA⊢;rw[xv_] at h1⊢;simp only[zag];rw[if_neg b1,if_neg b2,if_neg b3,if_neg b4,if_neg b5,he];simp only[vv_];rw[zhv (N:=300) (n0:=n+1) (fs.map PF.ty) ds i (n+1) (by simpa using hl) (λ q d t hd ht i' n' hn' hA' hN'=>ih d t i' n' (h q d t hd ht) hA' hN' (by omega)) l_ hA (by omega)];simp only[a0_]
  | list hl h=>
   rename_i p u ds
   have e:byT (.mk 91 0 noB [] ds)=zt_ ds.length++byTs false (ds.map λ _=>noB) ds:=by
    rw[zdz ds _ []]
    simp[byT]
   rw[e] at hA⊢;obtain⟨a1,a2⟩:=At.app.1 hA;rw[xv_] at h1⊢;simp only[zdf,zdg];rw[zd3 (by omega) (by omega) (by omega) (by omega) a1];simp only[bc_,show((91:Nat)==123)=false from rfl];obtain⟨l,e1,e2,e3⟩:=zgl (R:=rdB s env f u) (s:=s) (keyed:=false) (N:=300) (n0:=n+1) (ds.map λ _=>noB) ds none _ (n+1) (by simp) (λ hk=>by cases hk) (λ d hd i' n' hn' hA' hN'=>ih d u i' n' (h d hd) hA' hN' (by omega)) l_ a2 (by omega);rw[e1];simp only[az_,if_false,e2,ag_,a0_]
  | map hl hk hr h=>
   rename_i p u ks ds
   have e:byT (.mk 123 0 noB ks ds)=zt_ ds.length++byTs true ks ds:=by simp[byT]
   rw[e] at hA⊢;obtain⟨a1,a2⟩:=At.app.1 hA;rw[xv_] at h1⊢;simp only[zdf,zdg];rw[zd3 (by omega) (by omega) (by omega) (by omega) a1];simp only[bc_,show((123:Nat)==123)=true from rfl];obtain⟨l,e1,e2,e3⟩:=zgl (R:=rdB s env f u) (s:=s) (keyed:=true) (N:=300) (n0:=n+1) ks ds none _ (n+1) hk (λ _=>hr) (λ d hd i' n' hn' hA' hN'=>ih d u i' n' (h d hd) hA' hN' (by omega)) l_ a2 (by omega);rw[e1];simp only[if_true,e2,e3,ag_,a0_]
  | alts hn' hl h=>
   rename_i q p l u d;have hlt:q<l.length:=(ao_.1 hl).1
   have e:byT (.mk 40 (q:Int) noB [] [d])=zt_ q++byT d:=by simp[byT,byTs,xl_,j9_]
   rw[e] at hA⊢;obtain⟨a1,a2⟩:=At.app.1 hA;rw[xv_] at h1⊢;simp only[ndTs,a7_] at h1⊢;simp only[j8_];rw[zd3 (by omega) (by omega) (by omega) (by omega) a1];simp only[bc_,hl];rw[ih d u _ (n+1) h a2 (by omega) (by omega)];simp only[ag_,a0_]
def Pre (s s':BA):Prop:=At s' 0 s
theorem Pre.bt (h:Pre s s'){k:Nat}(hk:k<s.size):_root_.Go.Proofs.YthmjjpkjgjklmaaGreatDoor.bt s' k=_root_.Go.Proofs.YthmjjpkjgjklmaaGreatDoor.bt s k:=by
 have:=h.2 k hk
 rwa[bg_] at this
theorem Pre.size (h:Pre s s'):s.size<=s'.size:=by have:=h.1;omega
theorem Pre.at (h:Pre s s') (hx:At s i x):At s' i x:=
 ⟨by have:=h.size;have:=hx.1;omega,λ k hk=>by rw[h.bt (by have:=hx.1;omega)];exact hx.2 k hk⟩
open Go.RowKit
theorem ztw:∀ (l:List UInt8) (c:UInt8),dv (l++[c])=10*dv l+(c.toNat-48)
 | [],c=>by simp[dv]
 | a::l,c=>by
  rw[bn_,dv,dv,ztw l c,al_,ai_,Nat.pow_succ,Nat.mul_add,<- Nat.mul_assoc,<- Nat.mul_assoc,bo_ _ 10,<- Nat.mul_assoc,a0_]
theorem ztz (h:u<10):(UInt8.ofNat (48+u)).toNat=48+u:=by
 rw[UInt8.toNat_ofNat'];exact Nat.mod_eq_of_lt (by omega)
theorem ja_:∀ (N u:Nat),u<=N->digs (Lib.decDigits u)/\dv (Lib.decDigits u)=u/\∃ c r,Lib.decDigits u=c::r/\(u=0->r=[]/\c=48)/\(u≠0->49<=c.toNat):=by
 intro N
 induction N with
 | zero=>
  intro u h
  obtain rfl:u=0:=by omega
  rw[Lib.decDigits,dif_pos (by decide)];exact⟨λ c hc=>by simp at hc;subst hc;decide,by decide,_,_,rfl,λ _=>⟨rfl,rfl⟩,λ h=>absurd rfl h⟩
 | succ N ih=>
  intro u h
  by_cases hu:u<10
  ·rw[Lib.decDigits,dif_pos hu];have e:=ztz hu;refine⟨λ c hc=>?_,?_,_,_,rfl,λ h0=>?_,λ h0=>by omega⟩
   ·rw[a6_] at hc;subst hc;omega
   ·simp only[dv,ax_,Nat.pow_zero,Nat.mul_one,a7_];omega
   ·subst h0;exact⟨rfl,rfl⟩
  ·rw[Lib.decDigits,dif_neg hu];obtain⟨a,b,c,r,e1,e2,e3⟩:=ih (u / 10) (by omega);have e:=ztz (u:=u % 10) (by omega);refine⟨λ x hx=>?_,?_,c,r++[UInt8.ofNat (48+u % 10)],by rw[e1];rfl,λ h0=>by omega,λ _=>e3 (by omega)⟩
   ·rcases bj_.1 hx with hx|hx
    ·exact a x hx
    ·rw[a6_] at hx;subst hx;omega
   ·rw[ztw,b];omega
theorem zz9 {l r:List UInt8}{c:UInt8}(hd:digs l) (hl:l=c::r) (hz:¬ (c.toNat=48/\r≠[])):Lib.decDigits (dv l)=l:=by
 subst hl;obtain⟨a1,a2,c',r',e1,e2,e3⟩:=ja_ _ (dv (c::r)) l_;have hc:=hd c (ay_ ..)
 have hlen:(Lib.decDigits (dv (c::r))).length=(c::r).length:=by
  by_cases h0:c.toNat=48
  ·have hr:r=[]:=by
    by_cases hr:r=[]
    ·exact hr
    ·exact absurd ⟨h0,hr⟩ hz
   subst hr
   have hv:dv [c]=0:=by simp[dv];omega
   rw[hv] at e1 e2;rw[hv,e1,(e2 rfl).1]
   rfl
  ·have h49:49<=c.toNat:=by omega
   have b1:=znk (r:=r) h49;have b2:=zli hd
   have hne:dv (c::r)≠0:=by have:=Nat.pow_pos (n:=r.length) (show 0<10 by decide);omega
   have b3:=znk (r:=r') (e3 hne);have b4:=zli a1;rw[e1] at a2 b4;rw[a2] at b3 b4;rw[e1];simp only[ar_] at b2 b4⊢;have q1:r.length<r'.length+1:=(Nat.pow_lt_pow_iff_right (show 1<10 by decide)).1 (Nat.lt_of_le_of_lt b1 b4);have q2:r'.length<r.length+1:=(Nat.pow_lt_pow_iff_right (show 1<10 by decide)).1 (Nat.lt_of_le_of_lt b3 b2);omega
 exact((ztx hlen a1 hd).2).2 a2
theorem xw_ (x:BA):x.size=x.data.toList.length:=Array.length_toList.symm
theorem znl (h:digs x.data.toList){k:Nat}(hk:k<x.size):48<=bt x k/\bt x k<=57:=by
 rw[zb5]
 have hk':k<x.data.toList.length:=by rw[<- xw_];exact hk
 rw[aq_,am_ hk'];exact h _ (bd_ hk')
theorem xq_ (u:Nat):(decB (u:Int)).data.toList=Lib.decDigits u:=by unfold decB;rw[Lib.itoa_nonneg]
theorem zfe (u:Nat) (h:1<=u):decB (-(u:Int))=bts [45]++decB (u:Int):=by
 apply br_
 unfold decB;rw[Lib.itoa_neg u h,Lib.itoa_nonneg]
 simp[bts]
theorem zmh (hA:At s i (decB (u:Int))) (hst:¬ (48<=bt s (i+(decB (u:Int)).size)/\bt s (i+(decB (u:Int)).size)<=57)) :
 zm_ 48 57 s i=i+(decB (u:Int)).size/\s.extract i (i+(decB (u:Int)).size)=decB (u:Int)/\0<(decB (u:Int)).size/\(48<=bt s i/\bt s i<=57)/\bt s i=bt (decB (u:Int)) 0:=by
 obtain⟨f1,f2,c,r,f3,f4,f5⟩:=ja_ _ u l_
 have hd:digs (decB (u:Int)).data.toList:=by rw[xq_];exact f1
 have hp:0<(decB (u:Int)).size:=by rw[xw_,xq_,f3];simp
 have h0:=hA.2 0 hp;rw[a7_] at h0;refine⟨?_,?_,hp,?_,h0⟩
 ·rw[zfr _ i hA.1 (λ k hk=>by rw[hA.2 k hk];exact znl hd hk),vf_ hst]
 ·exact(At.ext (by omega) hA.1).eq hA (by rw[as_];have:=hA.1;omega)
 ·rw[h0];exact znl hd hp
theorem zi3 (h:bt (decB (u:Int)) 0=48):u=0:=by
 obtain⟨f1,f2,c,r,f3,f4,f5⟩:=ja_ _ u l_
 by_cases hu:u=0
 ·exact hu
 ·have:=f5 hu;rw[zb5,xq_,f3] at h
  simp at h
  omega
theorem zdb:(decB ((0:Nat):Int)).size=1:=by
 rw[xw_,xq_,Lib.decDigits,dif_pos (by decide)]
 rfl
theorem zof {kd:Nat}(hkd:kd=105\/kd=108) (hlo:loV kd<=n) (hhi:n<=hiV kd) (hA:At s i (decB n)) (hst:¬ (48<=bt s (i+(decB n).size)/\bt s (i+(decB n).size)<=57)) :
 vr_ s kd i=some (n,i+(decB n).size):=by
 by_cases hn:n<0
 ·obtain⟨u,hu,rfl⟩:∃ u:Nat,1<=u/\n = -(u:Int):=⟨n.natAbs,by omega,by omega⟩;rw[zfe u hu,At.app] at hA;rw[zfe u hu,ag_,zi_] at hst⊢;obtain⟨a1,a2⟩:=hA;obtain⟨_,a3⟩:=(At.one (by decide)).1 a1;rw[zi_] at a2;have e1:[45].length=1:=rfl;rw[e1] at a2;rw[e1,<- a0_] at hst;obtain⟨r1,r2,r3,r4,r5⟩:=zmh a2 hst
  have hs:sgn s i=i+1:=by unfold sgn;rw[if_pos a3]
  have hE:z6_ s i=i+1+(decB (u:Int)).size:=by unfold z6_;rw[hs,r1]
  have hT:z4_ s i=decB (u:Int):=by unfold z4_;rw[hE,hs,r2]
  have hN:xu_ s i=true:=by unfold xu_;rw[a3];rfl
  obtain⟨f1,f2,_⟩:=ja_ _ u l_
  have hd:digs (decB (u:Int)).data.toList:=by rw[xq_];exact f1
  have hv:dv (decB (u:Int)).data.toList=u:=by rw[xq_];exact f2
  have htop:u<=topV kd true:=by
   unfold loV at hlo;unfold topV
   rcases hkd with rfl|rfl<;>simp at hlo⊢<;>omega
  have htop2:topV kd true<=9223372036854775808:=by unfold topV;split<;>simp
  unfold vr_;rw[hT,hN,hE,if_pos ((zcy hd).2 ⟨r3,λ hz=>by have:=zi3 hz.1;omega,by rw[hv];exact htop⟩)];have:=zbn (neg:=true) hd (by rw[hv,if_pos rfl];omega) _ l_;rw[this,if_pos rfl,a3_ (by rw[<- xw_];exact l_),hv];simp only[e1,a0_]
 ·obtain⟨u,rfl⟩:∃ u:Nat,n=(u:Int):=⟨n.toNat,by omega⟩;obtain⟨r1,r2,r3,r4,r5⟩:=zmh hA hst
  have hs:sgn s i=i:=by unfold sgn;rw[if_neg (by omega)]
  have hE:z6_ s i=i+(decB (u:Int)).size:=by unfold z6_;rw[hs,r1]
  have hT:z4_ s i=decB (u:Int):=by unfold z4_;rw[hE,hs,r2]
  have hN:xu_ s i=false:=by unfold xu_;rw[beq_eq_false_iff_ne];omega
  obtain⟨f1,f2,_⟩:=ja_ _ u l_
  have hd:digs (decB (u:Int)).data.toList:=by rw[xq_];exact f1
  have hv:dv (decB (u:Int)).data.toList=u:=by rw[xq_];exact f2
  have htop:u<=topV kd false:=by
   unfold hiV at hhi;unfold topV
   rcases hkd with rfl|rfl<;>simp at hhi⊢<;>omega
  have htop2:topV kd false<=9223372036854775807:=by unfold topV;split<;>simp
  have hnz:¬ (bt (decB (u:Int)) 0=48/\(1<(decB (u:Int)).size\/false=true)):=by
   rintro⟨h1,h2⟩;have h0:=zi3 h1;subst h0
   rcases h2 with h|h
   ·rw[zdb] at h;omega
   ·cases h
  unfold vr_;rw[hT,hN,hE,if_pos ((zcy hd).2 ⟨r3,hnz,by rw[hv];exact htop⟩)];have:=zbn (neg:=false) hd (by rw[hv];simp;omega) _ l_;rw[this,a3_ (by rw[<- xw_];exact l_),hv]
  simp
theorem zw5 {e:Nat}(hi:i<e) (he:e<=s.size) (hd:∀ k,i<=k->k<e->48<=bt s k/\bt s k<=57) (hz:¬ (bt s i=48/\1<e-i)):decB ((dv (s.extract i e).data.toList:Nat):Int)=s.extract i e:=by
 have hs:(s.extract i e).size=e-i:=by rw[as_];omega
 have hg:digs (s.extract i e).data.toList:=λ c hc=>by
  obtain⟨k,k1,k2,k3⟩:=zge hc;rw[<- k3];exact hd k k1 k2
 have hb:bt (s.extract i e) 0=bt s i:=by rw[zht (by omega) he];rfl
 apply br_
 apply Array.toList_inj.1
 rw[xq_]
 cases hl:(s.extract i e).data.toList with
 | nil=>rw[xw_,hl] at hs;simp at hs;omega
 | cons c r=>
  rw[<- hl];refine zz9 hg hl (λ h=>hz ⟨?_,?_⟩)
  ·rw[<- hb,zb5,hl];simpa using h.1
  ·rw[<- hs,xw_,hl]
   cases r with
   | nil=>exact absurd rfl h.2
   | cons _ _=>simp
theorem zvk {kd:Nat}(hkd:kd=105\/kd=108) (h:vr_ s kd i=some (n,j)):loV kd<=n/\n<=hiV kd/\At s i (decB n)/\j=i+(decB n).size:=by
 unfold vr_ at h;split at h
 ·rename_i hok;simp only[ad_,ab_] at h;obtain⟨rfl,rfl⟩:=h;have hd:digs (z4_ s i).data.toList:=zbv s (sgn s i);obtain⟨h0,hz,hv⟩:=(zcy hd).1 hok
  have hsz:(z4_ s i).size=z6_ s i-sgn s i:=by
   have:=(yj_ 48 57 s _ (sgn s i) l_).1;unfold z4_;rw[as_]
   by_cases hx:sgn s i<=s.size
   ·have:=(yj_ 48 57 s _ (sgn s i) l_).2 hx;unfold z6_;omega
   ·exfalso
    unfold z4_ at h0;rw[as_] at h0;omega
  have hx:sgn s i<=s.size:=by
   unfold z4_ at h0;rw[as_] at h0;omega
  have hE:=(yj_ 48 57 s _ (sgn s i) l_).2 hx;have hE':z6_ s i<=s.size:=hE
  have hb:bt (z4_ s i) 0=bt s (sgn s i):=by unfold z4_;rw[zht (by omega) hE'];rfl
  have hr:decB ((dv (z4_ s i).data.toList:Nat):Int)=z4_ s i:=by
   refine zw5 (by omega) hE' (λ k k1 k2=>x9_ 48 57 s _ (sgn s i) l_ k k1 k2) (λ hh=>hz ⟨by rw[hb];exact hh.1,.inl (by omega)⟩)
  have htop2:topV kd true<=9223372036854775808/\topV kd false<=9223372036854775807:=by unfold topV;constructor<;>split<;>simp
  have hval:=zbn (neg:=xu_ s i) hd (by cases hh:xu_ s i<;>rw[hh] at hv<;>simp<;>omega) _ l_;rw[a3_ (by rw[<- xw_];exact l_)] at hval;rw[hval]
  by_cases hneg:xu_ s i=true
  ·rw[hneg] at hv hz;rw[if_pos hneg]
   have h45:bt s i=45:=by unfold xu_ at hneg;have:=eq_of_beq hneg;omega
   have hs:sgn s i=i+1:=by unfold sgn;rw[if_pos h45]
   have hpos:1<=dv (z4_ s i).data.toList:=by
    rcases bw_ (dv (z4_ s i).data.toList) with hq|hq
    ·exfalso
     rw[hq] at hr;refine hz ⟨?_,.inr rfl⟩;rw[<- hr,zb5,xq_,Lib.decDigits,dif_pos (by decide)]
     rfl
    ·exact hq
   rw[zfe _ hpos,hr,At.app,zi_,ag_,zi_];have e1:[45].length=1:=rfl;rw[e1];refine⟨?_,?_,⟨(At.one (by decide)).2 ⟨zl_ (by omega),h45⟩,?_⟩,by omega⟩
   ·unfold topV at hv;unfold loV
    rcases hkd with rfl|rfl<;>simp at hv⊢<;>omega
   ·unfold hiV;split<;>omega
   ·rw[<- hs];exact At.ext (by omega) hE'
  ·rw[Bool.not_eq_true] at hneg;rw[hneg] at hv;rw[hneg,if_neg (by decide)]
   have h45:¬ bt s i=45:=by
    unfold xu_ at hneg;rw[beq_eq_false_iff_ne] at hneg;omega
   have hs:sgn s i=i:=by unfold sgn;rw[if_neg h45]
   rw[hr];refine⟨?_,?_,?_,by omega⟩
   ·unfold loV;split<;>omega
   ·unfold topV at hv;unfold hiV
    rcases hkd with rfl|rfl<;>simp at hv⊢<;>omega
   ·have:=At.ext (s:=s) (i:=i) (j:=z6_ s i) (by omega) hE';unfold z4_;rw[hs];exact this
 ·simp at h
open Go.RowKit
def stp (s:BA) (j:Nat):Prop:=¬ (48<=bt s j/\bt s j<=57)
theorem znd:∀ (l:List BA) (i:Nat),jn (i+1) l=jn 1 l
 | [],_=>by simp[jn]
 | a::r,i=>by
  simp only[jn];rw[znd r (i+1),znd r 1,if_neg (by omega),if_neg (by omega)]
theorem jd_ (x:BA) (l:List BA):jn 0 (x::l)=x++jn 1 l:=by
 rw[jn,if_pos rfl,xl_]
theorem zk4 (x:BA) (l:List BA):jn 1 (x::l)=bts [44]++jn 0 (x::l):=by
 rw[jd_,jn,if_neg (by decide),znd]
theorem zbs:jn 1 []=noB:=by rw[jn]
def keyT (keyed:Bool) (k:BA):BA:=if keyed=true then k++bts [58] else noB
theorem xs_ (env:Nat->Option PB) (t:PT) (n i:Nat) (keyed:Bool) (k:BA) (ks:List BA) (d:DT) (ds:List DT) :
 txTs env t n i keyed (k::ks) (d::ds)=(keyT keyed k++txT env d (yb_ env t n i))::txTs env t n (i+1) keyed ks ds:=by
 rw[txTs];rfl
theorem jf_ (env:Nat->Option PB) (t:PT) (n i:Nat) (keyed:Bool) (ks:List BA):txTs env t n i keyed ks []=[]:=by rw[txTs]
theorem zab (env:Nat->Option PB) (t:PT) (n:Nat):∀ (ds:List DT) (i:Nat) (ks ks':List BA),txTs env t n i false ks ds=txTs env t n i false ks' ds
 | [],_,_,_=>by rw[jf_,jf_]
 | d::r,i,ks,ks'=>by
  rw[txTs,txTs,zab env t n r (i+1) ks.tail ks'.tail]
  simp
theorem zog (h:At s i (keyT keyed k)) (hk:keyed=true->zen last k=true/\Lets k) :
 zeo s keyed last i=some (if keyed=true then k else noB,i+(keyT keyed k).size):=by
 unfold zeo;unfold keyT at h⊢
 cases keyed with
 | false=>simp only[az_,if_false];rfl
 | true=>
  simp only[if_true] at h⊢;obtain⟨a,b⟩:=hk rfl;obtain⟨h1,h2⟩:=At.app.1 h;obtain⟨h3,h4⟩:=(At.one (by decide)).1 h2
  have hE:zp_ s i=i+k.size:=by rw[zbq h1 b];exact vf_ (by omega)
  have hX:s.extract i (i+k.size)=k:=(At.ext (by omega) h1.1).eq h1 (by rw[as_];have:=h1.1;omega);rw[hE,hX,if_pos ⟨h4,a⟩,ag_,zi_]
  rfl
def RdsT (env:Nat->Option PB) (s:BA) (F:Nat) (R:Nat->Option (DT×Nat)) (u:PT) (d:DT):Prop:=
 ∀ i,At s i (txT env d u)->stp s (i+(txT env d u).size)->(txT env d u).size<F->R i=some (d,i+(txT env d u).size)
theorem zhf {env:Nat->Option PB}{R:Nat->Option (DT×Nat)}{fin F n:Nat}{u:PT}(hf:fin=93\/fin=125):∀ (ds:List DT) (d:DT) (k:BA) (ks:List BA) (last:Option BA) (i q fuel:Nat),ks.length=ds.length->(keyed=true->Rise last (k::ks))->
 (∀ e∈d::ds,RdsT env s F R u e)->At s i (jn 0 (txTs env (.wrap c p u) n q keyed (k::ks) (d::ds))++bts [fin])->(jn 0 (txTs env (.wrap c p u) n q keyed (k::ks) (d::ds))).size<F->ds.length<fuel->
 ∃ l,y3_ R s fin keyed fuel last i=some (l,i+(jn 0 (txTs env (.wrap c p u) n q keyed (k::ks) (d::ds))).size+1)/\l.map Prod.snd=d::ds/\(keyed=true->l.map Prod.fst=k::ks):=by
 intro ds
 induction ds with
 | nil=>
  intro d k ks last i q fuel hl hr hR hA hF hfu;obtain rfl:ks=[]:=ca_ (by simpa using hl);obtain⟨fuel,rfl⟩:∃ m,fuel=m+1:=⟨fuel-1,by simp at hfu;omega⟩;rw[xs_,jf_,jd_,zbs,j9_,yb_] at hA hF⊢;rw[ag_] at hF;obtain⟨h12,h3⟩:=At.app.1 hA;obtain⟨h1,h2⟩:=At.app.1 h12;obtain⟨h4,h5⟩:=(At.one (by omega)).1 h3;rw[ag_,<- a0_] at h5;have hd:=hR d (ay_ ..) _ h2 (by unfold stp;omega) (by omega);refine⟨[(if keyed=true then k else noB,d)],?_,rfl,λ hk=>by subst hk;rfl⟩;unfold y3_;rw[zog h1 (λ hk=>⟨(hr hk).1,(hr hk).2.1⟩)];simp only;rw[hd];simp only;rw[if_pos h5,ag_,a0_ i]
 | cons d2 ds ih=>
  intro d k ks last i q fuel hl hr hR hA hF hfu
  cases ks with
  | nil=>simp at hl
  | cons k2 ks=>
   obtain⟨fuel,rfl⟩:∃ m,fuel=m+1:=⟨fuel-1,by omega⟩;rw[xs_,jd_,xs_,zk4,<- xs_,yb_] at hA hF⊢;rw[ag_,ag_,ag_,zi_] at hF;rw[bb_] at hA;obtain⟨h12,h34⟩:=At.app.1 hA;rw[bb_] at h34;obtain⟨h1,h2⟩:=At.app.1 h12;obtain⟨h3,h4⟩:=At.app.1 h34;obtain⟨h5,h6⟩:=(At.one (by omega)).1 h3;rw[ag_,<- a0_] at h6 h4;rw[zi_] at h4;have hd:=hR d (ay_ ..) _ h2 (by unfold stp;omega) (by omega);have e1:[44].length=1:=rfl;rw[e1] at h4 hF;obtain⟨l,e2,e3,e4⟩:=ih d2 k2 ks (some (if keyed=true then k else noB)) _ (q+1) fuel (by simpa using hl) (λ hk=>by subst hk;exact(hr rfl).2.2.2) (λ e he=>hR e (bv_ _ he)) h4 (by omega) (by simp at hfu;omega);refine⟨(if keyed=true then k else noB,d)::l,?_,by simp[e3],λ hk=>by subst hk;simp[e4]⟩;unfold y3_;rw[zog h1 (λ hk=>⟨(hr hk).1,(hr hk).2.1⟩)];simp only;rw[hd];simp only;rw[if_neg (by omega),if_pos h6,e2];simp only[ad_,ab_,true_and,ag_,zi_,e1];omega
theorem zmk {env:Nat->Option PB}{R:PT->Nat->Option (DT×Nat)}{F n:Nat}{T:List PT}(hT:∀ q,yb_ env (.leaf c p) n q=T.getD q (.leaf 0 0)):∀ (ds:List DT) (q i:Nat) (first:Bool),q+ds.length=T.length->
 (∀ (k:Nat) (e:DT) (u:PT),ds[k]?=some e->T[q+k]?=some u->RdsT env s F (R u) u e)->At s i (jn (if first=true then 0 else 1) (txTs env (.leaf c p) n q false [] ds))->stp s (i+(jn (if first=true then 0 else 1) (txTs env (.leaf c p) n q false [] ds)).size)->(jn (if first=true then 0 else 1) (txTs env (.leaf c p) n q false [] ds)).size<F->
 zv_ R s first (T.drop q) i=some (ds,i+(jn (if first=true then 0 else 1) (txTs env (.leaf c p) n q false [] ds)).size):=by
 intro ds
 induction ds with
 | nil=>
  intro q i first hl hR hA hs hF
  rw[bu_ (by simp at hl;omega),jf_];unfold zv_
  have:jn (if first=true then 0 else 1) []=noB:=by cases first<;>simp[jn]
  rw[this]
  rfl
 | cons d ds ih=>
  intro q i first hl hR hA hs hF
  have hq:q<T.length:=by simp at hl;omega
  have hu:T[q]?=some T[q]:=am_ hq
  have hsub:yb_ env (.leaf c p) n q=T[q]:=by rw[hT,aq_,hu];rfl
  have ex:txTs env (.leaf c p) n q false [] (d::ds)=txT env d T[q]::txTs env (.leaf c p) n (q+1) false [] ds:=by
   rw[zab _ _ _ _ _ [] [noB],xs_,hsub]
   simp[keyT,xl_]
  rw[ex] at hA hs hF⊢;rw[bh_ hq];have rest:∀ i',At s i' (jn 0 (txT env d T[q]::txTs env (.leaf c p) n (q+1) false [] ds))->stp s (i'+(jn 0 (txT env d T[q]::txTs env (.leaf c p) n (q+1) false [] ds)).size)->(jn 0 (txT env d T[q]::txTs env (.leaf c p) n (q+1) false [] ds)).size<F->
   R T[q] i'=some (d,i'+(txT env d T[q]).size)/\zv_ R s false (T.drop (q+1)) (i'+(txT env d T[q]).size)=some (ds,i'+(jn 0 (txT env d T[q]::txTs env (.leaf c p) n (q+1) false [] ds)).size):=by
   intro i' hA hs hF;rw[jd_,ag_] at hs hF;rw[jd_] at hA;obtain⟨h1,h2⟩:=At.app.1 hA
   have hst:stp s (i'+(txT env d T[q]).size):=by
    cases ds with
    | nil=>
     rw[jf_,zbs,zil] at hs;rw[<- a0_,a7_] at hs;exact hs
    | cons d2 ds=>
     rw[zab _ _ _ _ _ [] [noB],xs_,zk4] at h2;have:=((At.one (by decide)).1 (At.app.1 h2).1).2;unfold stp;omega
   have h3:=hR 0 d T[q] rfl hu i' h1 hst (by omega);have h4:=ih (q+1) (i'+(txT env d T[q]).size) false (by simp at hl;omega) (λ k e u he hu'=>hR (k+1) e u (by simpa using he) (by rw[show q+(k+1)=q+1+k by omega];exact hu')) (by simpa using h2) (by simpa[a0_] using hs) (by simp;omega);refine⟨h3,?_⟩;rw[h4,jd_,ag_]
   simp[a0_]
  cases first with
  | true=>
   simp only[if_true] at hA hs hF⊢;obtain⟨h3,h4⟩:=rest i hA hs hF;unfold zv_;rw[if_pos rfl,h3];simp only;rw[h4]
  | false=>
   simp only[az_,if_false] at hA hs hF⊢;rw[zk4] at hA hs hF⊢;rw[ag_,zi_] at hs hF;have e1:[44].length=1:=rfl;rw[e1] at hs hF;obtain⟨h1,h2⟩:=At.app.1 hA;rw[zi_,e1] at h2;obtain⟨h3,h4⟩:=rest (i+1) h2 (by rw[a0_];exact hs) (by omega);unfold zv_;rw[if_neg (by decide),if_pos ((At.one (by decide)).1 h1).2,h3];simp only;rw[h4,ag_,zi_,e1,a0_]
theorem ztk:∀ (l:List BA) (i:Nat),l.length<=(jn i l).size+1/\(i≠0->l.length<=(jn i l).size)
 | [],i=>by simp
 | a::r,i=>by
  have h:=(ztk r (i+1)).2 (by omega);rw[jn];simp only[ag_,ar_];refine⟨by omega,λ hi=>?_⟩;rw[if_neg hi,zi_];simp only[ai_];omega
theorem z1b (hq:q<1000) (hA:At s i (decB (q:Int))) (h58:bt s (i+(decB (q:Int)).size)=58) :
 y5_ s i=i+(decB (q:Int)).size/\y5_ s i≠i/\¬ (bt s i=48/\y5_ s i-i > 1)/\zd1 s i (y5_ s i-i)=q:=by
 obtain⟨r1,r2,r3,r4,r5⟩:=zmh hA (by omega);obtain⟨f1,f2,c,r,f3,f4,f5⟩:=ja_ _ q l_
 have hsz:(decB (q:Int)).size=r.length+1:=by rw[xw_,xq_,f3];rfl
 have h3:(decB (q:Int)).size<=3:=by
  by_cases h0:q=0
  ·rw[(f4 h0).1] at hsz;rw[hsz];decide
  ·have h1:=znk (r:=r) (f5 h0);rw[<- f3,f2] at h1;have:r.length<3:=(Nat.pow_lt_pow_iff_right (show 1<10 by decide)).1 (Nat.lt_of_le_of_lt h1 (by omega));omega
 have hE:y5_ s i=i+(decB (q:Int)).size:=by unfold y5_;rw[r1];omega
 refine⟨hE,by omega,?_,?_⟩
 ·rintro⟨h1,h2⟩;have h0:=zi3 (r5▸h1);subst h0;rw[hE,zdb] at h2;omega
 ·rw[hE,Nat.add_sub_cancel_left,zde _ hA.1,r2,xq_,f2]
section
variable {env:Nat->Option PB}
theorem zrs (p:Nat):txT env (.mk 110 0 noB [] []) (.leaf 110 p)=bts [78]:=by simp[txT]
theorem zru (p q:Nat):txT env (.mk 116 (q:Int) noB [] []) (.leaf 116 p)=if q=1 then bts [84] else bts [70]:=by
 rw[txT];simp only[show ¬ ((116:Nat)=110) by decide,if_false,if_true]
 by_cases h:q=1
 ·rw[if_pos h,if_pos (by omega)]
 ·rw[if_neg h,if_neg (by omega)]
theorem zrr (p:Nat) (q:Int):txT env (.mk 105 q noB [] []) (.leaf 105 p)=decB q:=by simp[txT]
theorem zrt (p:Nat) (q:Int):txT env (.mk 108 q noB [] []) (.leaf 108 p)=decB q:=by simp[txT]
theorem zrp (p:Nat) (x:BA):txT env (.mk 115 0 x [] []) (.leaf 115 p)=bts [34]++(x++bts [34]):=by simp[txT]
theorem zn9 (c p:Nat) (x:BA):txT env (.mk 102 0 x [] []) (.leaf c p)=bts [39]++(x++bts [39]):=by simp[txT]
theorem zw2 {l:List (Nat×Nat)}{o:Option (Nat×Nat)}{x:Nat}(he:env c=some (.enum l o)) (hx:(l.map Prod.fst)[q]?=some x):txT env (.mk 101 (q:Int) noB [] []) (.leaf c p)=bts [x]:=by
 rw[txT];simp only[bc_,symL,he,aq_,hx]
 simp
theorem zrq (c p:Nat) (ds:List DT):txT env (.mk 114 0 noB [] ds) (.leaf c p)=bts [40]++(jn 0 (txTs env (.leaf c p) 0 0 false [] ds)++bts [41]):=by
 rw[txT]
 simp[zgq]
theorem zmd (p:Nat) (u:PT) (ks:List BA) (ds:List DT):txT env (.mk 91 0 noB [] ds) (.wrap 91 p u)=bts [91]++(jn 0 (txTs env (.wrap 91 p u) 0 0 false ks ds)++bts [93]):=by
 rw[zab env (.wrap 91 p u) 0 ds 0 ks [],txT]
 simp[zgq]
theorem zw3 (p:Nat) (u:PT) (ks:List BA) (ds:List DT):txT env (.mk 123 0 noB ks ds) (.wrap 123 p u)=bts [123]++(jn 0 (txTs env (.wrap 123 p u) 0 0 true ks ds)++bts [125]):=by
 rw[txT]
 simp[zgq]
theorem zrv {l:List PT}{u:PT}(d:DT) (hl:l[q]?=some u):txT env (.mk 40 (q:Int) noB [] [d]) (.alts p l)=bts [60]++(decB q++(bts [58]++(txT env d u++bts [62]))):=by
 have hsub:yb_ env (.alts p l) q 0=u:=by simp only[yb_,aq_,hl];rfl
 rw[txT];simp only[bc_];rw[zab _ _ _ _ _ [] [noB],xs_,jf_,jd_,zbs,j9_,hsub]
 simp[keyT,xl_]
end
def symE (env:Nat->Option PB):Prop:=∀ c l o,env c=some (.enum l o)->(l.map Prod.fst).Nodup/\∀ x∈l.map Prod.fst,97<=x/\x<=122
theorem zln (h:At s i (decB n)):bt s i=45\/(48<=bt s i/\bt s i<=57):=by
 by_cases hn:n<0
 ·obtain⟨u,hu,rfl⟩:∃ u:Nat,1<=u/\n = -(u:Int):=⟨n.natAbs,by omega,by omega⟩;rw[zfe u hu] at h;exact .inl ((At.one (by decide)).1 (At.app.1 h).1).2
 ·obtain⟨u,rfl⟩:∃ u:Nat,n=(u:Int):=⟨n.toNat,by omega⟩;obtain⟨f1,f2,c,r,f3,f4,f5⟩:=ja_ _ u l_
  have hd:digs (decB (u:Int)).data.toList:=by rw[xq_];exact f1
  have hp:0<(decB (u:Int)).size:=by rw[xw_,xq_,f3];simp
  have h0:=h.2 0 hp;rw[a7_] at h0;rw[h0];exact .inr (znl hd hp)
theorem zt7 {env:Nat->Option PB}(hS:symE env){d:DT}(hd:Dat env d t) (hA:At s i (txT env d t)):bt s i≠93/\bt s i≠125/\bt s i≠41:=by
 have one:∀ {c:Nat} {b:BA},c<256->At s i (bts [c]++b)->bt s i=c:=λ hc h=>((At.one hc).1 (At.app.1 h).1).2
 cases hd with
 | null=>rw[zrs] at hA;have:=((At.one (by decide)).1 hA).2;omega
 | bool hb=>
  rw[zru] at hA;split at hA
  ·have:=((At.one (by decide)).1 hA).2;omega
  ·have:=((At.one (by decide)).1 hA).2;omega
 | num=>rw[zrr] at hA;have:=zln hA;omega
 | long=>rw[zrt] at hA;have:=zln hA;omega
 | text=>rw[zrp] at hA;have:=one (by decide) hA;omega
 | bytes=>rw[zn9] at hA;have:=one (by decide) hA;omega
 | sym he hb hn=>
  rename_i c p q l o
  have hq:q<(l.map Prod.fst).length:=by simpa using hn
  rw[zw2 he (am_ hq)] at hA;have h9:=(hS c l o he).2 _ (bd_ hq);have:=((At.one (by omega)).1 hA).2;omega
 | recd=>rw[zrq] at hA;have:=one (by decide) hA;omega
 | list=>rw[zmd _ _ []] at hA;have:=one (by decide) hA;omega
 | map=>rw[zw3] at hA;have:=one (by decide) hA;omega
 | alts hn hl=>rw[zrv _ hl] at hA;have:=one (by decide) hA;omega
theorem zz3 {L:List Nat}(hN:L.Nodup){x:Nat}(hx:L[q]?=some x):L.findIdx? (λ c=>c==x)=some q:=by
 obtain⟨hq,rfl⟩:=ao_.1 hx;rw[List.findIdx?_eq_some_iff_getElem];refine⟨hq,by simp,λ j hj=>?_⟩;simp only[beq_iff_eq];intro e;have:=(List.getElem_inj hN).1 e;omega
theorem zw7 {env:Nat->Option PB}(hS:symE env) (hW:fewE env) (s:BA):∀ (f:Nat) (d:DT) (t:PT),Dat env d t->fewT t->RdsT env s f (rdT s env false f t) t d:=by
 intro f
 induction f with
 | zero=>intro d t _ _ i _ _ h;omega
 | succ f ih=>
  intro d t hd hw i hA hs hF
  cases hd with
  | null=>
   rename_i p;have e:=zrs (env:=env) p;rw[e] at hA⊢;unfold rdT va_;rw[if_pos rfl,if_pos ((At.one (by decide)).1 hA).2,zi_]
   rfl
  | bool hb=>
   rename_i p q
   have hq:q=1\/q=0:=by omega
   unfold rdT va_;rw[if_neg (by decide),if_pos rfl];have e:=zru (env:=env) p q
   rcases hq with rfl|rfl
   ·rw[if_pos rfl] at e;rw[e] at hA⊢;rw[if_pos ((At.one (by decide)).1 hA).2,zi_]
    rfl
   ·rw[if_neg (by decide)] at e;rw[e] at hA⊢;have:=((At.one (by decide)).1 hA).2;rw[if_neg (by omega),if_pos this,zi_]
    rfl
  | num h0 h1=>
   rename_i p q;have e:=zrr (env:=env) p q;rw[e] at hA hs⊢;unfold rdT va_;rw[if_neg (by decide),if_neg (by decide),if_pos (.inl rfl),zof (.inl rfl) h0 h1 hA hs]
  | long h0 h1=>
   rename_i p q;have e:=zrt (env:=env) p q;rw[e] at hA hs⊢;unfold rdT va_;rw[if_neg (by decide),if_neg (by decide),if_pos (.inr rfl),zof (.inr rfl) h0 h1 hA hs]
  | text hx h1=>
   rename_i p x;have e:=zrp (env:=env) p x;rw[e] at hA⊢;obtain⟨a1,a23⟩:=At.app.1 hA;obtain⟨a2,a3⟩:=At.app.1 a23;rw[zi_,show[34].length=1 from rfl] at a2 a3;have b1:=((At.one (by decide)).1 a1).2;have b3:=((At.one (by decide)).1 a3).2
   have hE:zp_ s (i+1)=i+1+x.size:=by rw[zbq a2 hx];exact vf_ (by omega)
   have hX:s.extract (i+1) (i+1+x.size)=x:=(At.ext (by omega) a2.1).eq a2 (by rw[as_];have:=a2.1;omega);unfold rdT va_;rw[if_neg (by decide),if_neg (by decide),if_neg (by decide),if_pos rfl,hE,if_pos ⟨b1,b3⟩,hX];simp only[ag_,zi_,ad_,ab_,true_and,ai_];omega
  | bytes he hb hx=>
   rename_i c p x;obtain⟨b1,b2,b3,b4,b5⟩:=y0_ hb;have e:=zn9 (env:=env) c p x;rw[e] at hA⊢;obtain⟨a1,a23⟩:=At.app.1 hA;obtain⟨a2,a3⟩:=At.app.1 a23;rw[zi_,show[39].length=1 from rfl] at a2 a3;have c1:=((At.one (by decide)).1 a1).2;have c3:=((At.one (by decide)).1 a3).2
   have hE:zp_ s (i+1)=i+1+x.size:=by rw[zbq a2 hx];exact vf_ (by omega)
   have hX:s.extract (i+1) (i+1+x.size)=x:=(At.ext (by omega) a2.1).eq a2 (by rw[as_];have:=a2.1;omega);unfold rdT va_;rw[if_neg b1,if_neg b2,if_neg (by omega),if_neg b5,he];simp only[y6_];rw[hE,if_pos ⟨c1,by omega,c3⟩,hX];simp only[ag_,zi_,ad_,ab_,true_and,ai_];omega
  | sym he hb hn=>
   rename_i c p q l o;obtain⟨b1,b2,b3,b4,b5⟩:=y0_ hb;obtain⟨hN,h256⟩:=hS c l o he
   have hq:q<(l.map Prod.fst).length:=by simpa using hn
   have hx:(l.map Prod.fst)[q]?=some (l.map Prod.fst)[q]:=am_ hq;have e:=zw2 (p:=p) he hx;have h9:=h256 _ (bd_ hq);rw[e] at hA⊢;obtain⟨a1,a2⟩:=(At.one (by omega)).1 hA;unfold rdT va_;rw[if_neg b1,if_neg b2,if_neg (by omega),if_neg b5,he];simp only[y6_];rw[if_pos a1,a2,zz3 hN hx,zi_]
   rfl
  | recd he hb hl h=>
   rename_i c p fs ds;obtain⟨b1,b2,b3,b4,b5⟩:=y0_ hb;have e:=zrq (env:=env) c p ds;rw[e] at hA hF⊢;rw[ag_,ag_,zi_,zi_,ai_,ai_] at hF;obtain⟨a1,a23⟩:=At.app.1 hA;obtain⟨a2,a3⟩:=At.app.1 a23;rw[zi_,ai_] at a2 a3;have c1:=((At.one (by decide)).1 a1).2;have c3:=((At.one (by decide)).1 a3).2
   have hf:=zmk (env:=env) (s:=s) (R:=rdT s env false f) (F:=f) (c:=c) (p:=p) (n:=0) (T:=fs.map PF.ty) (λ q=>by simp only[yb_,he]) ds 0 (i+1) true (by simpa using hl) (λ k x u hx hu=>ih x u (h k x u hx (by rwa[bg_] at hu)) (by
    rw[bg_] at hu
    obtain⟨g,hg,rfl⟩:=bk_.1 (ak_ hu)
    exact(hW c fs he).2 g hg)) (by simpa using a2) (by simp only[if_true];unfold stp;omega) (by simp only[if_true];omega)
   simp only[if_true,List.drop_zero] at hf;unfold rdT va_;rw[if_neg b1,if_neg b2,if_neg (by omega),if_neg b5,he];simp only[y6_];rw[if_pos c1,hf];simp only;rw[if_pos c3];simp only[ag_,zi_,ad_,ab_,true_and,ai_];omega
  | list hl h=>
   rename_i p u ds;unfold fewT at hw;have e:=zmd (env:=env) p u (ds.map λ _=>noB) ds;rw[e] at hA hF⊢;rw[ag_,ag_,zi_,zi_,ai_,ai_] at hF;obtain⟨a1,a23⟩:=At.app.1 hA;rw[zi_,ai_] at a23;have c1:=((At.one (by decide)).1 a1).2;unfold rdT vt_;rw[if_pos c1];unfold zcr;simp only[show x7_ 91=93 from rfl,show((91:Nat)==123)=false from rfl]
   cases ds with
   | nil=>
    rw[a1_,jf_,show jn 0 []=noB by rw[jn],xl_] at a23⊢;have c3:=((At.one (by decide)).1 a23).2;rw[if_pos c3];simp only[ag_,zi_,az_,if_false,a1_,ai_]
   | cons d ds=>
    obtain⟨l,e1,e2,e3⟩:=zhf (env:=env) (s:=s) (R:=rdT s env false f u) (keyed:=false) (fin:=93) (F:=f) (c:=91) (p:=p) (n:=0) (u:=u) (.inl rfl) ds d noB (ds.map λ _=>noB) none (i+1) 0 (s.size+2) (by simp) (λ hk=>by cases hk) (λ x hx=>ih x u (h x hx) hw) a23 (by simp only[ap_] at hF;omega) (by
     have h1:=a23.1
     rw[ag_] at h1
     have h2:=(ztk (txTs env (.wrap 91 p u) 0 0 false ((d::ds).map λ _=>noB) (d::ds)) 0).1
     rw[zco,ar_] at h2
     omega)
    have hne:bt s (i+1)≠93:=by
     rw[ap_,xs_,jd_] at a23;have hk0:=(At.app.1 (At.app.1 (At.app.1 a23).1).1).2;simp only[keyT,az_,if_false,zil,a7_] at hk0;exact(zt7 hS (h d (ay_ ..)) hk0).1
    rw[if_neg hne];simp only[ap_];rw[e1];simp only[az_,if_false,e2,ag_,zi_,ad_,ab_,true_and,ai_];omega
  | map hl hk hr h=>
   rename_i p u ks ds;unfold fewT at hw;have e:=zw3 (env:=env) p u ks ds;rw[e] at hA hF⊢;rw[ag_,ag_,zi_,zi_,ai_,ai_] at hF;obtain⟨a1,a23⟩:=At.app.1 hA;rw[zi_,ai_] at a23;have c1:=((At.one (by decide)).1 a1).2;unfold rdT vt_;rw[if_pos c1];unfold zcr;simp only[show x7_ 123=125 from rfl,show((123:Nat)==123)=true from rfl]
   cases ds with
   | nil=>
    obtain rfl:ks=[]:=ca_ (by simpa using hk);rw[jf_,show jn 0 []=noB by rw[jn],xl_] at a23⊢;have c3:=((At.one (by decide)).1 a23).2;rw[if_pos c3];simp only[ag_,zi_,if_true,a1_,ai_]
   | cons d ds=>
    cases ks with
    | nil=>simp at hk
    | cons k ks=>
     obtain⟨l,e1,e2,e3⟩:=zhf (env:=env) (s:=s) (R:=rdT s env false f u) (keyed:=true) (fin:=125) (F:=f) (c:=123) (p:=p) (n:=0) (u:=u) (.inr rfl) ds d k ks none (i+1) 0 (s.size+2) (by simpa using hk) (λ _=>hr) (λ x hx=>ih x u (h x hx) hw) a23 (by omega) (by
      have h1:=a23.1
      rw[ag_] at h1
      have h2:=(ztk (txTs env (.wrap 123 p u) 0 0 true (k::ks) (d::ds)) 0).1
      rw[zco,ar_] at h2
      omega)
     have hne:bt s (i+1)≠125:=by
      rw[xs_,jd_] at a23;have hk0:=(At.app.1 (At.app.1 (At.app.1 a23).1).1).1;unfold keyT at hk0;rw[if_pos rfl] at hk0;obtain⟨q1,q2⟩:=At.app.1 hk0;have q3:=((At.one (by decide)).1 q2).2
      by_cases hz:k.size=0
      ·rw[hz,a7_] at q3;omega
      ·have:=q1.2 0 (by omega);have:=hr.2.1 0 (by omega);rw[a7_] at *;omega
     rw[if_neg hne];rw[e1];simp only[if_true,e2,e3,ag_,zi_,ad_,ab_,true_and,ai_];omega
  | alts hn hl h=>
   rename_i q p l u d;unfold fewT at hw;have hlt:q<l.length:=(ao_.1 hl).1;have e:=zrv (env:=env) (p:=p) d hl;rw[e] at hA hF⊢;simp only[ag_,zi_,ai_] at hF;obtain⟨a1,a2345⟩:=At.app.1 hA;obtain⟨a2,a345⟩:=At.app.1 a2345;obtain⟨a3,a45⟩:=At.app.1 a345;obtain⟨a4,a5⟩:=At.app.1 a45;simp only[zi_,ai_] at a2 a3 a4 a5;have c1:=((At.one (by decide)).1 a1).2;have c3:=((At.one (by decide)).1 a3).2;have c5:=((At.one (by decide)).1 a5).2;obtain⟨g1,g2,g3,g4⟩:=z1b (by omega) a2 c3;have hd:=ih d u h (zc9 hw.2 u (ak_ hl)) _ a4 (by unfold stp;omega) (by omega);unfold rdT y9_;rw[if_neg (by decide),if_pos ⟨c1,g2,g3,by rw[g1];exact c3⟩,g4,hl];simp only;rw[g1,hd];simp only;rw[if_pos c5];simp only[ag_,zi_,ad_,ab_,true_and,ai_];omega
open Go.RowKit
theorem zvl (hs:s.size<=9223372036854775807)(hi:i<=s.size) (h:zeo s keyed last i=some (k,j)) :
 At s i (keyT keyed k)/\j=i+(keyT keyed k).size/\(keyed=true->zen last k=true/\Lets k/\k.size<=9223372036854775807):=by
 unfold zeo at h;unfold keyT
 cases keyed with
 | false=>
  simp only[az_,if_false,ad_,ab_] at h⊢;obtain⟨rfl,rfl⟩:=h;exact⟨At.nil hi,rfl,λ h=>h.elim⟩
 | true=>
  simp only[if_true] at h⊢;split at h
  ·rename_i hb;simp only[ad_,ab_] at h;obtain⟨rfl,rfl⟩:=h;have hl:zp_ s i<s.size:=zl_ (by omega);have hg:=(yj_ 97 122 s _ i l_).1;have hg':i<=zp_ s i:=hg
   have hsz:(s.extract i (zp_ s i)).size=zp_ s i-i:=by rw[as_];omega
   rw[At.app,ag_,zi_,hsz];refine⟨⟨At.ext hg' (by omega),(At.one (by decide)).2 ⟨by omega,?_⟩⟩,?_,λ _=>⟨hb.2,λ q hq=>?_,by omega⟩⟩
   ·rw[show i+(zp_ s i-i)=zp_ s i by omega];exact hb.1
   ·simp only[ai_];omega
   ·rw[zht (by omega) (by omega)];exact x9_ 97 122 s _ i l_ (i+q) (by omega) (by unfold zp_ at hsz hq;omega)
  ·simp at h
theorem letX (hi:i<=s.size):At s i (s.extract i (zp_ s i))/\(s.extract i (zp_ s i)).size=zp_ s i-i/\i<=zp_ s i/\Lets (s.extract i (zp_ s i)):=by
 have hg:=(yj_ 97 122 s _ i l_);have hg1:i<=zp_ s i:=hg.1;have hg2:zp_ s i<=s.size:=hg.2 hi
 have hsz:(s.extract i (zp_ s i)).size=zp_ s i-i:=by rw[as_];omega
 refine⟨At.ext hg1 hg2,hsz,hg1,λ q hq=>?_⟩;rw[zht (by omega) (by omega)];exact x9_ 97 122 s _ i l_ (i+q) (by omega) (by unfold zp_ at hsz hq;omega)
open Go.RowKit
theorem At.self (s:BA):At s 0 s:=⟨by omega,λ k _=>by rw[bg_]⟩
theorem Pre.app (a b:BA):Pre a (a++b):=(At.app.1 (At.self (a++b))).1
theorem zq0 {env:Nat->Option PB}(hE:zes env){d:DT}(hd:Dat env d t) (hn:ndT d<=300) (x:BA):rdB (byT d++x) env 301 t 0 0=.ok (d,(byT d).size,ndT d):=by
 have h:=zzn hE (byT d++x) 301 d t 0 0 hd (At.app.1 (At.self _)).1 (by omega) (by omega)
 rwa[bg_,bg_] at h
open Go.RowKit
theorem zlj:∀ (l:List (Nat×Nat)) (seen:List Nat),dupS seen l=[]->(∀ x∈l.map Prod.fst,x∉seen)/\(l.map Prod.fst).Nodup
 | [],_,_=>⟨λ x hx=>(by cases hx),List.nodup_nil⟩
 | q::r,seen,h=>by
  rw[dupS,bz_] at h;obtain⟨h1,h2⟩:=h
  have hq:q.1∉seen:=λ hh=>by rw[if_pos hh] at h1;cases h1
  obtain⟨a,b⟩:=zlj r _ h2;rw[ap_];refine⟨λ x hx=>?_,List.nodup_cons.2 ⟨λ hh=>?_,b⟩⟩
  ·rcases an_.1 hx with rfl|hx
   ·exact hq
   ·exact λ hh=>a x hx (b6_ _ hh)
  ·exact a _ hh (b2_ _ (a6_.2 rfl))
theorem zll (env:Nat->Option PB):∀ (ds:List PD) (seen:List Nat),defF env seen ds=[]->∀ d∈ds,zb0 env d.body=[]
 | [],_,_,d,hd=>by cases hd
 | x::r,seen,h,d,hd=>by
  rw[defF,bz_,bz_] at h
  rcases an_.1 hd with rfl|hd
  ·exact h.2.1
  ·exact zll env r _ h.2.2 d hd
theorem ztt {ds:List PD}(h0:(zj_ s).1=0) (hp:zq_ s=.ok (ds,t)):s.size<=300/\v9_ ds t=[]/\v5_ ds t=[]:=by
 have hs:s.size<=300:=by
  by_cases h:300<s.size
  ·unfold zj_ at h0;rw[if_pos h] at h0;exact absurd h0 (by decide)
  ·omega
 rw[zb1 hs hp] at h0;refine⟨hs,?_⟩;split at h0
 ·simp at h0
 ·simp at h0
 ·simp at h0
 ·rename_i h1 h2 _;exact⟨h1,h2⟩
theorem zhe {ds:List PD}(h0:(zj_ s).1=0) (hp:zq_ s=.ok (ds,t)):symE (za_ ds)/\fewE (za_ ds)/\fewT t/\okT (za_ ds) t/\zes (za_ ds):=by
 obtain⟨hs,hn,hu⟩:=ztt h0 hp;obtain⟨f1,_,_,f4,f5⟩:=vx_ hs hp hn hu;refine⟨λ c l o e=>?_,zgd f1,zaq t (vc_ hs hp).2.1,f4,f5⟩;unfold v9_ at hn;rw[bz_] at hn;have hsm:=f1.sm c l o e;have e':=e;unfold za_ at e';obtain⟨⟨pb,b⟩,hl,hpb⟩:=b9_.1 e';simp only at hpb;subst hpb;obtain⟨d,hd,hb⟩:=zc4 hl;have hF:=zll _ ds [] hn.1 d hd;rw[hb] at hF;unfold zb0 at hF;rw[bz_] at hF;refine⟨(zlj l [] hF.1).2,λ x hx=>?_⟩;obtain⟨q,hq,rfl⟩:=bk_.1 hx;have:=hsm q hq
 simp[zn_] at this
 exact this
theorem zz8 {bs:BA}(h:(ys_ s bs).2.2=0):(zj_ s).1=0/\bs.size<=4000/\∃ ds t d j m,zq_ s=.ok (ds,t)/\rdB bs (za_ ds) 301 t 0 0=.ok (d,j,m)/\ys_ s bs=(txT (za_ ds) d t,j,0):=by
 unfold ys_ at h;split at h
 ·rename_i h0;split at h
  ·exact absurd h (by decide)
  ·rename_i h4;refine⟨h0,by omega,?_⟩
   cases hp:zq_ s with
   | error k=>
    exfalso
    unfold zj_ at h0;rw[hp] at h0;split at h0<;>simp at h0
   | ok r=>
    obtain⟨ds,t⟩:=r;rw[hp] at h;simp only at h
    cases hq:rdB bs (za_ ds) 301 t 0 0 with
    | error e=>
     rw[hq] at h;have:=zid bs (za_ ds) 301 t 0 0 e hq;simp only at h;omega
    | ok y=>
     obtain⟨d,j,m⟩:=y;refine⟨ds,t,d,j,m,rfl,hq,?_⟩;unfold ys_;rw[if_pos h0,if_neg h4,hp];simp only[hq]
 ·rename_i h0;exact absurd h h0
end Go.Proofs.YthmjjpkjgjklmaaGreatDoor
