import Derived.Test.YtiifagiebikmdaaGreatDoorBK13
import Derived.Test.YtiifagiebikmdaaGreatDoorBK11
import Derived.Test.YtiifagiebikmdaaGreatDoorBK12
import Derived.Test.YtiifagiebikmdaaGreatDoorBK24
import Derived.Test.YtiifagiebikmdaaGreatDoorBK29
namespace Go.Proofs.YtiifagiebikmdaaGreatDoor
open Go.RowKit
theorem bt_get (s:ByteArray) (i:Nat):bt s i=(s.data.toList.getD i 0).toNat:=by
 unfold bt
 rw[List.getD_eq_getElem?_getD]
 split
 ·rename_i h
  have h':i<s.data.toList.length:=by rw[Array.length_toList];exact h
  rw[List.getElem?_eq_getElem h']
  rfl
 ·rename_i h
  rw[List.getElem?_eq_none (by rw[Array.length_toList];exact Nat.le_of_not_lt h)]
  rfl
theorem bt_app (a b:ByteArray) (k:Nat):bt (a++b) k=if k<a.size then bt a k else bt b (k-a.size):=by
 have e:(a++b).data.toList=a.data.toList++b.data.toList:=by simp
 have hl:a.data.toList.length=a.size:=Array.length_toList
 rw[bt_get,e]
 split
 ·rw[bt_get,List.getD_eq_getElem?_getD,List.getD_eq_getElem?_getD,List.getElem?_append_left (by omega)]
 ·rw[bt_get,List.getD_eq_getElem?_getD,List.getD_eq_getElem?_getD,List.getElem?_append_right (by omega),hl]
theorem eq_of_bt {a b:ByteArray}(hs:a.size=b.size) (h:∀ k,k<a.size→bt a k=bt b k):a=b:=by
 apply ByteArray.ext
 apply Array.ext
 ·exact hs
 ·intro i h1 h2
  have:=h i h1
  rw[bt_eq a i h1,bt_eq b i h2] at this
  exact UInt8.toNat_inj.1 this
def At (s:ByteArray) (i:Nat) (b:ByteArray):Prop:=i+b.size≤s.size∧∀ k,k<b.size→bt s (i+k)=bt b k
theorem At.app {s a b:ByteArray}{i:Nat}:At s i (a++b)↔At s i a∧At s (i+a.size) b:=by
 unfold At
 rw[ByteArray.size_append]
 constructor
 ·rintro⟨h1,h2⟩
  refine⟨⟨by omega,fun k hk=>?_⟩,by omega,fun k hk=>?_⟩
  ·rw[h2 k (by omega),bt_app,if_pos hk]
  ·rw[Nat.add_assoc,h2 (a.size+k) (by omega),bt_app,if_neg (by omega),Nat.add_sub_cancel_left]
 ·rintro⟨⟨h1,h2⟩,h3,h4⟩
  refine⟨by omega,fun k hk=>?_⟩
  rw[bt_app]
  split
  ·exact h2 k (by assumption)
  ·rw[← h4 (k-a.size) (by omega)]
   congr 1
   omega
theorem At.eq {s a b:ByteArray}{i:Nat}(h:At s i a) (h2:At s i b) (hs:a.size=b.size):a=b:=
 eq_of_bt hs (fun k hk=>by rw[← h.2 k hk,h2.2 k (by omega)])
theorem bt_ext {s:ByteArray}{i j k:Nat}(h:i+k<j) (hj:j≤s.size):bt (s.extract i j) k=bt s (i+k):=by
 have hs:(s.extract i j).size=j-i:=by rw[ByteArray.size_extract];omega
 rw[bt_get,bt_get]
 congr 1
 rw[List.getD_eq_getElem?_getD,List.getD_eq_getElem?_getD]
 congr 1
 rw[ByteArray.data_extract,Array.toList_extract,List.extract_eq_take_drop,List.getElem?_take_of_lt (by omega),List.getElem?_drop]
theorem At.ext {s:ByteArray}{i j:Nat}(h:i≤j) (hj:j≤s.size):At s i (s.extract i j):=by
 have hs:(s.extract i j).size=j-i:=by rw[ByteArray.size_extract];omega
 exact⟨by omega,fun k hk=>(bt_ext (by omega) hj).symm⟩
theorem noB_size:noB.size=0:=rfl
theorem At.nil {s:ByteArray}{i:Nat}(h:i≤s.size):At s i noB:=⟨h,fun k hk=>absurd hk (by rw[noB_size];omega)⟩
theorem bt_bts:∀ (l:List Nat) (k:Nat),bt (bts l) k=l.getD k 0 % 256:=by
 intro l k
 rw[bt_get]
 show(((l.map UInt8.ofNat)).getD k 0).toNat=_
 rw[List.getD_eq_getElem?_getD,List.getD_eq_getElem?_getD,List.getElem?_map]
 cases l[k]? <;> simp
theorem At.cons {s:ByteArray}{i c:Nat}{l:List Nat}(hc:c<256):At s i (bts (c::l))↔i<s.size∧bt s i=c∧At s (i+1) (bts l):=by
 have e:bts (c::l)=bts [c]++bts l:=bts_append [c] l
 have h1:(bts [c]).size=1:=bts_size [c]
 rw[e,At.app,h1]
 constructor
 ·rintro⟨⟨a,b⟩,d⟩
  have:=b 0 (by omega)
  rw[bt_bts] at this
  refine⟨by omega,?_,d⟩
  simpa[Nat.mod_eq_of_lt hc] using this
 ·rintro⟨a,b,d⟩
  refine⟨⟨by omega,fun k hk=>?_⟩,d⟩
  obtain rfl:k=0:=by omega
  rw[bt_bts]
  simpa[Nat.mod_eq_of_lt hc] using b
theorem At.one {s:ByteArray}{i c:Nat}(hc:c<256):At s i (bts [c])↔i<s.size∧bt s i=c:=by
 rw[At.cons hc]
 constructor
 ·rintro⟨a,b,_⟩;exact⟨a,b⟩
 ·rintro⟨a,b⟩;exact⟨a,b,At.nil a⟩
def Lets (x:ByteArray):Prop:=∀ k,k<x.size→97≤bt x k∧bt x k≤122
theorem runEnd_at {lo hi:Nat}{s:ByteArray}:∀ (m i:Nat),i+m≤s.size→(∀ k,k<m→lo≤bt s (i+k)∧bt s (i+k)≤hi)→runEnd lo hi s i=runEnd lo hi s (i+m)
 | 0,i,_,_=>rfl
 | m+1,i,h1,h2=>by
  rw[runEnd_on (by omega) (by simpa using h2 0 (by omega)),runEnd_at m (i+1) (by omega) (fun k hk=>by have:=h2 (k+1) (by omega);rw[show i+1+k=i+(k+1) by omega];exact this)]
  congr 1
  omega
theorem letEnd_run {s:ByteArray}{i:Nat}{x:ByteArray}(h:At s i x) (hx:Lets x):letEnd s i=letEnd s (i+x.size):=by
 unfold letEnd
 exact runEnd_at x.size i h.1 (fun k hk=>by rw[h.2 k hk];exact hx k hk)
def Rise:Option ByteArray→List ByteArray→Prop
 | _,[]=>True
 | last,k::r=>rises last k=true∧Lets k∧k.size≤9223372036854775807∧Rise (some k) r
inductive Dat (env:Nat→Option PB):DT→PT→Prop
 | null {p:Nat}:Dat env (.mk 110 0 noB [] []) (.leaf 110 p)
 | bool {p n:Nat} (h:n≤1):Dat env (.mk 116 (n:Int) noB [] []) (.leaf 116 p)
 | num {p:Nat} {n:Int} (h0 : -2147483648≤n) (h1:n≤2147483647):Dat env (.mk 105 n noB [] []) (.leaf 105 p)
 | long {p:Nat} {n:Int} (h0 : -9223372036854775808≤n) (h1:n≤9223372036854775807):Dat env (.mk 108 n noB [] []) (.leaf 108 p)
 | text {p:Nat} {x:ByteArray} (h:Lets x) (h1:x.size≤9223372036854775807):Dat env (.mk 115 0 x [] []) (.leaf 115 p)
 | bytes {c p:Nat} {x:ByteArray} (he:env c=some (.bytes x.size)) (hb:isBase c=false) (h:Lets x):Dat env (.mk 102 0 x [] []) (.leaf c p)
 | sym {c p n:Nat} {l:List (Nat×Nat)} {o:Option (Nat×Nat)} (he:env c=some (.enum l o)) (hb:isBase c=false) (hn:n<l.length):Dat env (.mk 101 (n:Int) noB [] []) (.leaf c p)
 | recd {c p:Nat} {fs:List PF} {ds:List DT} (he:env c=some (.recd fs)) (hb:isBase c=false) (hl:ds.length=fs.length) (h:∀ (i:Nat) (d:DT) (t:PT),ds[i]?=some d→(fs.map PF.ty)[i]?=some t→Dat env d t):Dat env (.mk 114 0 noB [] ds) (.leaf c p)
 | list {p:Nat} {u:PT} {ds:List DT} (hl:ds.length≤9223372036854775807) (h:∀ d∈ds,Dat env d u):Dat env (.mk 91 0 noB [] ds) (.wrap 91 p u)
 | map {p:Nat} {u:PT} {ks:List ByteArray} {ds:List DT} (hl:ds.length≤9223372036854775807) (hk:ks.length=ds.length) (hr:Rise none ks) (h:∀ d∈ds,Dat env d u):Dat env (.mk 123 0 noB ks ds) (.wrap 123 p u)
 | alts {n p:Nat} {l:List PT} {u:PT} {d:DT} (hn:n≤9223372036854775807) (hl:l[n]?=some u) (h:Dat env d u):Dat env (.mk 40 (n:Int) noB [] [d]) (.alts p l)
theorem lebD_at {s:ByteArray}:∀ (f i z j:Nat),lebD s f i=some (z,j)→∀ g,f≤g+1→At s i (bts (lebN g z))∧j=i+(bts (lebN g z)).size
 | 0,i,z,j,h,g,hg=>by simp[lebD] at h
 | f+1,i,z,j,h,g,hg=>by
  unfold lebD at h
  split at h
  ·rename_i hi
   split at h
   ·rename_i hb
    simp only[Option.some.injEq,Prod.mk.injEq] at h
    obtain⟨rfl,rfl⟩:=h
    have e:lebN g (bt s i)=[bt s i]:=by cases g <;> simp[lebN,hb]
    rw[e,bts_size]
    exact⟨(At.one (bt_lt s i)).2 ⟨hi,rfl⟩,rfl⟩
   ·rename_i hb
    split at h
    ·simp at h
    ·rename_i z' j' he
     split at h
     ·simp at h
     ·rename_i hz
      simp only[Option.some.injEq,Prod.mk.injEq] at h
      obtain⟨rfl,rfl⟩:=h
      have hl:=bt_lt s i
      have hf:1≤f:=by
       cases f
       ·simp[lebD] at he
       ·omega
      obtain⟨g',rfl⟩:∃ g',g=g'+1:=⟨g-1,by omega⟩
      have e:lebN (g'+1) (bt s i-128+128*z')=bt s i::lebN g' z':=by
       rw[lebN,if_neg (by omega),show(bt s i-128+128*z') % 128+128=bt s i by omega,show(bt s i-128+128*z') / 128=z' by omega]
      obtain⟨h1,h2⟩:=lebD_at f (i+1) z' j' he g' (by omega)
      rw[e,At.cons hl]
      refine⟨⟨hi,rfl,h1⟩,?_⟩
      rw[h2,bts_size,bts_size,List.length_cons]
      omega
  ·simp at h
theorem lebD_of {s:ByteArray}:∀ (f i z g:Nat),z<128 ^ (f+1)→f≤g→At s i (bts (lebN g z))→lebD s (f+1) i=some (z,i+(bts (lebN g z)).size)
 | f,i,z,g,hz,hg,h=>by
  by_cases hb:z<128
  ·have e:lebN g z=[z]:=by cases g <;> simp[lebN,hb]
   rw[e] at h⊢
   obtain⟨h1,h2⟩:=(At.one (by omega)).1 h
   unfold lebD
   rw[if_pos h1,h2,if_pos hb,bts_size]
   rfl
  ·cases f with
   | zero=>simp at hz;omega
   | succ f=>
    obtain⟨g',rfl⟩:∃ g',g=g'+1:=⟨g-1,by omega⟩
    have e:lebN (g'+1) z=(z % 128+128)::lebN g' (z / 128):=by rw[lebN,if_neg hb]
    rw[e] at h⊢
    obtain⟨h1,h2,h3⟩:=(At.cons (by omega)).1 h
    have:=lebD_of f (i+1) (z / 128) g' (by rw[Nat.pow_succ] at hz;exact Nat.div_lt_of_lt_mul (by rw[Nat.mul_comm];exact hz)) (by omega) h3
    unfold lebD
    rw[if_pos h1,h2,if_neg (by omega),this]
    simp only
    rw[if_neg (by omega)]
    simp only[Option.some.injEq,Prod.mk.injEq]
    rw[bts_size,bts_size,List.length_cons]
    omega
theorem fold_unf (z:Nat):foldI (unfI z)=z:=by
 unfold foldI unfI
 split <;> split <;> omega
theorem unf_fold (n:Int):unfI (foldI n)=n:=by
 unfold foldI unfI
 split <;> split <;> omega
theorem bL_at {s:ByteArray}{i:Nat}{n:Int}{j:Nat}(h:bL s i=some (n,j)):At s i (wholeB n)∧j=i+(wholeB n).size:=by
 unfold bL at h
 split at h
 ·simp at h
 ·rename_i z j' he
  split at h
  ·simp only[Option.some.injEq,Prod.mk.injEq] at h
   obtain⟨rfl,rfl⟩:=h
   unfold wholeB leb
   rw[fold_unf]
   exact lebD_at 10 i z _ he 10 (by omega)
  ·simp at h
theorem bL_of {s:ByteArray}{i:Nat}{n:Int}(h0 : -9223372036854775808≤n) (h1:n≤9223372036854775807) (h:At s i (wholeB n)):bL s i=some (n,i+(wholeB n).size):=by
 have hz:foldI n<18446744073709551616:=by unfold foldI;split <;> omega
 unfold bL
 rw[lebD_of 9 i (foldI n) 10 (by omega) (by omega) h]
 simp only
 rw[if_pos hz,unf_fold]
 rfl
theorem bNum_at {s:ByteArray}{lo hi:Int}{i:Nat}{n:Int}{j:Nat}(h:bNum s lo hi i=some (n,j)):lo≤n∧n≤hi∧At s i (wholeB n)∧j=i+(wholeB n).size:=by
 unfold bNum at h
 split at h
 ·simp at h
 ·rename_i n' j' he
  split at h
  ·rename_i hb
   simp only[Option.some.injEq,Prod.mk.injEq] at h
   obtain⟨rfl,rfl⟩:=h
   exact⟨hb.1,hb.2,bL_at he⟩
  ·simp at h
theorem bNum_of {s:ByteArray}{lo hi:Int}{i:Nat}{n:Int}(h0 : -9223372036854775808≤n) (h1:n≤9223372036854775807) (hl:lo≤n) (hh:n≤hi) (h:At s i (wholeB n)):bNum s lo hi i=some (n,i+(wholeB n).size):=by
 unfold bNum
 rw[bL_of h0 h1 h]
 simp only
 rw[if_pos ⟨hl,hh⟩]
theorem bText_at {s:ByteArray}{i n:Nat}{x:ByteArray}{j:Nat}(hi:i≤s.size) (h:bText s i n=some (x,j)):At s i x∧j=i+x.size∧x.size=n∧Lets x:=by
 obtain⟨g1,g2,g3,g4⟩:=bText_goes hi h
 unfold bText at h
 split at h
 ·rename_i hb
  simp only[Option.some.injEq,Prod.mk.injEq] at h
  obtain⟨rfl,rfl⟩:=h
  refine⟨At.ext (by omega) g2,by omega,g4,fun k hk=>?_⟩
  rw[bt_ext (by omega) g2]
  exact runEnd_in 97 122 s (s.size-i) i (Nat.le_refl _) (i+k) (by omega) (by unfold letEnd at hb;omega)
 ·simp at h
theorem bText_of {s:ByteArray}{i:Nat}{x:ByteArray}(hx:Lets x) (h:At s i x):bText s i x.size=some (x,i+x.size):=by
 have h1:=letEnd_run h hx
 have h2:=(runEnd_ge 97 122 s _ (i+x.size) (Nat.le_refl _)).1
 unfold bText
 rw[if_pos (by rw[h1];exact h2)]
 have hs:=h.1
 have e:s.extract i (i+x.size)=x:=(At.ext (by omega) hs).eq h (by rw[ByteArray.size_extract];omega)
 rw[e]
theorem bSized_at {s:ByteArray}{i:Nat}{x:ByteArray}{j:Nat}(h:bSized s i=some (x,j)):At s i (wholeB x.size++x)∧j=i+(wholeB x.size++x).size∧Lets x∧x.size≤9223372036854775807:=by
 unfold bSized at h
 split at h
 ·simp at h
 ·rename_i n j' he
  obtain⟨a1,a2,a3,rfl⟩:=bNum_at he
  obtain⟨b1,b2,b3,b4⟩:=bText_at a3.1 h
  have e:(x.size:Int)=n:=by omega
  rw[e,At.app,ByteArray.size_append]
  exact⟨⟨a3,b1⟩,by omega,b4,by omega⟩
theorem bSized_of {s:ByteArray}{i:Nat}{x:ByteArray}(hx:Lets x) (h1:x.size≤9223372036854775807) (h:At s i (wholeB x.size++x)):bSized s i=some (x,i+(wholeB x.size++x).size):=by
 obtain⟨a,b⟩:=At.app.1 h
 unfold bSized bSize
 rw[bNum_of (by omega) (by omega) (by omega) (by omega) a]
 simp only[Int.toNat_natCast]
 rw[bText_of hx b,ByteArray.size_append,Nat.add_assoc]
open Go.RowKit
theorem byTs_false:∀ (ds:List DT) (ks ks':List ByteArray),byTs false ks ds=byTs false ks' ds
 | [],_,_=>by simp[byTs]
 | d::r,ks,ks'=>by
  simp only[byTs]
  rw[byTs_false r ks.tail ks'.tail]
  simp
def RbAt (env:Nat→Option PB) (s:ByteArray) (R:Nat→Nat→Except Nat (DT×Nat×Nat)) (t:PT):Prop:=
 ∀ i n d j m,i≤s.size→R i n=.ok (d,j,m)→Dat env d t∧At s i (byT d)∧j=i+(byT d).size
def keyB (keyed:Bool) (k:ByteArray):ByteArray:=if keyed=true then wholeB k.size++k else noB
theorem bKey_at {s:ByteArray}{keyed:Bool}{last:Option ByteArray}{i:Nat}{k:ByteArray}{j:Nat}(hi:i≤s.size) (h:bKey s keyed last i=some (k,j)) :
 At s i (keyB keyed k)∧j=i+(keyB keyed k).size∧(keyed=true→rises last k=true∧Lets k∧k.size≤9223372036854775807):=by
 unfold bKey at h
 unfold keyB
 cases keyed with
 | false=>
  simp only[Bool.false_eq_true,if_false,Option.some.injEq,Prod.mk.injEq] at h⊢
  obtain⟨rfl,rfl⟩:=h
  exact⟨At.nil hi,rfl,fun h=>h.elim⟩
 | true=>
  simp only[if_true] at h⊢
  split at h
  ·simp at h
  ·rename_i k' j' he
   split at h
   ·rename_i hr
    simp only[Option.some.injEq,Prod.mk.injEq] at h
    obtain⟨rfl,rfl⟩:=h
    obtain⟨a,b,c,d⟩:=bSized_at he
    exact⟨a,b,fun _=>⟨hr,c,d⟩⟩
   ·simp at h
theorem byTs_cons (keyed:Bool) (k:ByteArray) (ks:List ByteArray) (d:DT) (ds:List DT):byTs keyed (k::ks) (d::ds)=(keyB keyed k++byT d)++byTs keyed ks ds:=by
 rw[byTs];rfl
theorem bItems_at {env:Nat→Option PB}{s:ByteArray}{R:Nat→Nat→Except Nat (DT×Nat×Nat)}{t:PT}(hR:RbAt env s R t){keyed:Bool}:∀ (c:Nat) (last:Option ByteArray) (i n:Nat) (l:List (ByteArray×DT)) (j m:Nat),i≤s.size→bItems R s keyed c last i n=.ok (l,j,m)→
 l.length=c∧(∀ e∈l,Dat env e.2 t)∧(keyed=true→Rise last (l.map Prod.fst))∧At s i (byTs keyed (l.map Prod.fst) (l.map Prod.snd))∧j=i+(byTs keyed (l.map Prod.fst) (l.map Prod.snd)).size
 | 0,last,i,n,l,j,m,hi,h=>by
  simp only[bItems,Except.ok.injEq,Prod.mk.injEq] at h
  obtain⟨rfl,rfl,rfl⟩:=h
  refine⟨rfl,fun e he=>(by cases he),fun _=>trivial,?_,?_⟩
  ·simp only[List.map_nil,byTs];exact At.nil hi
  ·simp only[List.map_nil,byTs];rfl
 | c+1,last,i,n,l,j,m,hi,h=>by
  unfold bItems at h
  split at h
  ·simp at h
  ·rename_i k i1 hk
   obtain⟨k1,k2,k3⟩:=bKey_at hi hk
   split at h
   ·simp at h
   ·rename_i d j1 m1 hd
    have:=k1.1
    obtain⟨d1,d2,d3⟩:=hR _ _ _ _ _ (by omega) hd
    split at h
    ·simp at h
    ·rename_i l' j' m' he
     have:=d2.1
     obtain⟨e1,e2,e3,e4,e5⟩:=bItems_at hR c _ _ _ _ _ _ (by omega) he
     simp only[Except.ok.injEq,Prod.mk.injEq] at h
     obtain⟨rfl,rfl,rfl⟩:=h
     simp only[List.map_cons,byTs_cons]
     refine⟨by simp[e1],fun e he=>?_,fun hk=>⟨(k3 hk).1,(k3 hk).2.1,(k3 hk).2.2,e3 hk⟩,?_,?_⟩
     ·rcases List.mem_cons.1 he with rfl|he
      ·exact d1
      ·exact e2 e he
     ·rw[At.app,At.app,ByteArray.size_append]
      refine⟨⟨k1,?_⟩,?_⟩
      ·rw[← k2];exact d2
      ·rw[← Nat.add_assoc,← k2,← d3];exact e4
     ·rw[ByteArray.size_append,ByteArray.size_append]
      omega
theorem bFields_at {env:Nat→Option PB}{s:ByteArray}{R:PT→Nat→Nat→Except Nat (DT×Nat×Nat)}:∀ (ts:List PT),(∀ t∈ts,RbAt env s (R t) t)→∀ (i n:Nat) (l:List DT) (j m:Nat),i≤s.size→bFields R ts i n=.ok (l,j,m)→
 l.length=ts.length∧(∀ (q:Nat) (d:DT) (t:PT),l[q]?=some d→ts[q]?=some t→Dat env d t)∧At s i (byTs false [] l)∧j=i+(byTs false [] l).size
 | [],hR,i,n,l,j,m,hi,h=>by
  simp only[bFields,Except.ok.injEq,Prod.mk.injEq] at h
  obtain⟨rfl,rfl,rfl⟩:=h
  refine⟨rfl,fun q d t hd=>by simp at hd,?_,?_⟩
  ·simp only[byTs];exact At.nil hi
  ·simp only[byTs];rfl
 | t::r,hR,i,n,l,j,m,hi,h=>by
  unfold bFields at h
  split at h
  ·simp at h
  ·rename_i d j1 m1 hd
   obtain⟨d1,d2,d3⟩:=hR t (List.mem_cons_self ..) _ _ _ _ _ hi hd
   split at h
   ·simp at h
   ·rename_i l' j' m' he
    have:=d2.1
    obtain⟨e1,e2,e4,e5⟩:=bFields_at r (fun t ht=>hR t (List.mem_cons_of_mem _ ht)) _ _ _ _ _ (by omega) he
    simp only[Except.ok.injEq,Prod.mk.injEq] at h
    obtain⟨rfl,rfl,rfl⟩:=h
    have e:byTs false [] (d::l')=byT d++byTs false [] l':=by simp only[byTs,List.tail_nil];simp[noB_app]
    rw[e]
    refine⟨by simp[e1],fun q d' t' hd' ht'=>?_,?_,?_⟩
    ·cases q with
     | zero=>simp at hd' ht';subst hd' ht';exact d1
     | succ q=>exact e2 q d' t' (by simpa using hd') (by simpa using ht')
    ·rw[At.app,← d3];exact⟨d2,e4⟩
    ·rw[ByteArray.size_append];omega
theorem rdB_at {env:Nat→Option PB}(hE:okEnv env) (s:ByteArray):∀ (f:Nat) (t:PT),okT env t→RbAt env s (rdB s env f t) t:=by
 intro f
 induction f with
 | zero=>intro t _ i n d j m _ h;simp[rdB] at h
 | succ f ih=>
  intro t ht i n d j m hi h
  unfold rdB at h
  split at h
  ·simp at h
  ·split at h
   ·rename_i c p
    unfold bLeaf at h
    split at h
    ·rename_i hc
     subst hc
     simp only[Except.ok.injEq,Prod.mk.injEq] at h
     obtain⟨rfl,rfl,rfl⟩:=h
     have e:byT (.mk 110 0 noB [] [])=noB:=by simp[byT,byTs,noB_app]
     rw[e]
     exact⟨.null,At.nil hi,rfl⟩
    ·split at h
     ·rename_i hc
      subst hc
      split at h
      ·rename_i hb
       simp only[Except.ok.injEq,Prod.mk.injEq] at h
       obtain⟨rfl,rfl,rfl⟩:=h
       have e:byT (.mk 116 (bt s i:Int) noB [] [])=bts [bt s i]:=by simp[byT]
       rw[e,bts_size]
       exact⟨.bool hb.2,(At.one (bt_lt s i)).2 ⟨hb.1,rfl⟩,rfl⟩
      ·simp at h
     ·split at h
      ·rename_i hc
       subst hc
       split at h
       ·simp at h
       ·rename_i q j' he
        simp only[Except.ok.injEq,Prod.mk.injEq] at h
        obtain⟨rfl,rfl,rfl⟩:=h
        obtain⟨a1,a2,a3,a4⟩:=bNum_at he
        have e:byT (.mk 105 q noB [] [])=wholeB q:=by simp[byT]
        rw[e]
        exact⟨.num a1 a2,a3,a4⟩
      ·split at h
       ·rename_i hc
        subst hc
        split at h
        ·simp at h
        ·rename_i q j' he
         simp only[Except.ok.injEq,Prod.mk.injEq] at h
         obtain⟨rfl,rfl,rfl⟩:=h
         obtain⟨a3,a4⟩:=bL_at he
         have hg:=bL_goes he
         have e:byT (.mk 108 q noB [] [])=wholeB q:=by simp[byT]
         rw[e]
         exact⟨.long hg.2.2.1 hg.2.2.2,a3,a4⟩
       ·split at h
        ·rename_i hc
         subst hc
         split at h
         ·simp at h
         ·rename_i x j' he
          simp only[Except.ok.injEq,Prod.mk.injEq] at h
          obtain⟨rfl,rfl,rfl⟩:=h
          obtain⟨a1,a2,a3,a4⟩:=bSized_at he
          have e:byT (.mk 115 0 x [] [])=wholeB x.size++x:=by simp[byT]
          rw[e]
          exact⟨.text a3 a4,a1,a2⟩
        ·rename_i h1 h2 h3 h4 h5
         have hb:isBase c=false:=by simp[isBase,h1,h2,h3,h4,h5]
         split at h
         ·simp at h
         ·rename_i pb he
          have hok:=hE c pb he
          unfold bNamed at h
          split at h
          ·rename_i fs
           split at h
           ·simp at h
           ·rename_i ds j' m' hf
            simp only[Except.ok.injEq,Prod.mk.injEq] at h
            obtain⟨rfl,rfl,rfl⟩:=h
            obtain⟨a1,a2,a3,a4⟩:=bFields_at (fs.map PF.ty) (fun t ht=>by
             obtain⟨g,hg,rfl⟩:=List.mem_map.1 ht
             exact ih g.ty (hok g hg)) _ _ _ _ _ hi hf
            have e:byT (.mk 114 0 noB [] ds)=byTs false [] ds:=by simp[byT,noB_app]
            rw[e]
            exact⟨.recd he hb (by simpa using a1) a2,a3,a4⟩
          ·rename_i l o
           split at h
           ·simp at h
           ·rename_i q j' hq
            simp only[Except.ok.injEq,Prod.mk.injEq] at h
            obtain⟨rfl,rfl,rfl⟩:=h
            obtain⟨a1,a2,a3,a4⟩:=bNum_at hq
            obtain⟨q,rfl⟩:∃ k:Nat,q=k:=⟨q.toNat,by omega⟩
            have e:byT (.mk 101 (q:Int) noB [] [])=wholeB q:=by simp[byT]
            rw[e]
            exact⟨.sym he hb (by omega),a3,a4⟩
          ·rename_i k
           split at h
           ·simp at h
           ·rename_i x j' hx
            simp only[Except.ok.injEq,Prod.mk.injEq] at h
            obtain⟨rfl,rfl,rfl⟩:=h
            obtain⟨a1,a2,a3,a4⟩:=bText_at hi hx
            have e:byT (.mk 102 0 x [] [])=x:=by simp[byT]
            rw[e]
            subst a3
            exact⟨.bytes he hb a4,a1,a2⟩
   ·rename_i c p u
    unfold okT at ht
    unfold bWrap at h
    split at h
    ·simp at h
    ·rename_i q j' hq
     obtain⟨a1,a2,a3,a4⟩:=bNum_at hq
     obtain⟨q,rfl⟩:∃ k:Nat,q=k:=⟨q.toNat,by omega⟩
     split at h
     ·simp at h
     ·rename_i l j2 m2 hl
      simp only[Except.ok.injEq,Prod.mk.injEq] at h
      obtain⟨rfl,rfl,rfl⟩:=h
      have:=a3.1
      obtain⟨b1,b2,b3,b4,b5⟩:=bItems_at (ih u ht.2) _ _ _ _ _ _ _ (by omega) hl
      rw[Int.toNat_natCast] at b1
      have hd:∀ d∈l.map Prod.snd,Dat env d u:=fun d hd=>by
       obtain⟨e,he,rfl⟩:=List.mem_map.1 hd
       exact b2 e he
      rcases ht.1 with rfl|rfl
      ·have e:byT (.mk 91 0 noB [] (l.map Prod.snd))=wholeB q++byTs false (l.map Prod.fst) (l.map Prod.snd):=by
        rw[byTs_false (l.map Prod.snd) (l.map Prod.fst) []]
        simp[byT,b1]
       simp only[show((91:Nat)==123)=false from rfl,Bool.false_eq_true,if_false] at b4 b5⊢
       rw[e,At.app,ByteArray.size_append]
       refine⟨.list (by simp;omega) hd,⟨a3,?_⟩,by omega⟩
       rw[← a4];exact b4
      ·have e:byT (.mk 123 0 noB (l.map Prod.fst) (l.map Prod.snd))=wholeB q++byTs true (l.map Prod.fst) (l.map Prod.snd):=by simp[byT,b1]
       simp only[show((123:Nat)==123)=true from rfl,if_true] at b3 b4 b5⊢
       rw[e,At.app,ByteArray.size_append]
       refine⟨.map (by simp;omega) (by simp) (b3 trivial) hd,⟨a3,?_⟩,by omega⟩
       rw[← a4];exact b4
   ·rename_i p ts
    unfold okT at ht
    unfold bBranch at h
    split at h
    ·simp at h
    ·rename_i q j' hq
     obtain⟨a1,a2,a3,a4⟩:=bNum_at hq
     obtain⟨q,rfl⟩:∃ k:Nat,q=k:=⟨q.toNat,by omega⟩
     rw[Int.toNat_natCast] at h
     have hg:=(bNum_goes hq)
     split at h
     ·simp at h
     ·rename_i u hu
      split at h
      ·simp at h
      ·rename_i d' j2 m2 hd
       simp only[Except.ok.injEq,Prod.mk.injEq] at h
       obtain⟨rfl,rfl,rfl⟩:=h
       have:=a3.1
       obtain⟨b1,b2,b3⟩:=ih u (okTs_at ht.2 u (List.mem_of_getElem? hu)).2 _ _ _ _ _ (by omega) hd
       have e:byT (.mk 40 (q:Int) noB [] [d'])=wholeB q++byT d':=by simp[byT,byTs,noB_app,app_noB]
       rw[e,At.app,ByteArray.size_append]
       refine⟨.alts (by omega) hu b1,⟨a3,?_⟩,by omega⟩
       rw[← a4];exact b2
open Go.RowKit
theorem bKey_of {s:ByteArray}{keyed:Bool}{last:Option ByteArray}{i:Nat}{k:ByteArray}(h:At s i (keyB keyed k)) (hk:keyed=true→rises last k=true∧Lets k∧k.size≤9223372036854775807) :
 bKey s keyed last i=some (if keyed=true then k else noB,i+(keyB keyed k).size):=by
 unfold bKey
 unfold keyB at h⊢
 cases keyed with
 | false=>simp only[Bool.false_eq_true,if_false];rfl
 | true=>
  simp only[if_true] at h⊢
  obtain⟨a,b,c⟩:=hk rfl
  rw[bSized_of b c h]
  simp only
  rw[if_pos a]
theorem bItems_of {s:ByteArray}{R:Nat→Nat→Except Nat (DT×Nat×Nat)}{keyed:Bool}{N n0:Nat}:∀ (ks:List ByteArray) (ds:List DT) (last:Option ByteArray) (i n:Nat),ks.length=ds.length→(keyed=true→Rise last ks)→
 (∀ d∈ds,∀ i n,n0≤n→At s i (byT d)→n+ndT d≤N→R i n=.ok (d,i+(byT d).size,n+ndT d))→n0≤n→At s i (byTs keyed ks ds)→n+ndTs ds≤N→
 ∃ l,bItems R s keyed ds.length last i n=.ok (l,i+(byTs keyed ks ds).size,n+ndTs ds)∧l.map Prod.snd=ds∧(keyed=true→l.map Prod.fst=ks)
 | [],[],last,i,n,_,_,_,_,h,_=>by
  refine⟨[],?_,rfl,fun _=>rfl⟩
  simp only[List.length_nil,bItems,byTs,ndTs]
  rfl
 | k::ks,d::ds,last,i,n,hl,hr,hR,hn,h,hN=>by
  rw[byTs_cons] at h⊢
  obtain⟨h12,h3⟩:=At.app.1 h
  obtain⟨h1,h2⟩:=At.app.1 h12
  rw[ndTs] at hN
  have hd:=hR d (List.mem_cons_self ..) (i+(keyB keyed k).size) n hn h2 (by omega)
  rw[ByteArray.size_append,← Nat.add_assoc] at h3
  obtain⟨l,e1,e2,e3⟩:=bItems_of (keyed:=keyed) (R:=R) (s:=s) ks ds (some (if keyed=true then k else noB)) _ (n+ndT d) (by simpa using hl) (fun hk=>by subst hk;exact(hr rfl).2.2.2) (fun d' hd'=>hR d' (List.mem_cons_of_mem _ hd')) (by omega) h3 (by omega)
  refine⟨(if keyed=true then k else noB,d)::l,?_,by simp[e2],fun hk=>by subst hk;simp[e3]⟩
  rw[List.length_cons]
  unfold bItems
  rw[bKey_of h1 (fun hk=>⟨(hr hk).1,(hr hk).2.1,(hr hk).2.2.1⟩)]
  simp only
  rw[hd]
  simp only
  rw[e1]
  simp only[Except.ok.injEq,Prod.mk.injEq,true_and,ndTs,ByteArray.size_append]
  omega
 | [],_::_,_,_,_,hl,_,_,_,_,_=>by simp at hl
 | _::_,[],_,_,_,hl,_,_,_,_,_=>by simp at hl
theorem bFields_of {s:ByteArray}{R:PT→Nat→Nat→Except Nat (DT×Nat×Nat)}{N n0:Nat}:∀ (ts:List PT) (ds:List DT) (i n:Nat),ds.length=ts.length→
 (∀ (q:Nat) (d:DT) (t:PT),ds[q]?=some d→ts[q]?=some t→∀ i n,n0≤n→At s i (byT d)→n+ndT d≤N→R t i n=.ok (d,i+(byT d).size,n+ndT d))→n0≤n→At s i (byTs false [] ds)→n+ndTs ds≤N→
 bFields R ts i n=.ok (ds,i+(byTs false [] ds).size,n+ndTs ds)
 | [],[],i,n,_,_,_,h,_=>by
  simp only[bFields,byTs,ndTs]
  rfl
 | t::ts,d::ds,i,n,hl,hR,hn,h,hN=>by
  have e:byTs false [] (d::ds)=byT d++byTs false [] ds:=by simp only[byTs,List.tail_nil];simp[noB_app]
  rw[e] at h⊢
  obtain⟨h2,h3⟩:=At.app.1 h
  rw[ndTs] at hN
  have hd:=hR 0 d t rfl rfl i n hn h2 (by omega)
  have e1:=bFields_of (R:=R) (s:=s) ts ds _ (n+ndT d) (by simpa using hl) (fun q d' t' hd' ht'=>hR (q+1) d' t' (by simpa using hd') (by simpa using ht')) (by omega) h3 (by omega)
  unfold bFields
  rw[hd]
  simp only
  rw[e1]
  simp only[Except.ok.injEq,Prod.mk.injEq,true_and,ndTs,ByteArray.size_append]
  omega
 | [],_::_,_,_,hl,_,_,_,_=>by simp at hl
 | _::_,[],_,_,hl,_,_,_,_=>by simp at hl
theorem ndT_mk (k:Nat) (n:Int) (x:ByteArray) (ks:List ByteArray) (ds:List DT):ndT (.mk k n x ks ds)=1+ndTs ds:=by rw[ndT]
theorem base_no {c:Nat}(h:isBase c=false):c≠110∧c≠116∧c≠105∧c≠108∧c≠115:=by
 simp[isBase] at h
 omega
theorem rdB_of {env:Nat→Option PB}(hE:okEnv env) (s:ByteArray):∀ (f:Nat) (d:DT) (t:PT) (i n:Nat),Dat env d t→At s i (byT d)→n+ndT d≤300→301≤f+n→rdB s env f t i n=.ok (d,i+(byT d).size,n+ndT d):=by
 intro f
 induction f with
 | zero=>intro d t i n _ _ h1 h2;cases d;rw[ndT] at h1;omega
 | succ f ih=>
  intro d t i n hd hA h1 h2
  have hn:¬ 300≤n:=by cases d;rw[ndT] at h1;omega
  unfold rdB
  rw[if_neg hn]
  cases hd with
  | null=>
   have e:byT (.mk 110 0 noB [] [])=noB:=by simp[byT,byTs,noB_app]
   simp only[bLeaf,if_true,e,ndT_mk,ndTs]
   rfl
  | bool hb=>
   rename_i p q
   have e:byT (.mk 116 (q:Int) noB [] [])=bts [q]:=by simp[byT]
   rw[e] at hA⊢
   obtain⟨a1,a2⟩:=(At.one (by omega)).1 hA
   simp only[bLeaf]
   rw[if_neg (by decide),if_pos trivial,if_pos ⟨a1,by omega⟩,a2]
   simp only[bts_size,ndT_mk,ndTs]
   rfl
  | num h0 h1'=>
   rename_i p q
   have e:byT (.mk 105 q noB [] [])=wholeB q:=by simp[byT]
   rw[e] at hA⊢
   simp only[bLeaf]
   rw[if_neg (by decide),if_neg (by decide),if_pos trivial,bNum_of (by omega) (by omega) h0 h1' hA]
   simp only[ndT_mk,ndTs]
  | long h0 h1'=>
   rename_i p q
   have e:byT (.mk 108 q noB [] [])=wholeB q:=by simp[byT]
   rw[e] at hA⊢
   simp only[bLeaf]
   rw[if_neg (by decide),if_neg (by decide),if_neg (by decide),if_pos trivial,bL_of h0 h1' hA]
   simp only[ndT_mk,ndTs]
  | text hx h1'=>
   rename_i p x
   have e:byT (.mk 115 0 x [] [])=wholeB x.size++x:=by simp[byT]
   rw[e] at hA⊢
   simp only[bLeaf]
   rw[if_neg (by decide),if_neg (by decide),if_neg (by decide),if_neg (by decide),if_pos trivial,bSized_of hx h1' hA]
   simp only[ndT_mk,ndTs]
  | bytes he hb hx=>
   rename_i c p x
   obtain⟨b1,b2,b3,b4,b5⟩:=base_no hb
   have e:byT (.mk 102 0 x [] [])=x:=by simp[byT]
   rw[e] at hA⊢
   simp only[bLeaf]
   rw[if_neg b1,if_neg b2,if_neg b3,if_neg b4,if_neg b5,he]
   simp only[bNamed]
   rw[bText_of hx hA]
   simp only[ndT_mk,ndTs]
  | sym he hb hn'=>
   rename_i c p q l o
   obtain⟨b1,b2,b3,b4,b5⟩:=base_no hb
   have hlen:=(hE c _ he).2
   have e:byT (.mk 101 (q:Int) noB [] [])=wholeB q:=by simp[byT]
   rw[e] at hA⊢
   simp only[bLeaf]
   rw[if_neg b1,if_neg b2,if_neg b3,if_neg b4,if_neg b5,he]
   simp only[bNamed]
   rw[bNum_of (by omega) (by omega) (by omega) (by omega) hA]
   simp only[ndT_mk,ndTs]
  | recd he hb hl h=>
   rename_i c p fs ds
   obtain⟨b1,b2,b3,b4,b5⟩:=base_no hb
   have e:byT (.mk 114 0 noB [] ds)=byTs false [] ds:=by simp[byT,noB_app]
   rw[e] at hA⊢
   rw[ndT_mk] at h1⊢
   simp only[bLeaf]
   rw[if_neg b1,if_neg b2,if_neg b3,if_neg b4,if_neg b5,he]
   simp only[bNamed]
   rw[bFields_of (N:=300) (n0:=n+1) (fs.map PF.ty) ds i (n+1) (by simpa using hl) (fun q d t hd ht i' n' hn' hA' hN'=>ih d t i' n' (h q d t hd ht) hA' hN' (by omega)) (Nat.le_refl _) hA (by omega)]
   simp only[Nat.add_assoc]
  | list hl h=>
   rename_i p u ds
   have e:byT (.mk 91 0 noB [] ds)=wholeB ds.length++byTs false (ds.map fun _=>noB) ds:=by
    rw[byTs_false ds _ []]
    simp[byT]
   rw[e] at hA⊢
   obtain⟨a1,a2⟩:=At.app.1 hA
   rw[ndT_mk] at h1⊢
   simp only[bWrap,bSize]
   rw[bNum_of (by omega) (by omega) (by omega) (by omega) a1]
   simp only[Int.toNat_natCast,show((91:Nat)==123)=false from rfl]
   obtain⟨l,e1,e2,e3⟩:=bItems_of (R:=rdB s env f u) (s:=s) (keyed:=false) (N:=300) (n0:=n+1) (ds.map fun _=>noB) ds none _ (n+1) (by simp) (fun hk=>by cases hk) (fun d hd i' n' hn' hA' hN'=>ih d u i' n' (h d hd) hA' hN' (by omega)) (Nat.le_refl _) a2 (by omega)
   rw[e1]
   simp only[Bool.false_eq_true,if_false,e2,ByteArray.size_append,Nat.add_assoc]
  | map hl hk hr h=>
   rename_i p u ks ds
   have e:byT (.mk 123 0 noB ks ds)=wholeB ds.length++byTs true ks ds:=by simp[byT]
   rw[e] at hA⊢
   obtain⟨a1,a2⟩:=At.app.1 hA
   rw[ndT_mk] at h1⊢
   simp only[bWrap,bSize]
   rw[bNum_of (by omega) (by omega) (by omega) (by omega) a1]
   simp only[Int.toNat_natCast,show((123:Nat)==123)=true from rfl]
   obtain⟨l,e1,e2,e3⟩:=bItems_of (R:=rdB s env f u) (s:=s) (keyed:=true) (N:=300) (n0:=n+1) ks ds none _ (n+1) hk (fun _=>hr) (fun d hd i' n' hn' hA' hN'=>ih d u i' n' (h d hd) hA' hN' (by omega)) (Nat.le_refl _) a2 (by omega)
   rw[e1]
   simp only[if_true,e2,e3,ByteArray.size_append,Nat.add_assoc]
  | alts hn' hl h=>
   rename_i q p l u d
   have hlt:q<l.length:=(List.getElem?_eq_some_iff.1 hl).1
   have e:byT (.mk 40 (q:Int) noB [] [d])=wholeB q++byT d:=by simp[byT,byTs,noB_app,app_noB]
   rw[e] at hA⊢
   obtain⟨a1,a2⟩:=At.app.1 hA
   rw[ndT_mk] at h1⊢
   simp only[ndTs,Nat.add_zero] at h1⊢
   simp only[bBranch]
   rw[bNum_of (by omega) (by omega) (by omega) (by omega) a1]
   simp only[Int.toNat_natCast,hl]
   rw[ih d u _ (n+1) h a2 (by omega) (by omega)]
   simp only[ByteArray.size_append,Nat.add_assoc]
def Pre (s s':ByteArray):Prop:=At s' 0 s
theorem Pre.bt {s s':ByteArray}(h:Pre s s'){k:Nat}(hk:k<s.size):_root_.Go.Proofs.YtiifagiebikmdaaGreatDoor.bt s' k=_root_.Go.Proofs.YtiifagiebikmdaaGreatDoor.bt s k:=by
 have:=h.2 k hk
 rwa[Nat.zero_add] at this
theorem Pre.size {s s':ByteArray}(h:Pre s s'):s.size≤s'.size:=by have:=h.1;omega
theorem Pre.at {s s' x:ByteArray}{i:Nat}(h:Pre s s') (hx:At s i x):At s' i x:=
 ⟨by have:=h.size;have:=hx.1;omega,fun k hk=>by rw[h.bt (by have:=hx.1;omega)];exact hx.2 k hk⟩
open Go.RowKit
theorem dv_snoc:∀ (l:List UInt8) (c:UInt8),dv (l++[c])=10*dv l+(c.toNat-48)
 | [],c=>by simp[dv]
 | a::l,c=>by
  rw[List.cons_append,dv,dv,dv_snoc l c,List.length_append,List.length_singleton,Nat.pow_succ,Nat.mul_add,← Nat.mul_assoc,← Nat.mul_assoc,Nat.mul_comm _ 10,← Nat.mul_assoc,Nat.add_assoc]
theorem dig_nat {u:Nat}(h:u<10):(UInt8.ofNat (48+u)).toNat=48+u:=by
 rw[UInt8.toNat_ofNat']
 exact Nat.mod_eq_of_lt (by omega)
theorem dec_facts:∀ (N u:Nat),u≤N→digs (Lib.decDigits u)∧dv (Lib.decDigits u)=u∧∃ c r,Lib.decDigits u=c::r∧(u=0→r=[]∧c=48)∧(u≠0→49≤c.toNat):=by
 intro N
 induction N with
 | zero=>
  intro u h
  obtain rfl:u=0:=by omega
  rw[Lib.decDigits,dif_pos (by decide)]
  exact⟨fun c hc=>by simp at hc;subst hc;decide,by decide,_,_,rfl,fun _=>⟨rfl,rfl⟩,fun h=>absurd rfl h⟩
 | succ N ih=>
  intro u h
  by_cases hu:u<10
  ·rw[Lib.decDigits,dif_pos hu]
   have e:=dig_nat hu
   refine⟨fun c hc=>?_,?_,_,_,rfl,fun h0=>?_,fun h0=>by omega⟩
   ·rw[List.mem_singleton] at hc
    subst hc
    omega
   ·simp only[dv,List.length_nil,Nat.pow_zero,Nat.mul_one,Nat.add_zero]
    omega
   ·subst h0;exact⟨rfl,rfl⟩
  ·rw[Lib.decDigits,dif_neg hu]
   obtain⟨a,b,c,r,e1,e2,e3⟩:=ih (u / 10) (by omega)
   have e:=dig_nat (u:=u % 10) (by omega)
   refine⟨fun x hx=>?_,?_,c,r++[UInt8.ofNat (48+u % 10)],by rw[e1];rfl,fun h0=>by omega,fun _=>e3 (by omega)⟩
   ·rcases List.mem_append.1 hx with hx|hx
    ·exact a x hx
    ·rw[List.mem_singleton] at hx
     subst hx
     omega
   ·rw[dv_snoc,b]
    omega
theorem dec_of {l r:List UInt8}{c:UInt8}(hd:digs l) (hl:l=c::r) (hz:¬ (c.toNat=48∧r≠[])):Lib.decDigits (dv l)=l:=by
 subst hl
 obtain⟨a1,a2,c',r',e1,e2,e3⟩:=dec_facts _ (dv (c::r)) (Nat.le_refl _)
 have hc:=hd c (List.mem_cons_self ..)
 have hlen:(Lib.decDigits (dv (c::r))).length=(c::r).length:=by
  by_cases h0:c.toNat=48
  ·have hr:r=[]:=by
    by_cases hr:r=[]
    ·exact hr
    ·exact absurd ⟨h0,hr⟩ hz
   subst hr
   have hv:dv [c]=0:=by simp[dv];omega
   rw[hv] at e1 e2
   rw[hv,e1,(e2 rfl).1]
   rfl
  ·have h49:49≤c.toNat:=by omega
   have b1:=dv_ge (r:=r) h49
   have b2:=dv_lt hd
   have hne:dv (c::r)≠0:=by have:=Nat.pow_pos (n:=r.length) (show 0<10 by decide);omega
   have b3:=dv_ge (r:=r') (e3 hne)
   have b4:=dv_lt a1
   rw[e1] at a2 b4
   rw[a2] at b3 b4
   rw[e1]
   simp only[List.length_cons] at b2 b4⊢
   have q1:r.length<r'.length+1:=(Nat.pow_lt_pow_iff_right (show 1<10 by decide)).1 (Nat.lt_of_le_of_lt b1 b4)
   have q2:r'.length<r.length+1:=(Nat.pow_lt_pow_iff_right (show 1<10 by decide)).1 (Nat.lt_of_le_of_lt b3 b2)
   omega
 exact((dv_ord hlen a1 hd).2).2 a2
theorem size_list (x:ByteArray):x.size=x.data.toList.length:=Array.length_toList.symm
theorem digs_bt {x:ByteArray}(h:digs x.data.toList){k:Nat}(hk:k<x.size):48≤bt x k∧bt x k≤57:=by
 rw[bt_get]
 have hk':k<x.data.toList.length:=by rw[← size_list];exact hk
 rw[List.getD_eq_getElem?_getD,List.getElem?_eq_getElem hk']
 exact h _ (List.getElem_mem hk')
theorem decB_nat (u:Nat):(decB (u:Int)).data.toList=Lib.decDigits u:=by unfold decB;rw[Lib.itoa_nonneg]
theorem decB_min (u:Nat) (h:1≤u):decB (-(u:Int))=bts [45]++decB (u:Int):=by
 apply ByteArray.ext
 unfold decB
 rw[Lib.itoa_neg u h,Lib.itoa_nonneg]
 simp[bts]
theorem run_dec {s:ByteArray}{i u:Nat}(hA:At s i (decB (u:Int))) (hst:¬ (48≤bt s (i+(decB (u:Int)).size)∧bt s (i+(decB (u:Int)).size)≤57)) :
 runEnd 48 57 s i=i+(decB (u:Int)).size∧s.extract i (i+(decB (u:Int)).size)=decB (u:Int)∧0<(decB (u:Int)).size∧(48≤bt s i∧bt s i≤57)∧bt s i=bt (decB (u:Int)) 0:=by
 obtain⟨f1,f2,c,r,f3,f4,f5⟩:=dec_facts _ u (Nat.le_refl _)
 have hd:digs (decB (u:Int)).data.toList:=by rw[decB_nat];exact f1
 have hp:0<(decB (u:Int)).size:=by rw[size_list,decB_nat,f3];simp
 have h0:=hA.2 0 hp
 rw[Nat.add_zero] at h0
 refine⟨?_,?_,hp,?_,h0⟩
 ·rw[runEnd_at _ i hA.1 (fun k hk=>by rw[hA.2 k hk];exact digs_bt hd hk),runEnd_off hst]
 ·exact(At.ext (by omega) hA.1).eq hA (by rw[ByteArray.size_extract];have:=hA.1;omega)
 ·rw[h0];exact digs_bt hd hp
theorem dec_zero {u:Nat}(h:bt (decB (u:Int)) 0=48):u=0:=by
 obtain⟨f1,f2,c,r,f3,f4,f5⟩:=dec_facts _ u (Nat.le_refl _)
 by_cases hu:u=0
 ·exact hu
 ·have:=f5 hu
  rw[bt_get,decB_nat,f3] at h
  simp at h
  omega
theorem dec_zero_size:(decB ((0:Nat):Int)).size=1:=by
 rw[size_list,decB_nat,Lib.decDigits,dif_pos (by decide)]
 rfl
theorem rdNum_of {s:ByteArray}{i kd:Nat}{n:Int}(hkd:kd=105∨kd=108) (hlo:loV kd≤n) (hhi:n≤hiV kd) (hA:At s i (decB n)) (hst:¬ (48≤bt s (i+(decB n).size)∧bt s (i+(decB n).size)≤57)) :
 rdNum s kd i=some (n,i+(decB n).size):=by
 by_cases hn:n<0
 ·obtain⟨u,hu,rfl⟩:∃ u:Nat,1≤u∧n = -(u:Int):=⟨n.natAbs,by omega,by omega⟩
  rw[decB_min u hu,At.app] at hA
  rw[decB_min u hu,ByteArray.size_append,bts_size] at hst⊢
  obtain⟨a1,a2⟩:=hA
  obtain⟨_,a3⟩:=(At.one (by decide)).1 a1
  rw[bts_size] at a2
  have e1:[45].length=1:=rfl
  rw[e1] at a2
  rw[e1,← Nat.add_assoc] at hst
  obtain⟨r1,r2,r3,r4,r5⟩:=run_dec a2 hst
  have hs:sgn s i=i+1:=by unfold sgn;rw[if_pos a3]
  have hE:numEnd s i=i+1+(decB (u:Int)).size:=by unfold numEnd;rw[hs,r1]
  have hT:numTx s i=decB (u:Int):=by unfold numTx;rw[hE,hs,r2]
  have hN:negAt s i=true:=by unfold negAt;rw[a3];rfl
  obtain⟨f1,f2,_⟩:=dec_facts _ u (Nat.le_refl _)
  have hd:digs (decB (u:Int)).data.toList:=by rw[decB_nat];exact f1
  have hv:dv (decB (u:Int)).data.toList=u:=by rw[decB_nat];exact f2
  have htop:u≤topV kd true:=by
   unfold loV at hlo;unfold topV
   rcases hkd with rfl|rfl <;> simp at hlo⊢ <;> omega
  have htop2:topV kd true≤9223372036854775808:=by unfold topV;split <;> simp
  unfold rdNum
  rw[hT,hN,hE,if_pos ((numOk_iff hd).2 ⟨r3,fun hz=>by have:=dec_zero hz.1;omega,by rw[hv];exact htop⟩)]
  have:=numV_val (neg:=true) hd (by rw[hv,if_pos rfl];omega) _ (Nat.le_refl _)
  rw[this,if_pos rfl,List.take_of_length_le (by rw[← size_list];exact Nat.le_refl _),hv]
  simp only[e1,Nat.add_assoc]
 ·obtain⟨u,rfl⟩:∃ u:Nat,n=(u:Int):=⟨n.toNat,by omega⟩
  obtain⟨r1,r2,r3,r4,r5⟩:=run_dec hA hst
  have hs:sgn s i=i:=by unfold sgn;rw[if_neg (by omega)]
  have hE:numEnd s i=i+(decB (u:Int)).size:=by unfold numEnd;rw[hs,r1]
  have hT:numTx s i=decB (u:Int):=by unfold numTx;rw[hE,hs,r2]
  have hN:negAt s i=false:=by unfold negAt;rw[beq_eq_false_iff_ne];omega
  obtain⟨f1,f2,_⟩:=dec_facts _ u (Nat.le_refl _)
  have hd:digs (decB (u:Int)).data.toList:=by rw[decB_nat];exact f1
  have hv:dv (decB (u:Int)).data.toList=u:=by rw[decB_nat];exact f2
  have htop:u≤topV kd false:=by
   unfold hiV at hhi;unfold topV
   rcases hkd with rfl|rfl <;> simp at hhi⊢ <;> omega
  have htop2:topV kd false≤9223372036854775807:=by unfold topV;split <;> simp
  have hnz:¬ (bt (decB (u:Int)) 0=48∧(1<(decB (u:Int)).size∨false=true)):=by
   rintro⟨h1,h2⟩
   have h0:=dec_zero h1
   subst h0
   rcases h2 with h|h
   ·rw[dec_zero_size] at h;omega
   ·cases h
  unfold rdNum
  rw[hT,hN,hE,if_pos ((numOk_iff hd).2 ⟨r3,hnz,by rw[hv];exact htop⟩)]
  have:=numV_val (neg:=false) hd (by rw[hv];simp;omega) _ (Nat.le_refl _)
  rw[this,List.take_of_length_le (by rw[← size_list];exact Nat.le_refl _),hv]
  simp
theorem run_of {s:ByteArray}{i e:Nat}(hi:i<e) (he:e≤s.size) (hd:∀ k,i≤k→k<e→48≤bt s k∧bt s k≤57) (hz:¬ (bt s i=48∧1<e-i)):decB ((dv (s.extract i e).data.toList:Nat):Int)=s.extract i e:=by
 have hs:(s.extract i e).size=e-i:=by rw[ByteArray.size_extract];omega
 have hg:digs (s.extract i e).data.toList:=fun c hc=>by
  obtain⟨k,k1,k2,k3⟩:=extract_mem hc
  rw[← k3];exact hd k k1 k2
 have hb:bt (s.extract i e) 0=bt s i:=by rw[bt_ext (by omega) he];rfl
 apply ByteArray.ext
 apply Array.toList_inj.1
 rw[decB_nat]
 cases hl:(s.extract i e).data.toList with
 | nil=>rw[size_list,hl] at hs;simp at hs;omega
 | cons c r=>
  rw[← hl]
  refine dec_of hg hl (fun h=>hz ⟨?_,?_⟩)
  ·rw[← hb,bt_get,hl];simpa using h.1
  ·rw[← hs,size_list,hl]
   cases r with
   | nil=>exact absurd rfl h.2
   | cons _ _=>simp
theorem rdNum_at {s:ByteArray}{i kd:Nat}{n:Int}{j:Nat}(hkd:kd=105∨kd=108) (h:rdNum s kd i=some (n,j)):loV kd≤n∧n≤hiV kd∧At s i (decB n)∧j=i+(decB n).size:=by
 unfold rdNum at h
 split at h
 ·rename_i hok
  simp only[Option.some.injEq,Prod.mk.injEq] at h
  obtain⟨rfl,rfl⟩:=h
  have hd:digs (numTx s i).data.toList:=digs_run s (sgn s i)
  obtain⟨h0,hz,hv⟩:=(numOk_iff hd).1 hok
  have hsz:(numTx s i).size=numEnd s i-sgn s i:=by
   have:=(runEnd_ge 48 57 s _ (sgn s i) (Nat.le_refl _)).1
   unfold numTx
   rw[ByteArray.size_extract]
   by_cases hx:sgn s i≤s.size
   ·have:=(runEnd_ge 48 57 s _ (sgn s i) (Nat.le_refl _)).2 hx
    unfold numEnd;omega
   ·exfalso
    unfold numTx at h0
    rw[ByteArray.size_extract] at h0
    omega
  have hx:sgn s i≤s.size:=by
   unfold numTx at h0
   rw[ByteArray.size_extract] at h0
   omega
  have hE:=(runEnd_ge 48 57 s _ (sgn s i) (Nat.le_refl _)).2 hx
  have hE':numEnd s i≤s.size:=hE
  have hb:bt (numTx s i) 0=bt s (sgn s i):=by unfold numTx;rw[bt_ext (by omega) hE'];rfl
  have hr:decB ((dv (numTx s i).data.toList:Nat):Int)=numTx s i:=by
   refine run_of (by omega) hE' (fun k k1 k2=>runEnd_in 48 57 s _ (sgn s i) (Nat.le_refl _) k k1 k2) (fun hh=>hz ⟨by rw[hb];exact hh.1,.inl (by omega)⟩)
  have htop2:topV kd true≤9223372036854775808∧topV kd false≤9223372036854775807:=by unfold topV;constructor <;> split <;> simp
  have hval:=numV_val (neg:=negAt s i) hd (by cases hh:negAt s i <;> rw[hh] at hv <;> simp <;> omega) _ (Nat.le_refl _)
  rw[List.take_of_length_le (by rw[← size_list];exact Nat.le_refl _)] at hval
  rw[hval]
  by_cases hneg:negAt s i=true
  ·rw[hneg] at hv hz
   rw[if_pos hneg]
   have h45:bt s i=45:=by unfold negAt at hneg;have:=eq_of_beq hneg;omega
   have hs:sgn s i=i+1:=by unfold sgn;rw[if_pos h45]
   have hpos:1≤dv (numTx s i).data.toList:=by
    rcases Nat.eq_zero_or_pos (dv (numTx s i).data.toList) with hq|hq
    ·exfalso
     rw[hq] at hr
     refine hz ⟨?_,.inr rfl⟩
     rw[← hr,bt_get,decB_nat,Lib.decDigits,dif_pos (by decide)]
     rfl
    ·exact hq
   rw[decB_min _ hpos,hr,At.app,bts_size,ByteArray.size_append,bts_size]
   have e1:[45].length=1:=rfl
   rw[e1]
   refine⟨?_,?_,⟨(At.one (by decide)).2 ⟨bt_pos (by omega),h45⟩,?_⟩,by omega⟩
   ·unfold topV at hv;unfold loV
    rcases hkd with rfl|rfl <;> simp at hv⊢ <;> omega
   ·unfold hiV;split <;> omega
   ·rw[← hs];exact At.ext (by omega) hE'
  ·rw[Bool.not_eq_true] at hneg
   rw[hneg] at hv
   rw[hneg,if_neg (by decide)]
   have h45:¬ bt s i=45:=by
    unfold negAt at hneg
    rw[beq_eq_false_iff_ne] at hneg
    omega
   have hs:sgn s i=i:=by unfold sgn;rw[if_neg h45]
   rw[hr]
   refine⟨?_,?_,?_,by omega⟩
   ·unfold loV;split <;> omega
   ·unfold topV at hv;unfold hiV
    rcases hkd with rfl|rfl <;> simp at hv⊢ <;> omega
   ·have:=At.ext (s:=s) (i:=i) (j:=numEnd s i) (by omega) hE'
    unfold numTx
    rw[hs];exact this
 ·simp at h
end Go.Proofs.YtiifagiebikmdaaGreatDoor
