import Derived.Test.YtiifagiebikmdaaGreatDoorBK10
import Derived.Test.YtiifagiebikmdaaGreatDoorBK07
namespace Go.Proofs.YtiifagiebikmdaaGreatDoor
open Go.RowKit
mutual
def ndT:DT→Nat
 | .mk _ _ _ _ ds=>1+ndTs ds
def ndTs:List DT→Nat
 | []=>0
 | d::r=>ndT d+ndTs r
end
theorem ndTs_app:∀ a b:List DT,ndTs (a++b)=ndTs a+ndTs b
 | [],b=>by simp[ndTs]
 | d::r,b=>by simp only[List.cons_append,ndTs,ndTs_app r b];omega
theorem ndTs_len:∀ ds:List DT,ds.length≤ndTs ds
 | []=>Nat.le_refl _
 | d::r=>by
  have:=ndTs_len r
  have h1:1≤ndT d:=by obtain⟨_,_,_,_,_⟩:=d;unfold ndT;omega
  simp only[List.length_cons,ndTs];omega
theorem ndTs_take {ds:List DT}{q:Nat}{d:DT}(h:ds[q]?=some d):ndTs (ds.take (q+1))=ndTs (ds.take q)+ndT d∧ndTs (ds.take q)+ndT d≤ndTs ds:=by
 have e:ds.take (q+1)=ds.take q++[d]:=by rw[List.take_add_one,h];rfl
 have e2:ndTs (ds.take (q+1))=ndTs (ds.take q)+ndT d:=by rw[e,ndTs_app];simp[ndTs]
 refine⟨e2,?_⟩
 rw[← e2]
 conv=>rhs;rw[← List.take_append_drop (q+1) ds,ndTs_app]
 omega
theorem flatMap_get {m:Nat}:∀ (n:Nat) (X:Nat→List Value),(∀ i,i<n→(X i).length=m)→∀ q j,q<n→j<m→((List.range n).flatMap X)[q*m+j]?=(X q)[j]?:=by
 intro n
 induction n with
 | zero=>intro X _ q j hq;omega
 | succ n ih=>
  intro X hX q j hq hj
  have hl:((List.range n).flatMap X).length=n*m:=by
   clear ih hq
   induction n with
   | zero=>simp
   | succ n ih2=>
    rw[List.range_succ,List.flatMap_append,List.length_append,ih2 (fun i hi=>hX i (by omega))]
    simp only[List.flatMap_cons,List.flatMap_nil,List.append_nil]
    rw[hX n (by omega),Nat.succ_mul]
  rw[List.range_succ,List.flatMap_append]
  simp only[List.flatMap_cons,List.flatMap_nil,List.append_nil]
  by_cases hqn:q<n
  ·have:q*m+j<n*m:=by
    have:=Nat.mul_le_mul_right m (show q+1≤n by omega)
    rw[Nat.add_mul,Nat.one_mul] at this
    omega
   rw[List.getElem?_append_left (by omega)]
   exact ih X (fun i hi=>hX i (by omega)) q j hqn hj
  ·have hq':q=n:=by omega
   subst hq'
   rw[List.getElem?_append_right (by omega),hl,Nat.add_sub_cancel_left]
open Go.RowKit
mutual
def byT:DT→ByteArray
 | .mk k n tx ks ds=>
  if k=116 then bts [n.toNat]
  else if k=105∨k=108∨k=101 then wholeB n
  else if k=115 then wholeB tx.size++tx
  else if k=102 then tx
  else (if k=40 then wholeB n else if k=91∨k=123 then wholeB ds.length else noB)++byTs (k==123) ks ds
def byTs (keyed:Bool):List ByteArray→List DT→ByteArray
 | _,[]=>noB
 | ks,d::r=>((if keyed=true then wholeB (ks.headD noB).size++ks.headD noB else noB)++byT d)++byTs keyed ks.tail r
end
def kdOK (k:Nat):Prop:=k=110∨k=116∨k=105∨k=108∨k=115∨k=91∨k=123∨k=40∨k=114∨k=101∨k=102
mutual
def okD:DT→Prop
 | .mk k n tx ks ds=>(-9223372036854775808≤n∧n≤9223372036854775807∧kdOK k)∧(k=116→0≤n∧n≤1)∧tx.size≤4000∧(∀ x∈ks,x.size≤4000)∧(k=123→ks.length=ds.length)∧okDs ds
def okDs:List DT→Prop
 | []=>True
 | d::r=>okD d∧okDs r
end
theorem noB_app (b:ByteArray):noB++b=b:=by apply ByteArray.ext;simp[noB]
theorem app_noB (b:ByteArray):b++noB=b:=by apply ByteArray.ext;simp[noB]
def itB (keyed:Bool) (k:ByteArray) (d:DT):ByteArray:=(if keyed=true then wholeB k.size++k else noB)++byT d
theorem byTs_take (keyed:Bool):∀ (ds:List DT) (ks:List ByteArray) (q:Nat) (d:DT),ds[q]?=some d→byTs keyed ks (ds.take (q+1))=byTs keyed ks (ds.take q)++itB keyed (ks.getD q noB) d
 | [],ks,q,d,h=>by simp at h
 | a::r,ks,0,d,h=>by
  simp only[List.getElem?_cons_zero,Option.some.injEq] at h
  subst h
  simp only[List.take_succ_cons,List.take_zero,byTs,itB,noB_app,app_noB]
  cases ks <;> rfl
 | a::r,ks,q+1,d,h=>by
  simp only[List.getElem?_cons_succ] at h
  have e:=byTs_take keyed r ks.tail q d h
  have e2:ks.tail.getD q noB=ks.getD (q+1) noB:=by cases ks <;> simp
  simp only[List.take_succ_cons,byTs]
  rw[e,e2]
  simp only[ByteArray.append_assoc]
mutual
theorem byT_size:∀ d:DT,okD d→(byT d).size+4011≤8022*ndT d
 | .mk k n tx ks ds,h=>by
  unfold okD at h
  have h1:=wholeB_size n
  have h2:=wholeB_size tx.size
  have h3:=wholeB_size ds.length
  have h4:=byTs_size (k==123) ks ds h.2.2.2.1 h.2.2.2.2.2
  unfold byT ndT
  split
  ·rw[bts_size];simp only[List.length_singleton];omega
  ·split
   ·omega
   ·split
    ·rw[ByteArray.size_append];omega
    ·split
     ·omega
     ·rw[ByteArray.size_append]
      have h5:(if k=40 then wholeB n else if k=91∨k=123 then wholeB ds.length else noB).size≤11:=by
       split
       ·exact h1
       ·split
        ·exact h3
        ·show(0:Nat)≤11;omega
      omega
theorem byTs_size (keyed:Bool):∀ (ks:List ByteArray) (ds:List DT),(∀ x∈ks,x.size≤4000)→okDs ds→(byTs keyed ks ds).size≤8022*ndTs ds
 | _,[],_,_=>by unfold byTs;show(0:Nat)≤_;omega
 | ks,d::r,hk,h=>by
  unfold okDs at h
  have h1:=byT_size d h.1
  have h2:=byTs_size keyed ks.tail r (fun x hx=>hk x (List.mem_of_mem_tail hx)) h.2
  have h3:=wholeB_size (ks.headD noB).size
  have h4:(ks.headD noB).size≤4000:=by
   cases ks with
   | nil=>show(0:Nat)≤4000;omega
   | cons a t=>exact hk a (List.mem_cons_self ..)
  have h5:(if keyed=true then wholeB (ks.headD noB).size++ks.headD noB else noB).size≤4011:=by
   split
   ·rw[ByteArray.size_append];omega
   ·show(0:Nat)≤4011;omega
  unfold byTs ndTs
  rw[ByteArray.size_append,ByteArray.size_append]
  omega
end
open Go.RowKit
theorem okDs_take:∀ {ds:List DT},okDs ds→∀ q,okDs (ds.take q)
 | [],h,q=>by simpa using h
 | d::r,h,0=>by simp[okDs]
 | d::r,h,q+1=>by
  unfold okDs at h
  simp only[List.take_succ_cons,okDs]
  exact⟨h.1,okDs_take h.2 q⟩
open Go.RowKit
def Fits (R:Nat→Option (DT×Nat)):Prop:=∀ i d j,R i=some (d,j)→i+ndT d≤j
theorem ndT_flat {k:Nat}{n:Int}{tx:ByteArray}{ks:List ByteArray}:ndT (.mk k n tx ks [])=1:=by unfold ndT;simp[ndTs]
theorem rdItems_fits {s:ByteArray}{R:Nat→Option (DT×Nat)}(hR:Fits R){fin:Nat}{keyed:Bool}:∀ (n:Nat) (last:Option ByteArray) (i:Nat) (l:List (ByteArray×DT)) (j:Nat),rdItems R s fin keyed n last i=some (l,j)→i+ndTs (l.map Prod.snd)≤j:=by
 intro n
 induction n with
 | zero=>intro last i l j h;simp[rdItems] at h
 | succ n ih=>
  intro last i l j h
  unfold rdItems at h
  split at h
  ·simp at h
  ·rename_i k i1 hk
   have h1:=rdKey_goes hk
   split at h
   ·simp at h
   ·rename_i d j1 hd
    have h2:=hR _ _ _ hd
    split at h
    ·simp only[Option.some.injEq,Prod.mk.injEq] at h
     obtain⟨rfl,rfl⟩:=h
     simp only[List.map_cons,List.map_nil,ndTs];omega
    ·split at h
     ·split at h
      ·simp at h
      ·rename_i l' e he
       have:=ih _ _ _ _ he
       simp only[Option.some.injEq,Prod.mk.injEq] at h
       obtain⟨rfl,rfl⟩:=h
       simp only[List.map_cons,ndTs];omega
     ·simp at h
theorem rdFields_fits {s:ByteArray}{R:PT→Nat→Option (DT×Nat)}(hR:∀ t,Fits (R t)):∀ (ts:List PT) (first:Bool) (i:Nat) (l:List DT) (j:Nat),rdFields R s first ts i=some (l,j)→i+ndTs l≤j:=by
 intro ts
 induction ts with
 | nil=>
  intro first i l j h
  simp only[rdFields,Option.some.injEq,Prod.mk.injEq] at h
  obtain⟨rfl,rfl⟩:=h
  simp only[ndTs];omega
 | cons t r ih=>
  intro first i l j h
  unfold rdFields at h
  split at h
  ·split at h
   ·simp at h
   ·rename_i d j1 hd
    have h2:=hR _ _ _ _ hd
    split at h
    ·simp at h
    ·rename_i l' e he
     have:=ih _ _ _ _ he
     simp only[Option.some.injEq,Prod.mk.injEq] at h
     obtain⟨rfl,rfl⟩:=h
     simp only[ndTs];omega
  ·split at h
   ·split at h
    ·simp at h
    ·rename_i d j1 hd
     have h2:=hR _ _ _ _ hd
     split at h
     ·simp at h
     ·rename_i l' e he
      have:=ih _ _ _ _ he
      simp only[Option.some.injEq,Prod.mk.injEq] at h
      obtain⟨rfl,rfl⟩:=h
      simp only[ndTs];omega
   ·simp at h
theorem rdNamed_fits {s:ByteArray}{R:PT→Nat→Option (DT×Nat)}(hR:∀ t,Fits (R t)) (pb:PB):Fits (rdNamed R s pb):=by
 intro i d j h
 unfold rdNamed at h
 split at h
 ·split at h
  ·split at h
   ·simp at h
   ·rename_i ds j1 hd
    have h1:=rdFields_fits hR _ _ _ _ _ hd
    split at h
    ·simp only[Option.some.injEq,Prod.mk.injEq] at h
     obtain⟨rfl,rfl⟩:=h
     unfold ndT;omega
    ·simp at h
  ·simp at h
 ·split at h
  ·split at h
   ·simp at h
   ·simp only[Option.some.injEq,Prod.mk.injEq] at h
    obtain⟨rfl,rfl⟩:=h
    rw[ndT_flat];omega
  ·simp at h
 ·split at h
  ·have:=letEnd_ge s (i+1)
   simp only[Option.some.injEq,Prod.mk.injEq] at h
   obtain⟨rfl,rfl⟩:=h
   rw[ndT_flat];omega
  ·simp at h
theorem rdT_fits (s:ByteArray) (env:Nat→Option PB) (f:Nat):∀ t,Fits (rdT s env false f t):=by
 induction f with
 | zero=>intro t i d j h;simp[rdT] at h
 | succ f ih=>
  intro t i d j h
  cases t with
  | leaf c p=>
   simp only[rdT] at h
   unfold rdLeaf at h
   have one:∀ {k n tx q},i<q→some (DT.mk k n tx [] [],q)=some (d,j)→i+ndT d≤j:=fun hq h=>by
    simp only[Option.some.injEq,Prod.mk.injEq] at h
    obtain⟨rfl,rfl⟩:=h
    rw[ndT_flat];omega
   split at h
   ·split at h
    ·exact one (by omega) h
    ·simp at h
   ·split at h
    ·split at h
     ·exact one (by omega) h
     ·split at h
      ·exact one (by omega) h
      ·simp at h
    ·split at h
     ·split at h
      ·simp at h
      ·rename_i n j1 hn
       have:=rdNum_goes hn
       exact one this.1 h
     ·split at h
      ·split at h
       ·have:=letEnd_ge s (i+1)
        exact one (by omega) h
       ·simp at h
      ·split at h
       ·simp at h
       ·exact rdNamed_fits ih _ _ _ _ h
  | wrap c p t=>
   simp only[rdT] at h
   unfold rdWrap at h
   split at h
   ·split at h
    ·simp at h
    ·rename_i l j1 hl
     simp only[Option.some.injEq,Prod.mk.injEq] at h
     obtain⟨rfl,rfl⟩:=h
     unfold rdList at hl
     unfold ndT
     split at hl
     ·simp only[Option.some.injEq,Prod.mk.injEq] at hl
      obtain⟨rfl,rfl⟩:=hl
      simp only[List.map_nil,ndTs];omega
     ·have:=rdItems_fits (ih t) _ _ _ _ _ hl
      omega
   ·simp at h
  | alts p ts=>
   simp only[rdT] at h
   unfold rdBranch at h
   rw[if_neg (by decide)] at h
   split at h
   ·have hg:=(runEnd_ge 48 57 s _ (i+1) (Nat.le_refl _)).1
    have hbe:i+1≤brEnd s (i+1):=by unfold brEnd;omega
    split at h
    ·simp at h
    ·split at h
     ·simp at h
     ·rename_i d1 j1 hd
      have:=ih _ _ _ _ hd
      split at h
      ·simp only[Option.some.injEq,Prod.mk.injEq] at h
       obtain⟨rfl,rfl⟩:=h
       unfold ndT
       simp only[ndTs];omega
      ·simp at h
   ·simp at h
theorem readT_nodes {env:Nat→Option PB}{t:PT}{s:ByteArray}{d:DT}(h:readT env false t s=some d):ndT d≤s.size:=by
 unfold readT at h
 split at h
 ·simp at h
 ·rename_i d1 j hd
  have h1:=rdT_fits s env _ t _ _ _ hd
  have h2:=(rdT_goes s env _ _ t _ _ _ hd).2
  split at h
  ·simp only[Option.some.injEq] at h
   subst h
   omega
  ·simp at h
end Go.Proofs.YtiifagiebikmdaaGreatDoor
