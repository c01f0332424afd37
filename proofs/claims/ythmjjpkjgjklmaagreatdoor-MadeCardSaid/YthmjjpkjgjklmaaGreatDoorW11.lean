import Derived.Test.YthmjjpkjgjklmaaGreatDoorW10
import Derived.Test.YthmjjpkjgjklmaaGreatDoorW07
import Derived.Test.YthmjjpkjgjklmaaGreatDoorA00
set_option maxHeartbeats 16000000
set_option maxRecDepth 100000
set_option linter.unusedSimpArgs false
namespace Go.Proofs.YthmjjpkjgjklmaaGreatDoor
open Go.RowKit
variable {s:BA}
mutual
def ndT:DT->Nat
 | .mk _ _ _ _ ds=>1+ndTs ds
def ndTs:List DT->Nat
 | []=>0
 | d::r=>ndT d+ndTs r
end
theorem zin:∀ a b:List DT,ndTs (a++b)=ndTs a+ndTs b
 | [],b=>by simp[ndTs]
 | d::r,b=>by simp only[bn_,ndTs,zin r b];omega
theorem x3_:∀ ds:List DT,ds.length<=ndTs ds
 | []=>l_
 | d::r=>by
  have:=x3_ r
  have h1:1<=ndT d:=by obtain⟨_,_,_,_,_⟩:=d;unfold ndT;omega
  simp only[ar_,ndTs];omega
theorem xm_ {ds:List DT}{q:Nat}{d:DT}(h:ds[q]?=some d):ndTs (ds.take (q+1))=ndTs (ds.take q)+ndT d/\ndTs (ds.take q)+ndT d<=ndTs ds:=by
 have e:ds.take (q+1)=ds.take q++[d]:=by rw[ba_,h];rfl
 have e2:ndTs (ds.take (q+1))=ndTs (ds.take q)+ndT d:=by rw[e,zin];simp[ndTs]
 refine⟨e2,?_⟩;rw[<- e2]
 conv=>rhs;rw[<- List.take_append_drop (q+1) ds,zin]
 omega
theorem zcj {m:Nat}:∀ (n:Nat) (X:Nat->List Value),(∀ i,i<n->(X i).length=m)->∀ q j,q<n->j<m->((List.range n).flatMap X)[q*m+j]?=(X q)[j]?:=by
 intro n
 induction n with
 | zero=>intro X _ q j hq;omega
 | succ n ih=>
  intro X hX q j hq hj
  have hl:((List.range n).flatMap X).length=n*m:=by
   clear ih hq
   induction n with
   | zero=>simp
   | succ n ih2=>
    rw[bi_,a5_,al_,ih2 (λ i hi=>hX i (by omega))];simp only[be_,bx_,a8_];rw[hX n (by omega),Nat.succ_mul]
  rw[bi_,a5_];simp only[be_,bx_,a8_]
  by_cases hqn:q<n
  ·have:q*m+j<n*m:=by
    have:=b1_ m (show q+1<=n by omega);rw[Nat.add_mul,Nat.one_mul] at this;omega
   rw[av_ (by omega)];exact ih X (λ i hi=>hX i (by omega)) q j hqn hj
  ·have hq':q=n:=by omega
   subst hq';rw[aw_ (by omega),hl,Nat.add_sub_cancel_left]
theorem DVal.sub {w:World}{P:Nat->Prop}{k:Nat}{n:Int}{tx:BA}{ks:List BA}{ds:List DT}{vk vs:Value}(h:DVal w P (.mk k n tx ks ds) (jk_ k n tx vk vs)) :
 ∃ a c,vs=.slice a ds.length c/\∀ q d,ds[q]?=some d->∃ g k' n' tx' vk' vs',a=some ⟨g,0,none⟩/\DVal w P d (jk_ k' n' tx' vk' vs')/\(∃ x y z,vk'=.slice x y z)/\(∃ x y z,vs'=.slice x y z)/\w.cell? ⟨g,q*5,none⟩=some (.int .u8 (k':Int))/\w.cell? ⟨g,q*5+1,none⟩=some (.int .i64 n')/\w.cell? ⟨g,q*5+2,none⟩=some (.string tx')/\w.cell? ⟨g,q*5+3,none⟩=some vk'/\w.cell? ⟨g,q*5+4,none⟩=some vs':=by
 generalize hv:jk_ k n tx vk vs=v at h
 cases h with
 | mk X hk hkP hs hsP hd=>
  simp only[jk_,List.cons.injEq,and_true] at hv;obtain⟨_,_,_,rfl,rfl⟩:=hv;obtain⟨a,c,rfl⟩:=zf_ hs;refine⟨a,c,rfl,λ q d hq=>?_⟩;have hql:q<ds.length:=(ao_.1 hq).1;have hdq:=hd q d hq;obtain⟨g,cap,hgc⟩:=zk_ hs (by omega);cases hgc;have hlen:∀ i,i<ds.length->(X i).length=5:=λ i hi=>(hd i _ (am_ hi)).len;have cell:∀ j x,j<5->(X q)[j]?=some x->w.cell? ⟨g,q*5+j,none⟩=some x:=λ j x hj hx=>zs_ hs rfl (by rw[zcj ds.length X hlen q j hql hj];exact hx);generalize hXq:X q=xq at hdq cell
  cases hdq with
  | mk X2 hk2 hkP2 hs2 hsP2 hd2=>
   rename_i k' n' tx' ks' ds' vk' vs';obtain⟨a1,c1,rfl⟩:=zf_ hk2;obtain⟨a2,c2,rfl⟩:=zf_ hs2;exact⟨g,k',n',tx',_,_,rfl,.mk X2 hk2 hkP2 hs2 hsP2 hd2,⟨_,_,_,rfl⟩,⟨_,_,_,rfl⟩,cell 0 _ (by decide) rfl,cell 1 _ (by decide) rfl,cell 2 _ (by decide) rfl,cell 3 _ (by decide) rfl,cell 4 _ (by decide) rfl⟩
open Go.RowKit
mutual
def byT:DT->BA
 | .mk k n tx ks ds=>
  if k=116 then bts [n.toNat]
  else if k=105\/k=108\/k=101 then zt_ n
  else if k=115 then zt_ tx.size++tx
  else if k=102 then tx
  else (if k=40 then zt_ n else if k=91\/k=123 then zt_ ds.length else noB)++byTs (k==123) ks ds
def byTs (keyed:Bool):List BA->List DT->BA
 | _,[]=>noB
 | ks,d::r=>((if keyed=true then zt_ (ks.headD noB).size++ks.headD noB else noB)++byT d)++byTs keyed ks.tail r
end
def kdOK (k:Nat):Prop:=k=110\/k=116\/k=105\/k=108\/k=115\/k=91\/k=123\/k=40\/k=114\/k=101\/k=102
mutual
def okD:DT->Prop
 | .mk k n tx ks ds=>(-9223372036854775808<=n/\n<=9223372036854775807/\kdOK k)/\(k=116->0<=n/\n<=1)/\tx.size<=4000/\(∀ x∈ks,x.size<=4000)/\(k=123->ks.length=ds.length)/\okDs ds
def okDs:List DT->Prop
 | []=>True
 | d::r=>okD d/\okDs r
end
theorem xl_ (b:BA):noB++b=b:=by apply br_;simp[noB]
theorem j9_ (b:BA):b++noB=b:=by apply br_;simp[noB]
def itB (keyed:Bool) (k:BA) (d:DT):BA:=(if keyed=true then zt_ k.size++k else noB)++byT d
theorem zgh (keyed:Bool):∀ (ds:List DT) (ks:List BA) (q:Nat) (d:DT),ds[q]?=some d->byTs keyed ks (ds.take (q+1))=byTs keyed ks (ds.take q)++itB keyed (ks.getD q noB) d
 | [],ks,q,d,h=>by simp at h
 | a::r,ks,0,d,h=>by
  simp only[aa_,ad_] at h;subst h;simp only[b8_,List.take_zero,byTs,itB,xl_,j9_];cases ks<;>rfl
 | a::r,ks,q+1,d,h=>by
  simp only[ac_] at h;have e:=zgh keyed r ks.tail q d h
  have e2:ks.tail.getD q noB=ks.getD (q+1) noB:=by cases ks<;>simp
  simp only[b8_,byTs];rw[e,e2];simp only[bb_]
mutual
theorem zwu:∀ d:DT,okD d->(byT d).size+4011<=8022*ndT d
 | .mk k n tx ks ds,h=>by
  unfold okD at h;have h1:=xe_ n;have h2:=xe_ tx.size;have h3:=xe_ ds.length;have h4:=zdd (k==123) ks ds h.2.2.2.1 h.2.2.2.2.2;unfold byT ndT;split
  ·rw[zi_];simp only[ai_];omega
  ·split
   ·omega
   ·split
    ·rw[ag_];omega
    ·split
     ·omega
     ·rw[ag_]
      have h5:(if k=40 then zt_ n else if k=91\/k=123 then zt_ ds.length else noB).size<=11:=by
       split
       ·exact h1
       ·split
        ·exact h3
        ·show(0:Nat)<=11;omega
      omega
theorem zdd (keyed:Bool):∀ (ks:List BA) (ds:List DT),(∀ x∈ks,x.size<=4000)->okDs ds->(byTs keyed ks ds).size<=8022*ndTs ds
 | _,[],_,_=>by unfold byTs;show(0:Nat)<=_;omega
 | ks,d::r,hk,h=>by
  unfold okDs at h;have h1:=zwu d h.1;have h2:=zdd keyed ks.tail r (λ x hx=>hk x (List.mem_of_mem_tail hx)) h.2;have h3:=xe_ (ks.headD noB).size
  have h4:(ks.headD noB).size<=4000:=by
   cases ks with
   | nil=>show(0:Nat)<=4000;omega
   | cons a t=>exact hk a (ay_ ..)
  have h5:(if keyed=true then zt_ (ks.headD noB).size++ks.headD noB else noB).size<=4011:=by
   split
   ·rw[ag_];omega
   ·show(0:Nat)<=4011;omega
  unfold byTs ndTs;rw[ag_,ag_];omega
end
theorem zcw:∀ {ds:List DT},okDs ds->∀ q,okDs (ds.take q)
 | [],h,q=>by simpa using h
 | d::r,h,0=>by simp[okDs]
 | d::r,h,q+1=>by
  unfold okDs at h;simp only[b8_,okDs];exact⟨h.1,zcw h.2 q⟩
open Go.RowKit
def Fits (R:Nat->Option (DT×Nat)):Prop:=∀ i d j,R i=some (d,j)->i+ndT d<=j
theorem zbo {k:Nat}{n:Int}{tx:BA}{ks:List BA}:ndT (.mk k n tx ks [])=1:=by unfold ndT;simp[ndTs]
theorem zj1 {R:Nat->Option (DT×Nat)}(hR:Fits R){fin:Nat}{keyed:Bool}:∀ (n:Nat) (last:Option BA) (i:Nat) (l:List (BA×DT)) (j:Nat),y3_ R s fin keyed n last i=some (l,j)->i+ndTs (l.map Prod.snd)<=j:=by
 intro n
 induction n with
 | zero=>intro last i l j h;simp[y3_] at h
 | succ n ih=>
  intro last i l j h;unfold y3_ at h;split at h
  ·simp at h
  ·rename_i k i1 hk;have h1:=zdm hk;split at h
   ·simp at h
   ·rename_i d j1 hd;have h2:=hR _ _ _ hd;split at h
    ·simp only[ad_,ab_] at h;obtain⟨rfl,rfl⟩:=h;simp only[ap_,a1_,ndTs];omega
    ·split at h
     ·split at h
      ·simp at h
      ·rename_i l' e he;have:=ih _ _ _ _ he;simp only[ad_,ab_] at h;obtain⟨rfl,rfl⟩:=h;simp only[ap_,ndTs];omega
     ·simp at h
theorem zic {R:PT->Nat->Option (DT×Nat)}(hR:∀ t,Fits (R t)):∀ (ts:List PT) (first:Bool) (i:Nat) (l:List DT) (j:Nat),zv_ R s first ts i=some (l,j)->i+ndTs l<=j:=by
 intro ts
 induction ts with
 | nil=>
  intro first i l j h
  simp only[zv_,ad_,ab_] at h;obtain⟨rfl,rfl⟩:=h;simp only[ndTs];omega
 | cons t r ih=>
  intro first i l j h
  unfold zv_ at h;split at h
  ·split at h
   ·simp at h
   ·rename_i d j1 hd;have h2:=hR _ _ _ _ hd;split at h
    ·simp at h
    ·rename_i l' e he;have:=ih _ _ _ _ he;simp only[ad_,ab_] at h;obtain⟨rfl,rfl⟩:=h;simp only[ndTs];omega
  ·split at h
   ·split at h
    ·simp at h
    ·rename_i d j1 hd;have h2:=hR _ _ _ _ hd;split at h
     ·simp at h
     ·rename_i l' e he;have:=ih _ _ _ _ he;simp only[ad_,ab_] at h;obtain⟨rfl,rfl⟩:=h;simp only[ndTs];omega
   ·simp at h
theorem zjz {R:PT->Nat->Option (DT×Nat)}(hR:∀ t,Fits (R t)) (pb:PB):Fits (y6_ R s pb):=by
 intro i d j h;unfold y6_ at h;split at h
 ·split at h
  ·split at h
   ·simp at h
   ·rename_i ds j1 hd;have h1:=zic hR _ _ _ _ _ hd;split at h
    ·simp only[ad_,ab_] at h;obtain⟨rfl,rfl⟩:=h;unfold ndT;omega
    ·simp at h
  ·simp at h
 ·split at h
  ·split at h
   ·simp at h
   ·simp only[ad_,ab_] at h;obtain⟨rfl,rfl⟩:=h;rw[zbo];omega
  ·simp at h
 ·split at h
  ·have:=vo_ s (i+1);simp only[ad_,ab_] at h;obtain⟨rfl,rfl⟩:=h;rw[zbo];omega
  ·simp at h
theorem zvj (s:BA) (env:Nat->Option PB) (f:Nat):∀ t,Fits (rdT s env false f t):=by
 induction f with
 | zero=>intro t i d j h;simp[rdT] at h
 | succ f ih=>
  intro t i d j h
  cases t with
  | leaf c p=>
   simp only[rdT] at h;unfold va_ at h
   have one:∀ {k n tx q},i<q->some (DT.mk k n tx [] [],q)=some (d,j)->i+ndT d<=j:=λ hq h=>by
    simp only[ad_,ab_] at h;obtain⟨rfl,rfl⟩:=h;rw[zbo];omega
   split at h
   ·split at h
    ·exact one (by omega) h
    ·simp at h
   ·split at h
    ·split at h
     ·exact one (by omega) h
     ·split at h
      ·exact one (by omega) h
      ·simp at h
    ·split at h
     ·split at h
      ·simp at h
      ·rename_i n j1 hn;have:=zdl hn;exact one this.1 h
     ·split at h
      ·split at h
       ·have:=vo_ s (i+1);exact one (by omega) h
       ·simp at h
      ·split at h
       ·simp at h
       ·exact zjz ih _ _ _ _ h
  | wrap c p t=>
   simp only[rdT] at h;unfold vt_ at h;split at h
   ·split at h
    ·simp at h
    ·rename_i l j1 hl;simp only[ad_,ab_] at h;obtain⟨rfl,rfl⟩:=h;unfold zcr at hl;unfold ndT;split at hl
     ·simp only[ad_,ab_] at hl;obtain⟨rfl,rfl⟩:=hl;simp only[a1_,ndTs];omega
     ·have:=zj1 (ih t) _ _ _ _ _ hl;omega
   ·simp at h
  | alts p ts=>
   simp only[rdT] at h;unfold y9_ at h;rw[if_neg (by decide)] at h;split at h
   ·have hg:=(yj_ 48 57 s _ (i+1) l_).1
    have hbe:i+1<=y5_ s (i+1):=by unfold y5_;omega
    split at h
    ·simp at h
    ·split at h
     ·simp at h
     ·rename_i d1 j1 hd;have:=ih _ _ _ _ hd;split at h
      ·simp only[ad_,ab_] at h;obtain⟨rfl,rfl⟩:=h;unfold ndT;simp only[ndTs];omega
      ·simp at h
   ·simp at h
theorem zmj {env:Nat->Option PB}{t:PT}{d:DT}(h:xn_ env false t s=some d):ndT d<=s.size:=by
 unfold xn_ at h;split at h
 ·simp at h
 ·rename_i d1 j hd;have h1:=zvj s env _ t _ _ _ hd;have h2:=(j2_ s env _ _ t _ _ _ hd).2;split at h
  ·simp only[ad_] at h;subst h;omega
  ·simp at h
end Go.Proofs.YthmjjpkjgjklmaaGreatDoor
