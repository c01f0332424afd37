import Derived.Test.YtiifagiebikmdaaGreatDoorW13
import Derived.Test.YtiifagiebikmdaaGreatDoorW11
import Derived.Test.YtiifagiebikmdaaGreatDoorA00
set_option maxHeartbeats 16000000
set_option maxRecDepth 100000
set_option linter.unusedSimpArgs false
namespace Go.Proofs.YtiifagiebikmdaaGreatDoor
open Go.RowKit
variable {ds:List DT}
mutual
def ndT:DT->Nat
 | .mk _ _ _ _ ds=>1+ndTs ds
def ndTs:List DT->Nat
 | []=>0
 | d::r=>ndT d+ndTs r
end
theorem zh3:∀ a b:List DT,ndTs (a++b)=ndTs a+ndTs b
 | [],b=>by simp[ndTs]
 | d::r,b=>by simp only[a4_,ndTs,zh3 r b];omega
theorem zbt:∀ ds:List DT,ds.length<=ndTs ds
 | []=>l_
 | d::r=>by
  have:=zbt r
  have h1:1<=ndT d:=by obtain⟨_,_,_,_,_⟩:=d;unfold ndT;omega
  simp only[aq_,ndTs];omega
theorem zbe {q:Nat}{d:DT}(h:ds[q]?=some d):ndTs (ds.take (q+1))=ndTs (ds.take q)+ndT d/\ndTs (ds.take q)+ndT d<=ndTs ds:=by
 have e:ds.take (q+1)=ds.take q++[d]:=by rw[bi_,h];rfl
 have a:ndTs (ds.take (q+1))=ndTs (ds.take q)+ndT d:=by rw[e,zh3];simp[ndTs]
 refine⟨a,?_⟩;rw[<- a]
 conv=>rhs;rw[<- List.take_append_drop (q+1) ds,zh3]
 omega
theorem zcc {m:Nat}:∀ (n:Nat) (X:Nat->List Value),(∀ i,i<n->(X i).length=m)->∀ q j,q<n->j<m->((List.range n).flatMap X)[q*m+j]?=(X q)[j]?:=by
 intro n
 induction n with
 | zero=>intro X _ q j b;omega
 | succ n ih=>
  intro X a q j b d
  have hl:((List.range n).flatMap X).length=n*m:=by
   clear ih b
   induction n with
   | zero=>simp
   | succ n ih2=>
    rw[bh_,a8_,ah_,ih2 (λ i c=>a i (by omega))];simp only[bl_,b0_,bc_];rw[a n (by omega),Nat.succ_mul]
  rw[bh_,a8_];simp only[bl_,b0_,bc_]
  by_cases f:q<n
  ·have:q*m+j<n*m:=by
    have:=bt_ m (show q+1<=n by omega);rw[Nat.add_mul,Nat.one_mul] at this;omega
   rw[au_ (by omega)];exact ih X (λ i c=>a i (by omega)) q j f d
  ·have e:q=n:=by omega
   subst e;rw[ar_ (by omega),hl,Nat.add_sub_cancel_left]
theorem DVal.sub {w:World}{P:Nat->Prop}{k:Nat}{n:Int}{tx:BA}{ks:List BA}{vk vs:Value}(h:DVal w P (.mk k n tx ks ds) (zb_ k n tx vk vs)) :
 ∃ a c,vs=.slice a ds.length c/\∀ q d,ds[q]?=some d->∃ g b e f l m,a=some ⟨g,0,none⟩/\DVal w P d (zb_ b e f l m)/\(∃ x o z,l=.slice x o z)/\(∃ x o z,m=.slice x o z)/\w.cell? ⟨g,q*5,none⟩=some (.int .u8 (b:Int))/\w.cell? ⟨g,q*5+1,none⟩=some (.int .i64 e)/\w.cell? ⟨g,q*5+2,none⟩=some (.string f)/\w.cell? ⟨g,q*5+3,none⟩=some l/\w.cell? ⟨g,q*5+4,none⟩=some m:=by
 generalize s:zb_ k n tx vk vs=v at h
 cases h with
 | mk X hk hkP hs hsP hd=>
  simp only[zb_,List.cons.injEq,and_true] at s;obtain⟨_,_,_,rfl,rfl⟩:=s;obtain⟨a,c,rfl⟩:=zo_ hs;refine⟨a,c,rfl,λ q d r=>?_⟩;have B:q<ds.length:=(as_.1 r).1;have p:=hd q d r;obtain⟨g,F,t⟩:=zh_ hs (by omega);cases t;have A:∀ i,i<ds.length->(X i).length=5:=λ i u=>(hd i _ (an_ u)).len;have cell:∀ j x,j<5->(X q)[j]?=some x->w.cell? ⟨g,q*5+j,none⟩=some x:=λ j x y C=>zp_ hs rfl (by rw[zcc ds.length X A q j B y];exact C);generalize H:X q=xq at p cell
  cases p with
  | mk X2 hk2 hkP2 hs2 hsP2 hd2=>
   rename_i b e f I G l m;obtain⟨D,c1,rfl⟩:=zo_ hk2;obtain⟨E,c2,rfl⟩:=zo_ hs2;exact⟨g,b,e,f,_,_,rfl,.mk X2 hk2 hkP2 hs2 hsP2 hd2,⟨_,_,_,rfl⟩,⟨_,_,_,rfl⟩,cell 0 _ (by decide) rfl,cell 1 _ (by decide) rfl,cell 2 _ (by decide) rfl,cell 3 _ (by decide) rfl,cell 4 _ (by decide) rfl⟩
open Go.RowKit
def kdOK (k:Nat):Prop:=k=110\/k=116\/k=105\/k=108\/k=115\/k=91\/k=123\/k=40\/k=114\/k=101\/k=102
mutual
def okD:DT->Prop
 | .mk k n tx ks ds=>(-9223372036854775808<=n/\n<=9223372036854775807/\kdOK k)/\(k=116->0<=n/\n<=1)/\tx.size<=4000/\(∀ x∈ks,x.size<=4000)/\(k=123->ks.length=ds.length)/\okDs ds
def okDs:List DT->Prop
 | []=>True
 | d::r=>okD d/\okDs r
end
theorem zfq:∀ {ds:List DT},okDs ds->∀ d∈ds,okD d
 | [],_,d,h=>by cases h
 | a::r,h,d,hd=>by
  unfold okDs at h
  rcases ap_.1 hd with rfl|hd
  ·exact h.1
  ·exact zfq h.2 d hd
open Go.RowKit
theorem DVal.keys {w:World}{P:Nat->Prop}{k:Nat}{n:Int}{tx:BA}{ks:List BA}{vk vs:Value}(h:DVal w P (.mk k n tx ks ds) (zb_ k n tx vk vs)) :
 ∃ a c,vk=.slice a ks.length c/\∀ q,q<ks.length->∃ g,a=some ⟨g,0,none⟩/\w.cell? ⟨g,q,none⟩=some (.string (ks.getD q noB)):=by
 generalize d:zb_ k n tx vk vs=v at h
 cases h with
 | mk X hk hkP hs hsP hd=>
  simp only[zb_,List.cons.injEq,and_true] at d;obtain⟨_,_,_,rfl,rfl⟩:=d;obtain⟨a,c,rfl⟩:=zo_ hk;refine⟨a,c,rfl,λ q b=>?_⟩;obtain⟨g,f,e⟩:=zh_ hk (by omega);cases e;exact⟨g,rfl,zp_ hk rfl (by rw[bk_,an_ b,bd_,an_ b];rfl)⟩
theorem zjz:∀ {ds:List DT},okDs ds->∀ q,okDs (ds.take q)
 | [],h,q=>by simpa using h
 | d::r,h,0=>by simp[okDs]
 | d::r,h,q+1=>by
  unfold okDs at h;simp only[List.take_succ_cons,okDs];exact⟨h.1,zjz h.2 q⟩
end Go.Proofs.YtiifagiebikmdaaGreatDoor
