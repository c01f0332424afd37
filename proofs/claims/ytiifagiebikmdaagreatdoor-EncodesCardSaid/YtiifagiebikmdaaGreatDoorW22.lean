import Derived.Test.YtiifagiebikmdaaGreatDoorW21
import Derived.Test.YtiifagiebikmdaaGreatDoorW17
namespace Go.Proofs.YtiifagiebikmdaaGreatDoor
open Go.RowKit
mutual
def ndT:DT→Nat
 | .mk _ _ _ _ ds=>1+ndTs ds
def ndTs:List DT→Nat
 | []=>0
 | d::r=>ndT d+ndTs r
end
theorem ndTs_app:∀ a b:List DT,ndTs (a++b)=ndTs a+ndTs b
 | [],b=>by simp[ndTs]
 | d::r,b=>by simp only[List.cons_append,ndTs,ndTs_app r b];omega
theorem ndTs_len:∀ ds:List DT,ds.length≤ndTs ds
 | []=>Nat.le_refl _
 | d::r=>by
  have:=ndTs_len r
  have h1:1≤ndT d:=by obtain⟨_,_,_,_,_⟩:=d;unfold ndT;omega
  simp only[List.length_cons,ndTs];omega
theorem ndTs_take {ds:List DT}{q:Nat}{d:DT}(h:ds[q]?=some d):ndTs (ds.take (q+1))=ndTs (ds.take q)+ndT d∧ndTs (ds.take q)+ndT d≤ndTs ds:=by
 have e:ds.take (q+1)=ds.take q++[d]:=by rw[List.take_add_one,h];rfl
 have e2:ndTs (ds.take (q+1))=ndTs (ds.take q)+ndT d:=by rw[e,ndTs_app];simp[ndTs]
 refine⟨e2,?_⟩
 rw[← e2]
 conv=>rhs;rw[← List.take_append_drop (q+1) ds,ndTs_app]
 omega
theorem flatMap_get {m:Nat}:∀ (n:Nat) (X:Nat→List Value),(∀ i,i<n→(X i).length=m)→∀ q j,q<n→j<m→((List.range n).flatMap X)[q*m+j]?=(X q)[j]?:=by
 intro n
 induction n with
 | zero=>intro X _ q j hq;omega
 | succ n ih=>
  intro X hX q j hq hj
  have hl:((List.range n).flatMap X).length=n*m:=by
   clear ih hq
   induction n with
   | zero=>simp
   | succ n ih2=>
    rw[List.range_succ,List.flatMap_append,List.length_append,ih2 (fun i hi=>hX i (by omega))]
    simp only[List.flatMap_cons,List.flatMap_nil,List.append_nil]
    rw[hX n (by omega),Nat.succ_mul]
  rw[List.range_succ,List.flatMap_append]
  simp only[List.flatMap_cons,List.flatMap_nil,List.append_nil]
  by_cases hqn:q<n
  ·have:q*m+j<n*m:=by
    have:=Nat.mul_le_mul_right m (show q+1≤n by omega)
    rw[Nat.add_mul,Nat.one_mul] at this
    omega
   rw[List.getElem?_append_left (by omega)]
   exact ih X (fun i hi=>hX i (by omega)) q j hqn hj
  ·have hq':q=n:=by omega
   subst hq'
   rw[List.getElem?_append_right (by omega),hl,Nat.add_sub_cancel_left]
theorem DVal.sub {w:World}{P:Nat→Prop}{k:Nat}{n:Int}{tx:ByteArray}{ks:List ByteArray}{ds:List DT}{vk vs:Value}(h:DVal w P (.mk k n tx ks ds) (dvals k n tx vk vs)) :
 ∃ a c,vs=.slice a ds.length c∧∀ q d,ds[q]?=some d→∃ g k' n' tx' vk' vs',a=some ⟨g,0,none⟩∧DVal w P d (dvals k' n' tx' vk' vs')∧(∃ x y z,vk'=.slice x y z)∧(∃ x y z,vs'=.slice x y z)∧w.cell? ⟨g,q*5,none⟩=some (.int .u8 (k':Int))∧w.cell? ⟨g,q*5+1,none⟩=some (.int .i64 n')∧w.cell? ⟨g,q*5+2,none⟩=some (.string tx')∧w.cell? ⟨g,q*5+3,none⟩=some vk'∧w.cell? ⟨g,q*5+4,none⟩=some vs':=by
 generalize hv:dvals k n tx vk vs=v at h
 cases h with
 | mk X hk hkP hs hsP hd=>
  simp only[dvals,List.cons.injEq,and_true] at hv
  obtain⟨_,_,_,rfl,rfl⟩:=hv
  obtain⟨a,c,rfl⟩:=own_sl hs
  refine⟨a,c,rfl,fun q d hq=>?_⟩
  have hql:q<ds.length:=(List.getElem?_eq_some_iff.1 hq).1
  have hdq:=hd q d hq
  obtain⟨g,cap,hgc⟩:=own_form hs (by omega)
  cases hgc
  have hlen:∀ i,i<ds.length→(X i).length=5:=fun i hi=>(hd i _ (List.getElem?_eq_getElem hi)).len
  have cell:∀ j x,j<5→(X q)[j]?=some x→w.cell? ⟨g,q*5+j,none⟩=some x:=fun j x hj hx=>own_cell hs rfl (by rw[flatMap_get ds.length X hlen q j hql hj];exact hx)
  generalize hXq:X q=xq at hdq cell
  cases hdq with
  | mk X2 hk2 hkP2 hs2 hsP2 hd2=>
   rename_i k' n' tx' ks' ds' vk' vs'
   obtain⟨a1,c1,rfl⟩:=own_sl hk2
   obtain⟨a2,c2,rfl⟩:=own_sl hs2
   exact⟨g,k',n',tx',_,_,rfl,.mk X2 hk2 hkP2 hs2 hsP2 hd2,⟨_,_,_,rfl⟩,⟨_,_,_,rfl⟩,cell 0 _ (by decide) rfl,cell 1 _ (by decide) rfl,cell 2 _ (by decide) rfl,cell 3 _ (by decide) rfl,cell 4 _ (by decide) rfl⟩
set_option maxHeartbeats 4000000 in
set_option maxRecDepth 100000 in
theorem nodes_any:∀ (m:Nat) (d:DT),ndT d≤m→ndT d≤100000→∀ (w:World) (P:Nat→Prop) (k:Nat) (n:Int) (tx:ByteArray) (a1:Option Addr) (m1 c1:Nat) (vs:Value),DVal w P d (dvals k n tx (.slice a1 m1 c1) vs)→
 Calls Tryz.prog 20 #[.agg (dvals k n tx (.slice a1 m1 c1) vs).toArray] w fun e w'=>e=.returned (.int .i64 (ndT d:Int))∧Fr w w' (fun _=>False):=by
 intro m
 induction m with
 | zero=>intro d h;cases d;unfold ndT at h;omega
 | succ m ih=>
  intro d hm hb w P k n tx a1 m1 c1 vs hD
  obtain⟨k0,n0,tx0,ks,ds⟩:=d
  obtain⟨rfl,rfl,rfl⟩:k0=k∧n0=n∧tx0=tx:=by
   generalize hv:dvals k n tx (.slice a1 m1 c1) vs=v at hD
   cases hD with
   | mk X hk hkP hs hsP hd=>
    simp only[dvals,List.cons.injEq,and_true,Value.int.injEq,Value.string.injEq,true_and] at hv
    exact⟨by omega,hv.2.1.symm,hv.2.2.1.symm⟩
  obtain⟨a2,c2,rfl,hsub⟩:=hD.sub
  obtain⟨POST,hPOST⟩:∃ Q,Hid (Q=fun (e:Ending) (w':World)=>e=.returned (.int .i64 (ndT (.mk k0 n0 tx0 ks ds):Int))∧Fr w w' (fun _=>False)):=⟨_,rfl⟩
  rw[← hPOST.out]
  have hnd:ndT (.mk k0 n0 tx0 ks ds)=1+ndTs ds:=by unfold ndT;rfl
  rw[hnd] at hm hb
  have hf0:Fr w (w.alloc (.cells (dvals k0 n0 tx0 (.slice a1 m1 c1) (.slice a2 ds.length c2)).toArray 37)) (fun _=>False):=(Fr.refl w _).alloc _
  have hB0:=hide (Blk.new w (dvals k0 n0 tx0 (.slice a1 m1 c1) (.slice a2 ds.length c2)).toArray 37)
  have start:Hid (∃ q:Nat,Value.int .i64 1=.int .i64 ((1+ndTs (ds.take q):Nat):Int)∧Value.int .i64 0=.int .i64 (q:Int)∧q≤ds.length∧ds.length+1-q≤ds.length+1∧Fr w (w.alloc (.cells (dvals k0 n0 tx0 (.slice a1 m1 c1) (.slice a2 ds.length c2)).toArray 37)) (fun _=>False)∧Fr (w.alloc (.cells (dvals k0 n0 tx0 (.slice a1 m1 c1) (.slice a2 ds.length c2)).toArray 37)) (w.alloc (.cells (dvals k0 n0 tx0 (.slice a1 m1 c1) (.slice a2 ds.length c2)).toArray 37)) (fun _=>False)):=hide ⟨0,by simp[ndTs],rfl,Nat.zero_le _,by omega,hf0,Fr.refl _ _⟩
  replace hnd:=hide hnd
  replace hsub:=hide hsub
  replace hf0:=hide hf0
  replace hD:=hide hD
  go_enter Tryz.func20,Tryz.ntmps20
  go_wp2_with fail
  go_loopg [3,4,5] (ds.length+1) (fun m v3 v4 v5 W=>∃ q:Nat,v3=.int .i64 ((1+ndTs (ds.take q):Nat):Int)∧v4=.int .i64 (q:Int)∧q≤ds.length∧ds.length+1-q≤m∧Fr w W (fun _=>False)∧Fr (w.alloc (.cells (dvals k0 n0 tx0 (.slice a1 m1 c1) (.slice a2 ds.length c2)).toArray 37)) W (fun _=>False))
  case atStart=>exact start.out
  case round=>
   clear start
   obtain⟨q,rfl,rfl,hq,hmq,hFw,hFb⟩:=hrel
   have b4:=(hFb.blk hB0.out id).cell 4
   simp only[dvals,List.getElem?_cons_zero,List.getElem?_cons_succ] at b4
   by_cases hlt:q<ds.length
   ·have hlt':(q:Int)<(ds.length:Int):=by omega
    have hd:ds[q]?=some ds[q]:=List.getElem?_eq_getElem hlt
    generalize ds[q]=d at hd
    obtain⟨g,k',n',tx',vk',vs',rfl,hDd,⟨x1,y1,z1,rfl⟩,⟨x2,y2,z2,rfl⟩,c0,c1',c2',c3,c4⟩:=hsub.out q d hd
    obtain⟨t1,t2⟩:=ndTs_take hd
    have hC:=hide (ih d (by omega) (by omega) wr P k' n' tx' x1 y1 z1 (.slice x2 y2 z2) (hDd.fr hFw (fun _ _ f=>f)))
    have mv:∀ {o:Nat} {v:Value},w.cell? ⟨g,o,none⟩=some v→wr.cell? ⟨g,o,none⟩=some v:=fun {o v} h=>(World.cell?_of_block (a:=⟨g,o,none⟩) (hFw.block g (World.block_lt_of_cell? w ⟨g,o,none⟩ h) id)).trans h
    have e0:=mv c0
    have e1:=mv c1'
    have e2:=mv c2'
    have e3:=mv c3
    have e4:=mv c4
    clear c0 c1' c2' c3 c4 mv hDd
    have hq5:q≤100000:=by have:=ndTs_len ds;omega
    obtain⟨S,hS⟩:∃ S,ndTs (ds.take q)=S:=⟨_,rfl⟩
    obtain⟨D,hDn⟩:∃ D,ndT d=D:=⟨_,rfl⟩
    rw[hS] at t1 t2
    rw[hDn] at t1 t2 hC
    rw[hS]
    replace t1:=hide t1
    replace hS:=hide hS
    replace hDn:=hide hDn
    replace hFw:=hide hFw
    replace hFb:=hide hFb
    replace hd:=hide hd
    go_wp2_with (go_at_call 20;refine hC.out.mono ?_;rintro e w2 ⟨rfl,hf2⟩;replace hf2:=hide hf2)
    go_roundg (ds.length+1-(q+1))
    case measure=>omega
    case rel=>exact⟨q+1,by rw[t1.out];simp;omega,by simp,hlt,Nat.le_refl _,hFw.out.trans hf2.out (fun _ _ f=>f),hFb.out.trans hf2.out (fun _ _ f=>f)⟩
   ·have hlt':¬ ((q:Int)<(ds.length:Int)):=by omega
    rw[List.take_of_length_le (by omega)]
    replace hFw:=hide hFw
    replace hFb:=hide hFb
    go_wp2_with fail
    try go_ret
    rw[hPOST.out,hnd.out]
    exact⟨rfl,hFw.out⟩
open Go.RowKit
mutual
def byT:DT→ByteArray
 | .mk k n tx ks ds=>
  if k=116 then bts [n.toNat]
  else if k=105∨k=108∨k=101 then wholeB n
  else if k=115 then wholeB tx.size++tx
  else if k=102 then tx
  else (if k=40 then wholeB n else if k=91∨k=123 then wholeB ds.length else noB)++byTs (k==123) ks ds
def byTs (keyed:Bool):List ByteArray→List DT→ByteArray
 | _,[]=>noB
 | ks,d::r=>((if keyed=true then wholeB (ks.headD noB).size++ks.headD noB else noB)++byT d)++byTs keyed ks.tail r
end
def kdOK (k:Nat):Prop:=k=110∨k=116∨k=105∨k=108∨k=115∨k=91∨k=123∨k=40∨k=114∨k=101∨k=102
mutual
def okD:DT→Prop
 | .mk k n tx ks ds=>(-9223372036854775808≤n∧n≤9223372036854775807∧kdOK k)∧(k=116→0≤n∧n≤1)∧tx.size≤4000∧(∀ x∈ks,x.size≤4000)∧(k=123→ks.length=ds.length)∧okDs ds
def okDs:List DT→Prop
 | []=>True
 | d::r=>okD d∧okDs r
end
theorem okDs_at:∀ {ds:List DT},okDs ds→∀ d∈ds,okD d
 | [],_,d,h=>by cases h
 | a::r,h,d,hd=>by
  unfold okDs at h
  rcases List.mem_cons.1 hd with rfl|hd
  ·exact h.1
  ·exact okDs_at h.2 d hd
theorem noB_app (b:ByteArray):noB++b=b:=by apply ByteArray.ext;simp[noB]
theorem app_noB (b:ByteArray):b++noB=b:=by apply ByteArray.ext;simp[noB]
def itB (keyed:Bool) (k:ByteArray) (d:DT):ByteArray:=(if keyed=true then wholeB k.size++k else noB)++byT d
theorem byTs_take (keyed:Bool):∀ (ds:List DT) (ks:List ByteArray) (q:Nat) (d:DT),ds[q]?=some d→byTs keyed ks (ds.take (q+1))=byTs keyed ks (ds.take q)++itB keyed (ks.getD q noB) d
 | [],ks,q,d,h=>by simp at h
 | a::r,ks,0,d,h=>by
  simp only[List.getElem?_cons_zero,Option.some.injEq] at h
  subst h
  simp only[List.take_succ_cons,List.take_zero,byTs,itB,noB_app,app_noB]
  cases ks <;> rfl
 | a::r,ks,q+1,d,h=>by
  simp only[List.getElem?_cons_succ] at h
  have e:=byTs_take keyed r ks.tail q d h
  have e2:ks.tail.getD q noB=ks.getD (q+1) noB:=by cases ks <;> simp
  simp only[List.take_succ_cons,byTs]
  rw[e,e2]
  simp only[ByteArray.append_assoc]
mutual
theorem byT_size:∀ d:DT,okD d→(byT d).size+4011≤8022*ndT d
 | .mk k n tx ks ds,h=>by
  unfold okD at h
  have h1:=wholeB_size n
  have h2:=wholeB_size tx.size
  have h3:=wholeB_size ds.length
  have h4:=byTs_size (k==123) ks ds h.2.2.2.1 h.2.2.2.2.2
  unfold byT ndT
  split
  ·rw[bts_size];simp only[List.length_singleton];omega
  ·split
   ·omega
   ·split
    ·rw[ByteArray.size_append];omega
    ·split
     ·omega
     ·rw[ByteArray.size_append]
      have h5:(if k=40 then wholeB n else if k=91∨k=123 then wholeB ds.length else noB).size≤11:=by
       split
       ·exact h1
       ·split
        ·exact h3
        ·show(0:Nat)≤11;omega
      omega
theorem byTs_size (keyed:Bool):∀ (ks:List ByteArray) (ds:List DT),(∀ x∈ks,x.size≤4000)→okDs ds→(byTs keyed ks ds).size≤8022*ndTs ds
 | _,[],_,_=>by unfold byTs;show(0:Nat)≤_;omega
 | ks,d::r,hk,h=>by
  unfold okDs at h
  have h1:=byT_size d h.1
  have h2:=byTs_size keyed ks.tail r (fun x hx=>hk x (List.mem_of_mem_tail hx)) h.2
  have h3:=wholeB_size (ks.headD noB).size
  have h4:(ks.headD noB).size≤4000:=by
   cases ks with
   | nil=>show(0:Nat)≤4000;omega
   | cons a t=>exact hk a (List.mem_cons_self ..)
  have h5:(if keyed=true then wholeB (ks.headD noB).size++ks.headD noB else noB).size≤4011:=by
   split
   ·rw[ByteArray.size_append];omega
   ·show(0:Nat)≤4011;omega
  unfold byTs ndTs
  rw[ByteArray.size_append,ByteArray.size_append]
  omega
end
end Go.Proofs.YtiifagiebikmdaaGreatDoor
