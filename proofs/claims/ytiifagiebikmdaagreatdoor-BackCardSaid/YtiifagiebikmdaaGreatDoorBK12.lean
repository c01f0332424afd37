import Derived.Test.YtiifagiebikmdaaGreatDoorBK05
import Derived.Test.YtiifagiebikmdaaGreatDoorBK10
import Derived.Lib.ItoaLen
namespace Go.Proofs.YtiifagiebikmdaaGreatDoor
open Go.RowKit
def decB (n:Int):ByteArray:=⟨(Lib.itoa n).toArray⟩
theorem decB_size {n:Int}(h0 : -9223372036854775808≤n) (h1:n≤9223372036854775807):(decB n).size≤21:=by
 unfold decB
 show(Lib.itoa n).toArray.size≤21
 rw[List.size_toArray]
 exact Lib.itoa_length_le n h0 h1
def jn:Nat→List ByteArray→ByteArray
 | _,[]=>noB
 | i,a::r=>(if i=0 then noB else bts [44])++(a++jn (i+1) r)
theorem app_noB0 (a:ByteArray):a++noB=a:=by apply ByteArray.ext;simp[noB]
theorem noB_app0 (a:ByteArray):noB++a=a:=by apply ByteArray.ext;simp[noB]
theorem jn_snoc:∀ (l:List ByteArray) (i:Nat) (a:ByteArray),jn i (l++[a])=jn i l++((if i+l.length=0 then noB else bts [44])++a)
 | [],i,a=>by simp only[List.nil_append,jn,app_noB0,noB_app0,List.length_nil,Nat.add_zero]
 | b::r,i,a=>by
  simp only[List.cons_append,jn,List.length_cons]
  have e:i+(r.length+1)=i+1+r.length:=by omega
  rw[jn_snoc r (i+1) a]
  simp only[e,ByteArray.append_assoc]
def subTy (env:Nat→Option PB) (t:PT) (n i:Nat):PT:=
 match t with
 | .wrap _ _ u=>u
 | .alts _ ts=>ts.getD n (.leaf 0 0)
 | .leaf c _=>match env c with|some (.recd fs)=>(fs.map PF.ty).getD i (.leaf 0 0)|_=>.leaf 0 0
def symL (env:Nat→Option PB) (t:PT) (n:Nat):Nat:=
 match t with
 | .leaf c _=>match env c with|some (.enum l _)=>(l.map Prod.fst).getD n 0|_=>0
 | _=>0
def aroundB (k:Nat) (b:ByteArray):ByteArray:=if k=91 then bts [91]++(b++bts [93]) else if k=123 then bts [123]++(b++bts [125]) else bts [40]++(b++bts [41])
mutual
def txT (env:Nat→Option PB):DT→PT→ByteArray
 | .mk k n tx ks ds,t=>
  if k=110 then bts [78]
  else if k=116 then (if n=1 then bts [84] else bts [70])
  else if k=105∨k=108 then decB n
  else if k=115 then bts [34]++(tx++bts [34])
  else if k=102 then bts [39]++(tx++bts [39])
  else if k=101 then bts [symL env t n.toNat]
  else if k=40 then bts [60]++(decB n++(bts [58]++(jn 0 (txTs env t n.toNat 0 false ks ds)++bts [62])))
  else aroundB k (jn 0 (txTs env t n.toNat 0 (k==123) ks ds))
def txTs (env:Nat→Option PB) (t:PT) (n:Nat):Nat→Bool→List ByteArray→List DT→List ByteArray
 | _,_,_,[]=>[]
 | i,keyed,ks,d::r=>((if keyed=true then ks.headD noB++bts [58] else noB)++txT env d (subTy env t n i))::txTs env t n (i+1) keyed ks.tail r
end
theorem txTs_len (env:Nat→Option PB) (t:PT) (n:Nat):∀ (ds:List DT) (i:Nat) (keyed:Bool) (ks:List ByteArray),(txTs env t n i keyed ks ds).length=ds.length
 | [],_,_,_=>by simp[txTs]
 | d::r,i,keyed,ks=>by simp only[txTs,List.length_cons,txTs_len env t n r]
def itT (env:Nat→Option PB) (t:PT) (n:Nat) (keyed:Bool) (ks:List ByteArray) (q:Nat) (d:DT):ByteArray:=(if keyed=true then ks.getD q noB++bts [58] else noB)++txT env d (subTy env t n q)
theorem txTs_get (env:Nat→Option PB) (t:PT) (n:Nat):∀ (ds:List DT) (i:Nat) (keyed:Bool) (ks:List ByteArray) (q:Nat) (d:DT),ds[q]?=some d→(txTs env t n i keyed ks ds)[q]?=some ((if keyed=true then ks.getD q noB++bts [58] else noB)++txT env d (subTy env t n (i+q)))
 | [],i,keyed,ks,q,d,h=>by simp at h
 | e::r,i,keyed,ks,0,d,h=>by
  simp only[List.getElem?_cons_zero,Option.some.injEq] at h
  subst h
  simp only[txTs,List.getElem?_cons_zero,Nat.add_zero]
  cases ks <;> rfl
 | e::r,i,keyed,ks,q+1,d,h=>by
  simp only[List.getElem?_cons_succ] at h
  simp only[txTs,List.getElem?_cons_succ]
  rw[txTs_get env t n r (i+1) keyed ks.tail q d h,show i+1+q=i+(q+1) by omega]
  cases ks with
  | nil=>simp
  | cons a l=>simp
def upT (env:Nat→Option PB) (t:PT) (n:Nat) (keyed:Bool) (ks:List ByteArray) (ds:List DT) (q:Nat):ByteArray:=jn 0 ((txTs env t n 0 keyed ks ds).take q)
theorem upT_step {env:Nat→Option PB}{t:PT}{n:Nat}{keyed:Bool}{ks:List ByteArray}{ds:List DT}{q:Nat}{d:DT}(h:ds[q]?=some d) :
 upT env t n keyed ks ds (q+1)=upT env t n keyed ks ds q++((if q=0 then noB else bts [44])++itT env t n keyed ks q d):=by
 have hq:q<ds.length:=(List.getElem?_eq_some_iff.1 h).1
 unfold upT
 rw[List.take_add_one,txTs_get env t n ds 0 keyed ks q d h]
 simp only[Option.toList_some]
 rw[jn_snoc,List.length_take,txTs_len,show 0+min q ds.length=q by omega,show 0+q=q by omega]
 rfl
theorem upT_zero (env:Nat→Option PB) (t:PT) (n:Nat) (keyed:Bool) (ks:List ByteArray) (ds:List DT):upT env t n keyed ks ds 0=noB:=by unfold upT;rw[List.take_zero];rfl
theorem upT_all {env:Nat→Option PB}{t:PT}{n:Nat}{keyed:Bool}{ks:List ByteArray}{ds:List DT}{q:Nat}(h:ds.length≤q):upT env t n keyed ks ds q=jn 0 (txTs env t n 0 keyed ks ds):=by
 unfold upT
 rw[List.take_of_length_le (by rw[txTs_len];exact h)]
end Go.Proofs.YtiifagiebikmdaaGreatDoor
