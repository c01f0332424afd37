import Derived.Test.YthmjjpkjgjklmaaGreatDoorW05
import Derived.Test.YthmjjpkjgjklmaaGreatDoorW10
import Derived.Lib.ItoaLen
import Derived.Test.YthmjjpkjgjklmaaGreatDoorA00
set_option maxHeartbeats 16000000
set_option maxRecDepth 100000
set_option linter.unusedSimpArgs false
namespace Go.Proofs.YthmjjpkjgjklmaaGreatDoor
open Go.RowKit
def decB (n:Int):BA:=⟨(Lib.itoa n).toArray⟩
theorem zlo {n:Int}(h0 : -9223372036854775808<=n) (h1:n<=9223372036854775807):(decB n).size<=21:=by
 unfold decB;show(Lib.itoa n).toArray.size<=21;rw[List.size_toArray];exact Lib.itoa_length_le n h0 h1
def jn:Nat->List BA->BA
 | _,[]=>noB
 | i,a::r=>(if i=0 then noB else bts [44])++(a++jn (i+1) r)
theorem zdi (a:BA):a++noB=a:=by apply br_;simp[noB]
theorem ze7 (a:BA):noB++a=a:=by apply br_;simp[noB]
theorem ztj:∀ (l:List BA) (i:Nat) (a:BA),jn i (l++[a])=jn i l++((if i+l.length=0 then noB else bts [44])++a)
 | [],i,a=>by simp only[bp_,jn,zdi,ze7,ax_,a7_]
 | b::r,i,a=>by
  simp only[bn_,jn,ar_]
  have e:i+(r.length+1)=i+1+r.length:=by omega
  rw[ztj r (i+1) a];simp only[e,bb_]
def yb_ (env:Nat->Option PB) (t:PT) (n i:Nat):PT:=
 match t with
 | .wrap _ _ u=>u
 | .alts _ ts=>ts.getD n (.leaf 0 0)
 | .leaf c _=>match env c with|some (.recd fs)=>(fs.map PF.ty).getD i (.leaf 0 0)|_=>.leaf 0 0
def symL (env:Nat->Option PB) (t:PT) (n:Nat):Nat:=
 match t with
 | .leaf c _=>match env c with|some (.enum l _)=>(l.map Prod.fst).getD n 0|_=>0
 | _=>0
def zgq (k:Nat) (b:BA):BA:=if k=91 then bts [91]++(b++bts [93]) else if k=123 then bts [123]++(b++bts [125]) else bts [40]++(b++bts [41])
mutual
def txT (env:Nat->Option PB):DT->PT->BA
 | .mk k n tx ks ds,t=>
  if k=110 then bts [78]
  else if k=116 then (if n=1 then bts [84] else bts [70])
  else if k=105\/k=108 then decB n
  else if k=115 then bts [34]++(tx++bts [34])
  else if k=102 then bts [39]++(tx++bts [39])
  else if k=101 then bts [symL env t n.toNat]
  else if k=40 then bts [60]++(decB n++(bts [58]++(jn 0 (txTs env t n.toNat 0 false ks ds)++bts [62])))
  else zgq k (jn 0 (txTs env t n.toNat 0 (k==123) ks ds))
def txTs (env:Nat->Option PB) (t:PT) (n:Nat):Nat->Bool->List BA->List DT->List BA
 | _,_,_,[]=>[]
 | i,keyed,ks,d::r=>((if keyed=true then ks.headD noB++bts [58] else noB)++txT env d (yb_ env t n i))::txTs env t n (i+1) keyed ks.tail r
end
theorem zco (env:Nat->Option PB) (t:PT) (n:Nat):∀ (ds:List DT) (i:Nat) (keyed:Bool) (ks:List BA),(txTs env t n i keyed ks ds).length=ds.length
 | [],_,_,_=>by simp[txTs]
 | d::r,i,keyed,ks=>by simp only[txTs,ar_,zco env t n r]
def itT (env:Nat->Option PB) (t:PT) (n:Nat) (keyed:Bool) (ks:List BA) (q:Nat) (d:DT):BA:=(if keyed=true then ks.getD q noB++bts [58] else noB)++txT env d (yb_ env t n q)
theorem zoa (env:Nat->Option PB) (t:PT) (n:Nat):∀ (ds:List DT) (i:Nat) (keyed:Bool) (ks:List BA) (q:Nat) (d:DT),ds[q]?=some d->(txTs env t n i keyed ks ds)[q]?=some ((if keyed=true then ks.getD q noB++bts [58] else noB)++txT env d (yb_ env t n (i+q)))
 | [],i,keyed,ks,q,d,h=>by simp at h
 | e::r,i,keyed,ks,0,d,h=>by
  simp only[aa_,ad_] at h;subst h;simp only[txTs,aa_,a7_];cases ks<;>rfl
 | e::r,i,keyed,ks,q+1,d,h=>by
  simp only[ac_] at h;simp only[txTs,ac_];rw[zoa env t n r (i+1) keyed ks.tail q d h,show i+1+q=i+(q+1) by omega]
  cases ks with
  | nil=>simp
  | cons a l=>simp
def upT (env:Nat->Option PB) (t:PT) (n:Nat) (keyed:Bool) (ks:List BA) (ds:List DT) (q:Nat):BA:=jn 0 ((txTs env t n 0 keyed ks ds).take q)
theorem zn8 {env:Nat->Option PB}{t:PT}{n:Nat}{keyed:Bool}{ks:List BA}{ds:List DT}{q:Nat}{d:DT}(h:ds[q]?=some d) :
 upT env t n keyed ks ds (q+1)=upT env t n keyed ks ds q++((if q=0 then noB else bts [44])++itT env t n keyed ks q d):=by
 have hq:q<ds.length:=(ao_.1 h).1;unfold upT;rw[ba_,zoa env t n ds 0 keyed ks q d h];simp only[Option.toList_some];rw[ztj,b3_,zco,show 0+min q ds.length=q by omega,show 0+q=q by omega]
 rfl
theorem zn7 (env:Nat->Option PB) (t:PT) (n:Nat) (keyed:Bool) (ks:List BA) (ds:List DT):upT env t n keyed ks ds 0=noB:=by unfold upT;rw[List.take_zero];rfl
theorem zrm {env:Nat->Option PB}{t:PT}{n:Nat}{keyed:Bool}{ks:List BA}{ds:List DT}{q:Nat}(h:ds.length<=q):upT env t n keyed ks ds q=jn 0 (txTs env t n 0 keyed ks ds):=by
 unfold upT;rw[a3_ (by rw[zco];exact h)]
end Go.Proofs.YthmjjpkjgjklmaaGreatDoor
