import Derived.Test.YthmjjpkjgjklmaaGreatDoorW24
import Derived.Test.YthmjjpkjgjklmaaGreatDoorA00
set_option maxHeartbeats 16000000
set_option maxRecDepth 100000
set_option linter.unusedSimpArgs false
namespace Go.Proofs.YthmjjpkjgjklmaaGreatDoor
open Go.RowKit
def kdD:DT->Nat
 | .mk k _ _ _ _=>k
section
variable {env:Nat->Option PB} {w:World} {P:Nat->Prop} {d:DT} {t:PT} {v:Value}
theorem DaV.leaf (h:DaV env w P d t v) (h1:kdD d≠40) (h2:kdD d≠91) (h3:kdD d≠114) (h4:kdD d≠123):zbi d v:=by
 cases h with
 | flat h hs=>exact h
 | branch n h hd=>exact absurd rfl h1
 | row Y hc ho hP hd=>
  rcases hc with⟨rfl,_⟩|⟨rfl,_⟩
  ·exact absurd rfl h2
  ·exact absurd rfl h3
 | map Y hl hk ho hP hd=>exact absurd rfl h4
theorem zbi.nosym (h:zbi d v) (hk:kdD d≠101) (n l:Nat):v≠.iface 189 (.agg #[.int .u8 (l:Int),.int .i64 (n:Int)]):=by
 intro e
 cases h with
 | sym n' l' h=>exact hk rfl
 | nothing=>simp only[Value.iface.injEq] at e;exact absurd e.1 (by decide)
 | truth b=>simp only[Value.iface.injEq] at e;exact absurd e.1 (by decide)
 | num c n hc h0 h1=>simp only[Value.iface.injEq] at e;exact absurd e.1 (by decide)
 | text tx h=>simp only[Value.iface.injEq] at e;exact absurd e.1 (by decide)
 | bytes tx h=>simp only[Value.iface.injEq] at e;exact absurd e.1 (by decide)
theorem zbi.long (h:zbi d v){n:Int}(hd:d=.mk 105 n noB [] []):zbi (.mk 108 n noB [] []) v:=by
 cases h with
 | num c n' hc h0 h1=>
  simp only[DT.mk.injEq,and_true] at hd;obtain⟨_,rfl⟩:=hd;exact .num 108 _ (.inr rfl) h0 h1
 | sym n' l' h=>simp[DT.mk.injEq] at hd
 | nothing=>simp[DT.mk.injEq] at hd
 | truth b=>simp[DT.mk.injEq] at hd
 | text tx h=>simp[DT.mk.injEq] at hd
 | bytes tx h=>simp[DT.mk.injEq] at hd
theorem DaV.sym_inv (h:DaV env w P d t v){n:Nat}(hd:d=.mk 101 (n:Int) noB [] []):∃ l:Nat,v=.iface 189 (.agg #[.int .u8 (l:Int),.int .i64 (n:Int)])/\symL env t n=l/\l<256:=by
 have hf:zbi d v:=h.leaf (by rw[hd];simp[kdD]) (by rw[hd];simp[kdD]) (by rw[hd];simp[kdD]) (by rw[hd];simp[kdD])
 obtain⟨l,rfl⟩:∃ l:Nat,v=.iface 189 (.agg #[.int .u8 (l:Int),.int .i64 (n:Int)]):=by
  cases hf with
  | sym n' l' h=>
   simp only[DT.mk.injEq,true_and,and_true] at hd
   obtain rfl:n'=n:=by omega
   exact⟨l',rfl⟩
  | num c n' hc h0 h1=>
   simp only[DT.mk.injEq] at hd;omega
  | nothing=>simp[DT.mk.injEq] at hd
  | truth b=>simp[DT.mk.injEq] at hd
  | text tx h=>simp[DT.mk.injEq] at hd
  | bytes tx h=>simp[DT.mk.injEq] at hd
 generalize hv:Value.iface 189 (.agg #[.int .u8 (l:Int),.int .i64 (n:Int)])=vv at h
 cases h with
 | flat h hs=>exact⟨l,hv.symm,hs n l hv.symm⟩
 | branch n' h hd'=>simp only[Value.iface.injEq] at hv;exact absurd hv.1 (by decide)
 | row Y hc ho hP hd'=>
  simp only[Value.iface.injEq] at hv
  rcases hc with⟨_,h⟩|⟨_,h⟩<;>exact absurd (hv.1.trans h) (by decide)
 | map Y hl hk ho hP hd'=>simp only[Value.iface.injEq] at hv;exact absurd hv.1 (by decide)
theorem DaV.branch_inv (h:DaV env w P d t v){n:Nat}{d1:DT}(hd:d=.mk 40 (n:Int) noB [] [d1]):n<=4000/\∃ v1,v=.iface 175 (.agg #[.int .i64 (n:Int),v1])/\DaV env w P d1 (yb_ env t n 0) v1:=by
 cases h with
 | flat h hs=>
  cases h with
  | num c n' hc h0 h1=>simp only[DT.mk.injEq] at hd;omega
  | sym n' l' h=>simp[DT.mk.injEq] at hd
  | nothing=>simp[DT.mk.injEq] at hd
  | truth b=>simp[DT.mk.injEq] at hd
  | text tx h=>simp[DT.mk.injEq] at hd
  | bytes tx h=>simp[DT.mk.injEq] at hd
 | branch n' h hd'=>
  simp only[DT.mk.injEq,true_and,and_true,List.cons.injEq] at hd;obtain⟨h1,rfl⟩:=hd
  obtain rfl:n'=n:=by omega
  exact⟨h,_,rfl,hd'⟩
 | row Y hc ho hP hd'=>
  simp only[DT.mk.injEq] at hd
  rcases hc with⟨h,_⟩|⟨h,_⟩<;>omega
 | map Y hl hk ho hP hd'=>simp[DT.mk.injEq] at hd
theorem DaV.row_inv (h:DaV env w P d t v){c:Nat}{ds:List DT}(hd:d=.mk c 0 noB [] ds) (hc:c=91\/c=114):∃ (lv:Value) (Y:Nat->Value),v=.iface (if c=91 then 169 else 176) lv/\w.ownsRow 0 94 1 lv ds.length ((List.range ds.length).flatMap λ i=>[Y i])/\∀ i d,ds[i]?=some d->DaV env w P d (yb_ env t 0 i) (Y i):=by
 cases h with
 | flat h hs=>
  cases h with
  | num c n' hc h0 h1=>simp only[DT.mk.injEq] at hd;omega
  | sym n' l' h=>simp only[DT.mk.injEq] at hd;omega
  | nothing=>simp only[DT.mk.injEq] at hd;omega
  | truth b=>simp only[DT.mk.injEq] at hd;omega
  | text tx h=>simp only[DT.mk.injEq] at hd;omega
  | bytes tx h=>simp only[DT.mk.injEq] at hd;omega
 | branch n' h hd'=>simp only[DT.mk.injEq] at hd;omega
 | row Y hc' ho hP hd'=>
  simp only[DT.mk.injEq,true_and] at hd;obtain⟨rfl,rfl⟩:=hd;refine⟨_,Y,?_,ho,hd'⟩
  rcases hc' with⟨rfl,rfl⟩|⟨rfl,rfl⟩
  ·rw[if_pos rfl]
  ·rw[if_neg (by decide)]
 | map Y hl hk ho hP hd'=>simp only[DT.mk.injEq] at hd;omega
theorem DaV.map_inv (h:DaV env w P d t v){ks:List BA}{ds:List DT}(hd:d=.mk 123 0 noB ks ds):∃ (lv:Value) (Y:Nat->Value),v=.iface 171 lv/\ks.length=ds.length/\(∀ k∈ks,k.size<=4000)/\w.ownsRow 0 173 2 lv ds.length ((List.range ds.length).flatMap λ i=>[.string (ks.getD i noB),Y i])/\∀ i d,ds[i]?=some d->DaV env w P d (yb_ env t 0 i) (Y i):=by
 cases h with
 | flat h hs=>
  cases h with
  | num c n' hc h0 h1=>simp only[DT.mk.injEq] at hd;omega
  | sym n' l' h=>simp only[DT.mk.injEq] at hd;omega
  | nothing=>simp only[DT.mk.injEq] at hd;omega
  | truth b=>simp only[DT.mk.injEq] at hd;omega
  | text tx h=>simp only[DT.mk.injEq] at hd;omega
  | bytes tx h=>simp only[DT.mk.injEq] at hd;omega
 | branch n' h hd'=>simp only[DT.mk.injEq] at hd;omega
 | row Y hc' ho hP hd'=>
  simp only[DT.mk.injEq] at hd
  rcases hc' with⟨h,_⟩|⟨h,_⟩<;>omega
 | map Y hl hk ho hP hd'=>
  simp only[DT.mk.injEq,true_and] at hd;obtain⟨rfl,rfl⟩:=hd;exact⟨_,Y,rfl,hl,hk,ho,hd'⟩
end
end Go.Proofs.YthmjjpkjgjklmaaGreatDoor
