import Derived.Test.YthmjjpkjgjklmaaGreatDoorW12
import Derived.Test.YthmjjpkjgjklmaaGreatDoorW20
import Derived.Test.YthmjjpkjgjklmaaGreatDoorW11
import Derived.Test.YthmjjpkjgjklmaaGreatDoorA00
set_option maxHeartbeats 16000000
set_option maxRecDepth 100000
set_option linter.unusedSimpArgs false
namespace Go.Proofs.YthmjjpkjgjklmaaGreatDoor
open Go.RowKit
variable {c:Nat}
inductive DaV (env:Nat->Option PB) (w:World) (P:Nat->Prop):DT->PT->Value->Prop
 | flat {d:DT} {t:PT} {v:Value} (h:zbi d v) (hs:∀ n l:Nat,v=.iface 189 (.agg #[.int .u8 (l:Int),.int .i64 (n:Int)])->symL env t n=l/\l<256):DaV env w P d t v
 | branch (n:Nat) (h:n<=4000) {d:DT} {t:PT} {v:Value} (hd:DaV env w P d (yb_ env t n 0) v):DaV env w P (.mk 40 (n:Int) noB [] [d]) t (.iface 175 (.agg #[.int .i64 (n:Int),v]))
 | row {c:Nat} {T:TypeId} {ds:List DT} {t:PT} {lv:Value} (Y:Nat->Value) (hc:(c=91/\T=169)\/(c=114/\T=176)) (ho:w.ownsRow 0 94 1 lv ds.length ((List.range ds.length).flatMap λ i=>[Y i])) (hP:∀ g,lv.ownBlock=some g->P g)
  (hd:∀ i d,ds[i]?=some d->DaV env w P d (yb_ env t 0 i) (Y i)):DaV env w P (.mk c 0 noB [] ds) t (.iface T lv)
 | map {ks:List BA} {ds:List DT} {t:PT} {lv:Value} (Y:Nat->Value) (hl:ks.length=ds.length) (hk:∀ k∈ks,k.size<=4000) (ho:w.ownsRow 0 173 2 lv ds.length ((List.range ds.length).flatMap λ i=>[.string (ks.getD i noB),Y i])) (hP:∀ g,lv.ownBlock=some g->P g)
  (hd:∀ i d,ds[i]?=some d->DaV env w P d (yb_ env t 0 i) (Y i)):DaV env w P (.mk 123 0 noB ks ds) t (.iface 171 lv)
section
variable {env:Nat->Option PB} {w w':World} {P Q S:Nat->Prop} {d:DT} {t:PT} {v:Value}
theorem DaV.mono (h:DaV env w P d t v) (hQ:∀ g,g<w.heap.size->P g->Q g):DaV env w Q d t v:=by
 induction h with
 | flat h hs=>exact .flat h hs
 | branch n h hd ih=>exact .branch n h ih
 | row Y hc ho hP hd ih=>exact .row Y hc ho (λ g e=>hQ g (ho.lt g e).2 (hP g e)) ih
 | map Y hl hk ho hP hd ih=>exact .map Y hl hk ho (λ g e=>hQ g (ho.lt g e).2 (hP g e)) ih
theorem DaV.fr (h:DaV env w P d t v) (hf:Fr w w' S) (hS:∀ g,P g->¬ S g):DaV env w' P d t v:=by
 induction h with
 | flat h hs=>exact .flat h hs
 | branch n h hd ih=>exact .branch n h ih
 | row Y hc ho hP hd ih=>exact .row Y hc (zb_ ho hf (λ g e=>hS g (hP g e))) hP ih
 | map Y hl hk ho hP hd ih=>exact .map Y hl hk (zb_ ho hf (λ g e=>hS g (hP g e))) hP ih
theorem DaV.dat (h:DaV env w P d t v):DatV w P d v:=by
 induction h with
 | flat h hs=>exact .flat h
 | branch n h hd ih=>exact .branch n h ih
 | row Y hc ho hP hd ih=>exact .row Y hc ho hP ih
 | map Y hl hk ho hP hd ih=>exact .map Y hl hk ho hP ih
theorem DaV.iface (h:DaV env w P d t v):∃ T x,v=.iface T x:=h.dat.iface
theorem DaV.plain {T:TypeId}{x:Value}(h:zbi d (.iface T x)) (hT:T≠189):DaV env w P d t (.iface T x):=.flat h (λ n l e=>by cases e;exact absurd rfl hT)
end
def RowT (env:Nat->Option PB) (w:World) (B:Nat) (P:Nat->Prop) (t:PT) (lv:Value) (ds:List DT):Prop:=
 ∃ Y:Nat->Value,w.ownsRow B 94 1 lv ds.length ((List.range ds.length).flatMap λ i=>[Y i])/\∀ i d,ds[i]?=some d->DaV env w P d (yb_ env t 0 i) (Y i)
theorem zfd {α:Type}{l:List α}{a x:α}{i:Nat}(h:(l++[a])[i]?=some x):(i<l.length/\l[i]?=some x)\/(i=l.length/\x=a):=by
 by_cases hi:i<l.length
 ·rw[av_ hi] at h;exact .inl ⟨hi,h⟩
 ·rw[aw_ (by omega)] at h
  have h0:i-l.length=0:=by
   rcases bw_ (i-l.length) with e|e
   ·exact e
   ·rw[bm_ (by simp;omega)] at h;cases h
  rw[h0] at h;simp only[aa_,ad_] at h;exact .inr ⟨by omega,h.symm⟩
section
variable {env:Nat->Option PB} {w w':World} {B:Nat} {P Q S:Nat->Prop} {t:PT} {lv:Value} {ds:List DT}
theorem RowT.nil (env:Nat->Option PB) (w:World) (B:Nat) (P:Nat->Prop) (t:PT):RowT env w B P t (.slice none 0 0) []:=⟨λ _=>.nilIface,World.ownsRow_nil _ _ _ _,λ i d h=>by simp at h⟩
theorem RowT.fr (h:RowT env w B P t lv ds) (hf:Fr w w' S) (hS:∀ g,P g->¬ S g) (hv:∀ g,lv.ownBlock=some g->¬ S g):RowT env w' B P t lv ds:=by
 obtain⟨Y,a,b⟩:=h;exact⟨Y,zb_ a hf hv,λ i d e=>(b i d e).fr hf hS⟩
theorem RowT.row (h:RowT env w B P t lv ds):∃ ys,w.ownsRow B 94 1 lv ds.length ys:=by
 obtain⟨Y,a,_⟩:=h;exact⟨_,a⟩
theorem RowT.grow {w1 w6:World}{lv v5 v:Value}{d:DT}{Y:Nat->Value}(hY:∀ i d,ds[i]?=some d->DaV env w1 (λ g=>B<=g/\lv.ownBlock≠some g) d (yb_ env t 0 i) (Y i)) (hd:DaV env w1 (λ g=>B<=g/\lv.ownBlock≠some g) d (yb_ env t 0 ds.length) v) (hf:Fr w1 w6 (λ g=>lv.ownBlock=some g\/g=c)) (hc:c<B)
 (hl:v5.ownBlock=lv.ownBlock\/∃ h,v5.ownBlock=some h/\w1.heap.size<=h) (ho:w6.ownsRow B 94 1 v5 (ds.length+1) (((List.range ds.length).flatMap λ i=>[Y i])++[v])):RowT env w6 B (λ g=>B<=g/\v5.ownBlock≠some g) t v5 (ds++[d]):=by
 have up:∀ {d u v},DaV env w1 (λ g=>B<=g/\lv.ownBlock≠some g) d u v->DaV env w6 (λ g=>B<=g/\v5.ownBlock≠some g) d u v:=λ h=>by
  have h1:DaV env w1 (λ g=>(B<=g/\lv.ownBlock≠some g)/\g<w1.heap.size) _ _ _:=h.mono (λ g h1 h2=>⟨h2,h1⟩);refine(h1.fr hf (λ g hg e=>?_)).mono (λ g _ hg=>⟨hg.1.1,λ e=>?_⟩)
  ·rcases e with e|e
   ·exact hg.1.2 e
   ·have:=hg.1.1;omega
  ·rcases hl with h|⟨q,h,hq⟩
   ·exact hg.1.2 (h▸e)
   ·rw[h] at e;have:=hg.2;simp only[ad_] at e;omega
 refine⟨λ i=>if i<ds.length then Y i else v,?_,λ i e he=>?_⟩
 ·rw[al_,ai_,bi_,a5_,z2_ ds.length _ (λ i=>[Y i]) (λ i hi=>by simp[hi])]
  simpa using ho
 ·rcases zfd he with⟨hi,he⟩|⟨rfl,rfl⟩
  ·simp only[hi,if_true];exact up (hY i e he)
  ·simp only[by_,if_false];exact up hd
theorem RowT.dat (h:RowT env w B P t lv ds) (hP:∀ g,g<w.heap.size->P g->Q g) (h2:∀ g,lv.ownBlock=some g->Q g){T:TypeId}(hc:(c=91/\T=169)\/(c=114/\T=176)):DaV env w Q (.mk c 0 noB [] ds) t (.iface T lv):=by
 obtain⟨Y,a,b⟩:=h;exact .row Y hc (vm_ a) h2 (λ i d e=>(b i d e).mono hP)
end
def RowE (env:Nat->Option PB) (w:World) (P:Nat->Prop) (t:PT) (es:List (BA×DT)) (ys:List Value):Prop:=
 ∃ Y:Nat->Value,(ys=(List.range es.length).flatMap λ i=>[.string ((es.map Prod.fst).getD i noB),Y i])/\(∀ i e,es[i]?=some e->DaV env w P e.2 (yb_ env t 0 i) (Y i))/\∀ e∈es,e.1.size<=4000
section
variable {env:Nat->Option PB} {w w':World} {B:Nat} {P Q S:Nat->Prop} {t:PT} {es:List (BA×DT)} {ys:List Value}
theorem RowE.nil (env:Nat->Option PB) (w:World) (P:Nat->Prop) (t:PT):RowE env w P t [] []:=⟨λ _=>.nilIface,rfl,λ i d h=>by simp at h,λ e h=>by simp at h⟩
theorem RowE.fr (h:RowE env w P t es ys) (hf:Fr w w' S) (hS:∀ g,P g->¬ S g):RowE env w' P t es ys:=by
 obtain⟨Y,a,b,c⟩:=h;exact⟨Y,a,λ i d e=>(b i d e).fr hf hS,c⟩
theorem RowE.grow {w1 w6:World}{lv v5 v:Value}{key:BA}{d:DT}(h:RowE env w1 (λ g=>B<=g/\lv.ownBlock≠some g) t es ys) (hd:DaV env w1 (λ g=>B<=g/\lv.ownBlock≠some g) d (yb_ env t 0 es.length) v) (hk:key.size<=4000) (hf:Fr w1 w6 (λ g=>lv.ownBlock=some g\/g=c)) (hc:c<B)
 (hl:v5.ownBlock=lv.ownBlock\/∃ h,v5.ownBlock=some h/\w1.heap.size<=h):RowE env w6 (λ g=>B<=g/\v5.ownBlock≠some g) t (es++[(key,d)]) (ys++[.string key,v]):=by
 obtain⟨Y,a,b,k⟩:=h
 have up:∀ {d u v},DaV env w1 (λ g=>B<=g/\lv.ownBlock≠some g) d u v->DaV env w6 (λ g=>B<=g/\v5.ownBlock≠some g) d u v:=λ h=>by
  have h1:DaV env w1 (λ g=>(B<=g/\lv.ownBlock≠some g)/\g<w1.heap.size) _ _ _:=h.mono (λ g h1 h2=>⟨h2,h1⟩);refine(h1.fr hf (λ g hg e=>?_)).mono (λ g _ hg=>⟨hg.1.1,λ e=>?_⟩)
  ·rcases e with e|e
   ·exact hg.1.2 e
   ·have:=hg.1.1;omega
  ·rcases hl with h|⟨q,h,hq⟩
   ·exact hg.1.2 (h▸e)
   ·rw[h] at e;have:=hg.2;simp only[ad_] at e;omega
 refine⟨λ i=>if i<es.length then Y i else v,?_,λ i e he=>?_,λ e he=>?_⟩
 ·have hc2:=z2_ es.length (λ i=>[Value.string (((es++[(key,d)]).map Prod.fst).getD i noB),if i<es.length then Y i else v]) (λ i=>[Value.string ((es.map Prod.fst).getD i noB),Y i]) (λ i hi=>by
   simp only[bq_,aq_]
   rw[av_ (by simpa using hi),if_pos hi])
  rw[a,al_,ai_,bi_,a5_,hc2]
  simp[aq_]
 ·rcases zfd he with⟨hi,he⟩|⟨rfl,rfl⟩
  ·simp only[hi,if_true];exact up (b i e he)
  ·simp only[by_,if_false];exact up hd
 ·rcases bj_.1 he with h|h
  ·exact k e h
  ·simp only[a6_] at h;subst h;exact hk
theorem RowE.dat {lv:Value}(h:RowE env w P t es ys) (ho:w.ownsRow B 173 2 lv es.length ys) (hP:∀ g,g<w.heap.size->P g->Q g) (h2:∀ g,lv.ownBlock=some g->Q g):DaV env w Q (.mk 123 0 noB (es.map Prod.fst) (es.map Prod.snd)) t (.iface 171 lv):=by
 obtain⟨Y,a,b,k⟩:=h;subst a;refine .map Y (by simp) (λ x hx=>?_) (by rw[List.length_map];exact vm_ ho) h2 (λ i d e=>?_)
 ·obtain⟨e,he,rfl⟩:=bk_.1 hx;exact k e he
 ·rw[a4_] at e;obtain⟨q,hq,rfl⟩:=b9_.1 e;exact(b i q hq).mono hP
end
end Go.Proofs.YthmjjpkjgjklmaaGreatDoor
