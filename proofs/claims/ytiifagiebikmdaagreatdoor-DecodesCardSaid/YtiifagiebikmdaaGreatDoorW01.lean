import Derived.Test.YtiifagiebikmdaaGreatDoorRows
import Derived.WalkKit
import Derived.Maps.AppendAt
import Derived.Test.YtiifagiebikmdaaGreatDoorA00
set_option maxHeartbeats 16000000
set_option maxRecDepth 100000
set_option linter.unusedSimpArgs false
namespace Go.Proofs.YtiifagiebikmdaaGreatDoor
open Go.RowKit
variable {oi oj:Oper}{a:Act}{w:World}{listed:Array Bool}{fuel i:Nat}{v:Value}
section
variable {P:Program} {ops:Array Oper} {md:Region.Mode} {Q:Exit->Act->World->Prop} {C:World->Prop} {m:Nat}
def xv_ (P:Program) (md:Region.Mode) (ops:Array Oper) (m:Nat) (C:World->Prop) (Q:Exit->Act->World->Prop):Nat->Array Bool->Act->World->Prop
 | 0,listed,a,w=>(listed.getD m true=false->C w)/\Region.ready md ops listed=[]/\Q .normal a w
 | fuel+1,listed,a,w=>(listed.getD m true=false->C w)/\(Region.ready md ops listed=[]->Q .normal a w)/\
  ∀ i∈Region.ready md ops listed,wpOp P ops Q i (xv_ P md ops m C Q fuel (listed.setIfInBounds i true)) a w
theorem xv_.isIn:∀ {fuel:Nat}{listed:Array Bool}{a:Act}{w:World},xv_ P md ops m C Q fuel listed a w->listed.getD m true=false->C w
 | 0,_,_,_,h=>h.1
 | _+1,_,_,_,h=>h.1
theorem xv_.any:∀ (fuel:Nat) (listed:Array Bool) (a:Act) (w:World),xv_ P md ops m C Q fuel listed a w->wpAny P md ops Q fuel listed a w
 | 0,_,_,_,h=>h.2
 | fuel+1,listed,_,_,h=>⟨h.2.1,λ i c=>wpOp_mono (λ b w'=>xv_.any fuel (listed.setIfInBounds i true) b w') (h.2.2 i c)⟩
def j7_ (P:Program) (ops:Array Oper) (C:World->Prop) (o:Oper) (v:Value) (a:Act):Prop:=
 Region.wanted o (yielded ops a.tmps)=true/\∀ w,C w->(execOp a.eval o).run P w=.ok (.value v) w
theorem zvx (o:oi.apart ops oj=true) (p:∀ cs b,oi.op≠.select cs b) (q:∀ cs b,oj.op≠.select cs b)
 (n:∀ c a w,Q (.panic c) (a.put oi.dst v) w->Q (.panic c) a w) {K:Act->World->Prop} {a:Act} {w:World}
 (g:j7_ P ops C oi v a) (h:oj.wp P (a.put oi.dst v) w K Q):oj.wp P a w (λ k w'=>j7_ P ops C oi v k/\K (k.put oi.dst v) w') Q:=by
 obtain⟨h1,j,l⟩:=Oper.apart_spec o
 have keep:∀ (b:Act),j7_ P ops C oi v b->∀ u,j7_ P ops C oi v (b.put oj.dst u):=λ b hb u=>
  ⟨by rw[wanted_put oi b oj.dst u l];exact hb.1,λ x s=>by rw[execOp_put oi p b oj.dst u l];exact hb.2 x s⟩
 unfold Oper.wp at h⊢;rw[execOp_put oj q a oi.dst v h1] at h
 revert h
 generalize (execOp a.eval oj).run P w=r;intro h
 match r,h with
 | .ok (.value u) w',h=>exact⟨keep a g u,by rw[<- Act.put_comm a v u j];exact h⟩
 | .ok .skip w',h=>exact⟨keep a g _,by rw[<- Act.put_comm a v undef j];exact h⟩
 | .ok (.defer d) w',h=>exact⟨keep { a with defers:=d::a.defers } ⟨g.1,g.2⟩ _,by rw[<- Act.put_comm _ v undef j,<- Act.put_defers];exact h⟩
 | .ok (.enter f args) w',h=>
  refine Calls.mono h λ e t he=>?_
  match e,he with
  | .returned u,he=>exact⟨keep a g u,by rw[<- Act.put_comm a v u j];exact he⟩
  | .panicked c,he=>exact n _ _ _ he
  | .outgrown,he=>exact he
 | .ok (.row row args) w',h=>exact Rows.mono h λ u t he=>⟨keep a g u,by rw[<- Act.put_comm a v u j];exact he⟩
 | .halt (.panic u) w',h=>exact n _ _ _ h
theorem zi3 {j:Nat}(q:ops[j]?=some oj) (g:oi.apart ops oj=true) (k:∀ cs b,oi.op≠.select cs b) (l:∀ cs b,oj.op≠.select cs b)
 (p:∀ c a w,Q (.panic c) (a.put oi.dst v) w->Q (.panic c) a w) {K:Act->World->Prop} {a:Act} {w:World}
 (d:j7_ P ops C oi v a) (h:wpOp P ops Q j K (a.put oi.dst v) w):wpOp P ops Q j (λ e w'=>j7_ P ops C oi v e/\K (e.put oi.dst v) w') a w:=by
 obtain⟨h1,o,f⟩:=Oper.apart_spec g;unfold wpOp at h⊢;simp only[q] at h⊢;rw[wanted_put oj a oi.dst v h1] at h
 by_cases n:Region.wanted oj (yielded ops a.tmps)=true
 ·rw[if_pos n] at h⊢;refine h.imp (zvx g k l p d) (λ ⟨x,y⟩=>⟨?_,y⟩);unfold Oper.asks at x⊢;rw[execOp_put oj l a oi.dst v h1] at x;exact x
 ·rw[if_neg n] at h⊢;refine⟨⟨by rw[wanted_put oi a oj.dst undef f];exact d.1,λ x r=>by rw[execOp_put oi k a oj.dst undef f];exact d.2 x r⟩,?_⟩;rw[<- Act.put_comm a v undef o];exact h
theorem j7_.wpOp {o:Oper}(d:ops[i]?=some o) (b:j7_ P ops C o v a) (c:C w){K:Act->World->Prop}(h:K (a.put o.dst v) w):wpOp P ops Q i K a w:=by
 unfold Go.wpOp;simp only[d];rw[if_pos b.1];exact .inl (by unfold Oper.wp;rw[b.2 w c];exact h)
theorem jx_ (h:listed.getD i true=false):listed.getD i false≠true:=by
 rw[Array.getD_eq_getD_getElem?] at h⊢
 cases b:listed[i]? with
 | none=>decide
 | some x=>rw[b] at h;simp only[Option.getD_some] at h⊢;rw[h];decide
theorem zi4 {F:Oper}(s:ops[i]?=some oi) (R:ops[m]?=some F) (O:∃ e∈F.after,Region.binds md e=true/\e.on=i) (A:m≠i)
 (D:∀ (j:Nat) (o:Oper) cs b,ops[j]?=some o->o.op≠.select cs b) (I:∀ c a w,Q (.panic c) (a.put oi.dst v) w->Q (.panic c) a w) (fuel:Nat) :
 ∀ (listed:Array Bool) (a:Act) (w:World),listed.getD m true=false->
  (∀ j oj,ops[j]?=some oj->j≠i->listed.getD j true=false->(∀ e∈oj.after,Region.binds md e=true->e.on≠i)->oi.apart ops oj=true)->
  i∈Region.ready md ops listed->j7_ P ops C oi v a->
  xv_ P md ops m C Q fuel (listed.setIfInBounds i true) (a.put oi.dst v) w->xv_ P md ops m C Q (fuel+1) listed a w:=by
 induction fuel with
 | zero=>
  intro listed a w q _ n r f;have g:C w:=f.isIn (by rw[getD_set_ne true (Ne.symm A)];exact q);refine⟨λ _=>g,λ h=>absurd n (by rw[h];exact a9_),λ j p=>?_⟩
  by_cases d:j=i
  ·subst d;exact r.wpOp s g f
  ·have:=ready_mono p d;rw[f.2.1] at this;exact absurd this a9_
 | succ fuel ih=>
  intro listed a w q u n r f;have g:C w:=f.isIn (by rw[getD_set_ne true (Ne.symm A)];exact q);refine⟨λ _=>g,λ h=>absurd n (by rw[h];exact a9_),λ j p=>?_⟩
  by_cases d:j=i
  ·subst d;exact r.wpOp s g f
  ·obtain⟨z,oj,l,J⟩:=mem_ready.1 p;have L:=(mem_ready.1 n).1;have B:∀ e∈oj.after,Region.binds md e=true->e.on≠i:=λ e he hb K=>jx_ L (K▸J e he hb)
   have M:j≠m:=λ e=>by
    obtain⟨x,U,hb,T⟩:=O;rw[e,R] at l;obtain rfl:=Option.some.inj l;exact B x U hb T
   have H:=zi3 l (u j oj l d z B) (λ cs b=>D i oi cs b s) (λ cs b=>D j oj cs b l) I r (f.2.2 j (ready_mono p d));refine wpOp_mono (λ G w' t=>ih (listed.setIfInBounds j true) G w' (by rw[getD_set_ne true M];exact q) (λ k ok hk N E S=>?_) (ready_mono n (Ne.symm d)) t.1 ?_) H
   ·refine u k ok hk N ?_ S
    by_cases y:j=k
    ·subst y;exact z
    ·rw[getD_set_ne true y] at E;exact E
   ·rw[Array.setIfInBounds_comm _ _ d];exact t.2
def Region.mayFirst (md:Region.Mode) (ops:Array Oper) (listed:Array Bool) (m i:Nat):Bool:=
 Region.noSelect ops&&Region.free md ops listed i&&(Region.ready md ops listed).contains i && !(listed.getD m true)&&(m != i) &&
  match ops[m]? with
  | some om=>om.after.any λ e=>Region.binds md e&&e.on==i
  | none=>false
theorem zai (i:Nat)(v:Value)(g:ops[i]?=some oi)
 (b:Region.mayFirst md ops listed m i=true)
 (j:∀ c a w,Q (.panic c) (a.put oi.dst v) w->Q (.panic c) a w) (hg:Region.wanted oi (yielded ops a.tmps)=true) (o:∀ w,C w->(execOp a.eval oi).run P w=.ok (.value v) w)
 (h:xv_ P md ops m C Q fuel (listed.setIfInBounds i true) (a.put oi.dst v) w):xv_ P md ops m C Q (fuel+1) listed a w:=by
 simp only[Region.mayFirst,a1_,bne_iff_ne,Bool.not_eq_true'] at b;obtain⟨⟨⟨⟨⟨hs,b⟩,n⟩,k⟩,l⟩,d⟩:=b
 cases f:ops[m]? with
 | none=>rw[f] at d;exact absurd d Bool.false_ne_true
 | some om=>
  rw[f] at d;obtain⟨e,he,hb⟩:=Array.any_eq_true'.1 d;simp only[a1_,beq_iff_eq] at hb;exact zi4 g f ⟨e,he,hb⟩ l (Region.noSelect_spec hs) j fuel listed a w k (Region.free_spec g b) (by simpa using n) ⟨hg,o⟩ h
theorem ta_ (i:Nat)(e:ops[i]?=some oi)(b:(Region.mayFirst md ops listed m i && Region.wanted oi (yielded ops a.tmps))=true)(d:∀ c a w,Q (.panic c) (a.put oi.dst v) w->Q (.panic c) a w)(f:∀ w,C w->(execOp a.eval oi).run P w=.ok (.value v) w)(h:xv_ P md ops m C Q fuel (listed.setIfInBounds i true) (a.put oi.dst v) w):xv_ P md ops m C Q (fuel+1) listed a w:=by
 rw[Bool.and_eq_true] at b;exact zai i v e b.1 d b.2 f h
theorem tb_ (i:Nat)(e:ops[i]?=some oi)(d:Region.mayFirst md ops listed m i=true)(b:∀ c a w,Q (.panic c) (a.put oi.dst v) w->Q (.panic c) a w)(hg:Region.wanted oi (yielded ops a.tmps)=true)(f:∀ w,C w->(execOp a.eval oi).run P w=.ok (.value v) w)(h:xv_ P md ops m C Q fuel (listed.setIfInBounds i true) (a.put oi.dst v) w):xv_ P md ops m C Q (fuel+1) listed a w:=zai i v e d b hg f h
theorem ze_ (i:Nat)(f:ops[i]?=some oi) (b:Region.ready md ops listed=[i]) (e:listed.getD m true=false->C w)
 (h:∀ K:Act->World->Prop,(∀ c w',xv_ P md ops m C Q fuel (listed.setIfInBounds i true) c w'->K c w')->if Region.wanted oi (yielded ops a.tmps)=true then oi.wp P a w K Q else K (a.put oi.dst undef) w):xv_ P md ops m C Q (fuel+1) listed a w:=by
 refine⟨e,λ h0=>by rw[h0] at b;exact absurd b (by simp),λ j d=>?_⟩;rw[b] at d
 obtain rfl:j=i:=by simpa using d
 unfold wpOp;simp only[f];have:=h _ (λ _ _ h=>h);split
 ·rename_i hg;rw[if_pos hg] at this;exact .inl this
 ·rename_i hg;rw[if_neg hg] at this;exact this
theorem zq_ (d:Region.ready md ops listed=[]) (b:listed.getD m true=false->C w) (h:Q .normal a w):∀ fuel,xv_ P md ops m C Q fuel listed a w
 | 0=>⟨b,d,h⟩
 | _+1=>⟨b,λ _=>h,λ i c=>by rw[d] at c;exact absurd c a9_⟩
theorem zx_ {id:Nat}(m:Nat) (C:World->Prop) (b:P.follows .mixedOrders=true)
 (h:xv_ P .any ops m C Q ops.size (Array.replicate ops.size false) a w.drew):(Code.region id ops true).wp P Q a w:=wp_region_any b (xv_.any _ _ _ _ h)
end
open Go.RowKit
section
variable {P:Program} {ops:Array Oper} {md:Region.Mode} {Q:Exit->Act->World->Prop} {C:World->Prop} {m:Nat}
def zeq (ops:Array Oper) (o:Oper) (a:Act):Prop:=Region.wanted o (yielded ops a.tmps)=false
theorem zql (o:oi.apart ops oj=true) (p:∀ cs b,oj.op≠.select cs b)
 (l:∀ c a w,Q (.panic c) (a.put oi.dst undef) w->Q (.panic c) a w) {K:Act->World->Prop} {a:Act} {w:World}
 (j:zeq ops oi a) (h:oj.wp P (a.put oi.dst undef) w K Q):oj.wp P a w (λ k w'=>zeq ops oi k/\K (k.put oi.dst undef) w') Q:=by
 obtain⟨h1,g,n⟩:=Oper.apart_spec o
 have keep:∀ (b:Act),zeq ops oi b->∀ u,zeq ops oi (b.put oj.dst u):=λ b hb u=>by
  unfold zeq;rw[wanted_put oi b oj.dst u n];exact hb
 unfold Oper.wp at h⊢;rw[execOp_put oj p a oi.dst undef h1] at h
 revert h
 generalize (execOp a.eval oj).run P w=r;intro h
 match r,h with
 | .ok (.value u) w',h=>exact⟨keep a j u,by rw[<- Act.put_comm a undef u g];exact h⟩
 | .ok .skip w',h=>exact⟨keep a j _,by rw[<- Act.put_comm a undef undef g];exact h⟩
 | .ok (.defer d) w',h=>exact⟨keep { a with defers:=d::a.defers } j _,by rw[<- Act.put_comm _ undef undef g,<- Act.put_defers];exact h⟩
 | .ok (.enter f args) w',h=>
  refine Calls.mono h λ e q he=>?_
  match e,he with
  | .returned u,he=>exact⟨keep a j u,by rw[<- Act.put_comm a undef u g];exact he⟩
  | .panicked c,he=>exact l _ _ _ he
  | .outgrown,he=>exact he
 | .ok (.row row args) w',h=>exact Rows.mono h λ u q he=>⟨keep a j u,by rw[<- Act.put_comm a undef u g];exact he⟩
 | .halt (.panic u) w',h=>exact l _ _ _ h
theorem zfd {j:Nat}(p:ops[j]?=some oj) (e:oi.apart ops oj=true) (f:∀ cs b,oj.op≠.select cs b)
 (o:∀ c a w,Q (.panic c) (a.put oi.dst undef) w->Q (.panic c) a w) {K:Act->World->Prop} {a:Act} {w:World}
 (k:zeq ops oi a) (h:wpOp P ops Q j K (a.put oi.dst undef) w):wpOp P ops Q j (λ d w'=>zeq ops oi d/\K (d.put oi.dst undef) w') a w:=by
 obtain⟨h1,l,n⟩:=Oper.apart_spec e;unfold wpOp at h⊢;simp only[p] at h⊢;rw[wanted_put oj a oi.dst undef h1] at h
 by_cases g:Region.wanted oj (yielded ops a.tmps)=true
 ·rw[if_pos g] at h⊢;refine h.imp (zql e f o k) (λ ⟨x,y⟩=>⟨?_,y⟩);unfold Oper.asks at x⊢;rw[execOp_put oj f a oi.dst undef h1] at x;exact x
 ·rw[if_neg g] at h⊢;refine⟨by unfold zeq;rw[wanted_put oi a oj.dst undef n];exact k,?_⟩;rw[<- Act.put_comm a undef undef l];exact h
theorem zeq.wpOp {o:Oper}(b:ops[i]?=some o) (c:zeq ops o a){K:Act->World->Prop}(h:K (a.put o.dst undef) w):wpOp P ops Q i K a w:=by
 unfold Go.wpOp;simp only[b];rw[if_neg (by rw[show Region.wanted o (yielded ops a.tmps)=false from c];decide)];exact h
theorem zhj {E:Oper}(u:ops[i]?=some oi) (O:ops[m]?=some E) (N:∃ e∈E.after,Region.binds md e=true/\e.on=i) (A:m≠i)
 (T:∀ (j:Nat) (o:Oper) cs b,ops[j]?=some o->o.op≠.select cs b) (H:∀ c a w,Q (.panic c) (a.put oi.dst undef) w->Q (.panic c) a w) (fuel:Nat) :
 ∀ (listed:Array Bool) (a:Act) (w:World),listed.getD m true=false->
  (∀ j oj,ops[j]?=some oj->j≠i->listed.getD j true=false->(∀ e∈oj.after,Region.binds md e=true->e.on≠i)->oi.apart ops oj=true)->
  i∈Region.ready md ops listed->zeq ops oi a->
  xv_ P md ops m C Q fuel (listed.setIfInBounds i true) (a.put oi.dst undef) w->xv_ P md ops m C Q (fuel+1) listed a w:=by
 induction fuel with
 | zero=>
  intro listed a w p _ l q f;have r:C w:=f.isIn (by rw[getD_set_ne true (Ne.symm A)];exact p);refine⟨λ _=>r,λ h=>absurd l (by rw[h];exact a9_),λ j n=>?_⟩
  by_cases d:j=i
  ·subst d;exact q.wpOp u f
  ·have:=ready_mono n d;rw[f.2.1] at this;exact absurd this a9_
 | succ fuel ih=>
  intro listed a w p t l q f;have r:C w:=f.isIn (by rw[getD_set_ne true (Ne.symm A)];exact p);refine⟨λ _=>r,λ h=>absurd l (by rw[h];exact a9_),λ j n=>?_⟩
  by_cases d:j=i
  ·subst d;exact q.wpOp u f
  ·obtain⟨z,oj,g,I⟩:=mem_ready.1 n;have K:=(mem_ready.1 l).1;have B:∀ e∈oj.after,Region.binds md e=true->e.on≠i:=λ e he hb J=>jx_ K (J▸I e he hb)
   have L:j≠m:=λ e=>by
    obtain⟨x,U,hb,S⟩:=N;rw[e,O] at g;obtain rfl:=Option.some.inj g;exact B x U hb S
   have G:=zfd g (t j oj g d z B) (λ cs b=>T j oj cs b g) H q (f.2.2 j (ready_mono n d));refine wpOp_mono (λ F w' s=>ih (listed.setIfInBounds j true) F w' (by rw[getD_set_ne true L];exact p) (λ k ok hk M D R=>?_) (ready_mono l (Ne.symm d)) s.1 ?_) G
   ·refine t k ok hk M ?_ R
    by_cases y:j=k
    ·subst y;exact z
    ·rw[getD_set_ne true y] at D;exact D
   ·rw[Array.setIfInBounds_comm _ _ d];exact s.2
theorem va_ (i:Nat)(g:ops[i]?=some oi)
 (b:Region.mayFirst md ops listed m i=true)
 (j:∀ c a w,Q (.panic c) (a.put oi.dst undef) w->Q (.panic c) a w) (hg:Region.wanted oi (yielded ops a.tmps)=false)
 (h:xv_ P md ops m C Q fuel (listed.setIfInBounds i true) (a.put oi.dst undef) w):xv_ P md ops m C Q (fuel+1) listed a w:=by
 simp only[Region.mayFirst,a1_,bne_iff_ne,Bool.not_eq_true'] at b;obtain⟨⟨⟨⟨⟨hs,b⟩,n⟩,k⟩,l⟩,d⟩:=b
 cases f:ops[m]? with
 | none=>rw[f] at d;exact absurd d Bool.false_ne_true
 | some om=>
  rw[f] at d;obtain⟨e,he,hb⟩:=Array.any_eq_true'.1 d;simp only[a1_,beq_iff_eq] at hb;exact zhj g f ⟨e,he,hb⟩ l (Region.noSelect_spec hs) j fuel listed a w k (Region.free_spec g b) (by simpa using n) hg h
end
open Go.RowKit
section
variable {P:Program} {ops:Array Oper} {md:Region.Mode} {Q:Exit->Act->World->Prop} {C:World->Prop}
def xw_ (P:Program) (md:Region.Mode) (ops:Array Oper) (C:World->Prop) (Q:Exit->Act->World->Prop):Nat->Array Bool->Act->World->Prop
 | 0,listed,a,w=>C w/\Region.ready md ops listed=[]/\Q .normal a w
 | fuel+1,listed,a,w=>C w/\(Region.ready md ops listed=[]->Q .normal a w)/\
  ∀ i∈Region.ready md ops listed,wpOp P ops Q i (xw_ P md ops C Q fuel (listed.setIfInBounds i true)) a w
theorem xw_.isIn:∀ {fuel:Nat}{listed:Array Bool}{a:Act}{w:World},xw_ P md ops C Q fuel listed a w->C w
 | 0,_,_,_,h=>h.1
 | _+1,_,_,_,h=>h.1
theorem xw_.any:∀ (fuel:Nat) (listed:Array Bool) (a:Act) (w:World),xw_ P md ops C Q fuel listed a w->wpAny P md ops Q fuel listed a w
 | 0,_,_,_,h=>h.2
 | fuel+1,listed,_,_,h=>⟨h.2.1,λ i c=>wpOp_mono (λ b w'=>xw_.any fuel (listed.setIfInBounds i true) b w') (h.2.2 i c)⟩
theorem zi5 (q:ops[i]?=some oi)
 (y:∀ (j:Nat) (o:Oper) cs b,ops[j]?=some o->o.op≠.select cs b) (D:∀ c a w,Q (.panic c) (a.put oi.dst v) w->Q (.panic c) a w) (fuel:Nat) :
 ∀ (listed:Array Bool) (a:Act) (w:World),
  (∀ j oj,ops[j]?=some oj->j≠i->listed.getD j true=false->(∀ e∈oj.after,Region.binds md e=true->e.on≠i)->oi.apart ops oj=true)->
  i∈Region.ready md ops listed->j7_ P ops C oi v a->
  xw_ P md ops C Q fuel (listed.setIfInBounds i true) (a.put oi.dst v) w->xw_ P md ops C Q (fuel+1) listed a w:=by
 induction fuel with
 | zero=>
  intro listed a w _ l p f;have g:C w:=f.isIn;refine⟨g,λ h=>absurd l (by rw[h];exact a9_),λ j n=>?_⟩
  by_cases d:j=i
  ·subst d;exact p.wpOp q g f
  ·have:=ready_mono n d;rw[f.2.1] at this;exact absurd this a9_
 | succ fuel ih=>
  intro listed a w t l p f;have g:C w:=f.isIn;refine⟨g,λ h=>absurd l (by rw[h];exact a9_),λ j n=>?_⟩
  by_cases d:j=i
  ·subst d;exact p.wpOp q g f
  ·obtain⟨x,oj,r,E⟩:=mem_ready.1 n;have G:=(mem_ready.1 l).1;have J:∀ e∈oj.after,Region.binds md e=true->e.on≠i:=λ e he hb F=>jx_ G (F▸E e he hb);have B:=zi3 r (t j oj r d x J) (λ cs b=>y i oi cs b q) (λ cs b=>y j oj cs b r) D p (f.2.2 j (ready_mono n d));refine wpOp_mono (λ A w' s=>ih (listed.setIfInBounds j true) A w' (λ k ok hk H z I=>?_) (ready_mono l (Ne.symm d)) s.1 ?_) B
   ·refine t k ok hk H ?_ I
    by_cases u:j=k
    ·subst u;exact x
    ·rw[getD_set_ne true u] at z;exact z
   ·rw[Array.setIfInBounds_comm _ _ d];exact s.2
theorem zhk (t:ops[i]?=some oi)
 (J:∀ (j:Nat) (o:Oper) cs b,ops[j]?=some o->o.op≠.select cs b) (B:∀ c a w,Q (.panic c) (a.put oi.dst undef) w->Q (.panic c) a w) (fuel:Nat) :
 ∀ (listed:Array Bool) (a:Act) (w:World),
  (∀ j oj,ops[j]?=some oj->j≠i->listed.getD j true=false->(∀ e∈oj.after,Region.binds md e=true->e.on≠i)->oi.apart ops oj=true)->
  i∈Region.ready md ops listed->zeq ops oi a->
  xw_ P md ops C Q fuel (listed.setIfInBounds i true) (a.put oi.dst undef) w->xw_ P md ops C Q (fuel+1) listed a w:=by
 induction fuel with
 | zero=>
  intro listed a w _ g n f;have p:C w:=f.isIn;refine⟨p,λ h=>absurd g (by rw[h];exact a9_),λ j l=>?_⟩
  by_cases d:j=i
  ·subst d;exact n.wpOp t f
  ·have:=ready_mono l d;rw[f.2.1] at this;exact absurd this a9_
 | succ fuel ih=>
  intro listed a w s g n f;have p:C w:=f.isIn;refine⟨p,λ h=>absurd g (by rw[h];exact a9_),λ j l=>?_⟩
  by_cases d:j=i
  ·subst d;exact n.wpOp t f
  ·obtain⟨x,oj,q,D⟩:=mem_ready.1 l;have F:=(mem_ready.1 g).1;have I:∀ e∈oj.after,Region.binds md e=true->e.on≠i:=λ e he hb E=>jx_ F (E▸D e he hb);have A:=zfd q (s j oj q d x I) (λ cs b=>J j oj cs b q) B n (f.2.2 j (ready_mono l d));refine wpOp_mono (λ z w' r=>ih (listed.setIfInBounds j true) z w' (λ k ok hk G y H=>?_) (ready_mono g (Ne.symm d)) r.1 ?_) A
   ·refine s k ok hk G ?_ H
    by_cases u:j=k
    ·subst u;exact x
    ·rw[getD_set_ne true u] at y;exact y
   ·rw[Array.setIfInBounds_comm _ _ d];exact r.2
def Region.mayAll (md:Region.Mode) (ops:Array Oper) (listed:Array Bool) (i:Nat):Bool:=
 Region.noSelect ops&&Region.free md ops listed i&&(Region.ready md ops listed).contains i
theorem z2_ (i:Nat)(v:Value)(d:ops[i]?=some oi)
 (b:Region.mayAll md ops listed i=true)
 (e:∀ c a w,Q (.panic c) (a.put oi.dst v) w->Q (.panic c) a w) (hg:Region.wanted oi (yielded ops a.tmps)=true) (g:∀ w,C w->(execOp a.eval oi).run P w=.ok (.value v) w)
 (h:xw_ P md ops C Q fuel (listed.setIfInBounds i true) (a.put oi.dst v) w):xw_ P md ops C Q (fuel+1) listed a w:=by
 simp only[Region.mayAll,a1_] at b;obtain⟨⟨hs,b⟩,f⟩:=b;exact zi5 d (Region.noSelect_spec hs) e fuel listed a w (Region.free_spec d b) (by simpa using f) ⟨hg,g⟩ h
theorem tA_ (i:Nat)(e:ops[i]?=some oi)(b:(Region.mayAll md ops listed i && Region.wanted oi (yielded ops a.tmps))=true)(d:∀ c a w,Q (.panic c) (a.put oi.dst v) w->Q (.panic c) a w)(f:∀ w,C w->(execOp a.eval oi).run P w=.ok (.value v) w)(h:xw_ P md ops C Q fuel (listed.setIfInBounds i true) (a.put oi.dst v) w):xw_ P md ops C Q (fuel+1) listed a w:=by
 rw[Bool.and_eq_true] at b;exact z2_ i v e b.1 d b.2 f h
theorem vb_ (i:Nat)(d:ops[i]?=some oi)
 (b:Region.mayAll md ops listed i=true)
 (e:∀ c a w,Q (.panic c) (a.put oi.dst undef) w->Q (.panic c) a w) (hg:Region.wanted oi (yielded ops a.tmps)=false)
 (h:xw_ P md ops C Q fuel (listed.setIfInBounds i true) (a.put oi.dst undef) w):xw_ P md ops C Q (fuel+1) listed a w:=by
 simp only[Region.mayAll,a1_] at b;obtain⟨⟨hs,b⟩,f⟩:=b;exact zhk d (Region.noSelect_spec hs) e fuel listed a w (Region.free_spec d b) (by simpa using f) hg h
theorem zu_ (i:Nat)(f:ops[i]?=some oi) (b:Region.ready md ops listed=[i]) (e:C w)
 (h:∀ K:Act->World->Prop,(∀ c w',xw_ P md ops C Q fuel (listed.setIfInBounds i true) c w'->K c w')->if Region.wanted oi (yielded ops a.tmps)=true then oi.wp P a w K Q else K (a.put oi.dst undef) w):xw_ P md ops C Q (fuel+1) listed a w:=by
 refine⟨e,λ h0=>by rw[h0] at b;exact absurd b (by simp),λ j d=>?_⟩;rw[b] at d
 obtain rfl:j=i:=by simpa using d
 unfold wpOp;simp only[f];have:=h _ (λ _ _ h=>h);split
 ·rename_i hg;rw[if_pos hg] at this;exact .inl this
 ·rename_i hg;rw[if_neg hg] at this;exact this
theorem z8_ (d:Region.ready md ops listed=[]) (b:C w) (h:Q .normal a w):∀ fuel,xw_ P md ops C Q fuel listed a w
 | 0=>⟨b,d,h⟩
 | _+1=>⟨b,λ _=>h,λ i c=>by rw[d] at c;exact absurd c a9_⟩
theorem z9_ {id:Nat}(C:World->Prop) (b:P.follows .mixedOrders=true)
 (h:xw_ P .any ops C Q ops.size (Array.replicate ops.size false) a w.drew):(Code.region id ops true).wp P Q a w:=wp_region_any b (xw_.any _ _ _ _ h)
end
end Go.Proofs.YtiifagiebikmdaaGreatDoor
