import Derived.Test.YthmjjpkjgjklmaaGreatDoorRows
import Derived.WalkKit
import Derived.Maps.AppendAt
import Derived.Test.YthmjjpkjgjklmaaGreatDoorA00
set_option maxHeartbeats 16000000
set_option maxRecDepth 100000
set_option linter.unusedSimpArgs false
namespace Go.Proofs.YthmjjpkjgjklmaaGreatDoor
open Go.RowKit
variable {oi oj:Oper}{a:Act}{w:World}{listed:Array Bool}{v:Value}{fuel i:Nat}
section
variable {P:Program} {ops:Array Oper} {md:Region.Mode} {Q:Exit->Act->World->Prop} {C:World->Prop} {m:Nat}
def vl_ (P:Program) (md:Region.Mode) (ops:Array Oper) (m:Nat) (C:World->Prop) (Q:Exit->Act->World->Prop):Nat->Array Bool->Act->World->Prop
 | 0,listed,a,w=>(listed.getD m true=false->C w)/\Region.ready md ops listed=[]/\Q .normal a w
 | fuel+1,listed,a,w=>(listed.getD m true=false->C w)/\(Region.ready md ops listed=[]->Q .normal a w)/\
  ∀ i∈Region.ready md ops listed,wpOp P ops Q i (vl_ P md ops m C Q fuel (listed.setIfInBounds i true)) a w
theorem vl_.isIn:∀ {fuel:Nat}{listed:Array Bool}{a:Act}{w:World},vl_ P md ops m C Q fuel listed a w->listed.getD m true=false->C w
 | 0,_,_,_,h=>h.1
 | _+1,_,_,_,h=>h.1
theorem vl_.any:∀ (fuel:Nat) (listed:Array Bool) (a:Act) (w:World),vl_ P md ops m C Q fuel listed a w->wpAny P md ops Q fuel listed a w
 | 0,_,_,_,h=>h.2
 | fuel+1,listed,_,_,h=>⟨h.2.1,λ i hi=>wpOp_mono (λ a' w'=>vl_.any fuel (listed.setIfInBounds i true) a' w') (h.2.2 i hi)⟩
def zaa (P:Program) (ops:Array Oper) (C:World->Prop) (o:Oper) (v:Value) (a:Act):Prop:=
 Region.wanted o (yielded ops a.tmps)=true/\∀ w,C w->(execOp a.eval o).run P w=.ok (.value v) w
theorem zxo (hap:oi.apart ops oj=true) (hsi:∀ cs b,oi.op≠.select cs b) (hsj:∀ cs b,oj.op≠.select cs b)
 (hQ:∀ c a w,Q (.panic c) (a.put oi.dst v) w->Q (.panic c) a w) {K:Act->World->Prop} {a:Act} {w:World}
 (hy:zaa P ops C oi v a) (h:oj.wp P (a.put oi.dst v) w K Q):oj.wp P a w (λ a' w'=>zaa P ops C oi v a'/\K (a'.put oi.dst v) w') Q:=by
 obtain⟨h1,h2,h3⟩:=Oper.apart_spec hap
 have keep:∀ (b:Act),zaa P ops C oi v b->∀ u,zaa P ops C oi v (b.put oj.dst u):=λ b hb u=>
  ⟨by rw[wanted_put oi b oj.dst u h3];exact hb.1,λ x hx=>by rw[execOp_put oi hsi b oj.dst u h3];exact hb.2 x hx⟩
 unfold Oper.wp at h⊢;rw[execOp_put oj hsj a oi.dst v h1] at h
 revert h
 generalize (execOp a.eval oj).run P w=r;intro h
 match r,h with
 | .ok (.value u) w',h=>exact⟨keep a hy u,by rw[<- Act.put_comm a v u h2];exact h⟩
 | .ok .skip w',h=>exact⟨keep a hy _,by rw[<- Act.put_comm a v undef h2];exact h⟩
 | .ok (.defer d) w',h=>exact⟨keep { a with defers:=d::a.defers } ⟨hy.1,hy.2⟩ _,by rw[<- Act.put_comm _ v undef h2,<- Act.put_defers];exact h⟩
 | .ok (.enter f args) w',h=>
  refine Calls.mono h λ e w'' he=>?_
  match e,he with
  | .returned u,he=>exact⟨keep a hy u,by rw[<- Act.put_comm a v u h2];exact he⟩
  | .panicked c,he=>exact hQ _ _ _ he
  | .outgrown,he=>exact he
 | .ok (.row row args) w',h=>exact Rows.mono h λ u w'' he=>⟨keep a hy u,by rw[<- Act.put_comm a v u h2];exact he⟩
 | .halt (.panic u) w',h=>exact hQ _ _ _ h
theorem zjj {j:Nat}(hj:ops[j]?=some oj) (hap:oi.apart ops oj=true) (hsi:∀ cs b,oi.op≠.select cs b) (hsj:∀ cs b,oj.op≠.select cs b)
 (hQ:∀ c a w,Q (.panic c) (a.put oi.dst v) w->Q (.panic c) a w) {K:Act->World->Prop} {a:Act} {w:World}
 (hy:zaa P ops C oi v a) (h:wpOp P ops Q j K (a.put oi.dst v) w):wpOp P ops Q j (λ a' w'=>zaa P ops C oi v a'/\K (a'.put oi.dst v) w') a w:=by
 obtain⟨h1,h2,h3⟩:=Oper.apart_spec hap;unfold wpOp at h⊢;simp only[hj] at h⊢;rw[wanted_put oj a oi.dst v h1] at h
 by_cases hw:Region.wanted oj (yielded ops a.tmps)=true
 ·rw[if_pos hw] at h⊢;refine h.imp (zxo hap hsi hsj hQ hy) (λ ⟨x,y⟩=>⟨?_,y⟩);unfold Oper.asks at x⊢;rw[execOp_put oj hsj a oi.dst v h1] at x;exact x
 ·rw[if_neg hw] at h⊢;refine⟨⟨by rw[wanted_put oi a oj.dst undef h3];exact hy.1,λ x hx=>by rw[execOp_put oi hsi a oj.dst undef h3];exact hy.2 x hx⟩,?_⟩;rw[<- Act.put_comm a v undef h2];exact h
theorem zaa.wpOp {o:Oper}(hi:ops[i]?=some o) (hy:zaa P ops C o v a) (hC:C w){K:Act->World->Prop}(h:K (a.put o.dst v) w):wpOp P ops Q i K a w:=by
 unfold Go.wpOp;simp only[hi];rw[if_pos hy.1];exact .inl (by unfold Oper.wp;rw[hy.2 w hC];exact h)
theorem za5 (h:listed.getD i true=false):listed.getD i false≠true:=by
 rw[Array.getD_eq_getD_getElem?] at h⊢
 cases hx:listed[i]? with
 | none=>decide
 | some x=>rw[hx] at h;simp only[b0_] at h⊢;rw[h];decide
theorem zjk {om:Oper}(hi:ops[i]?=some oi) (hmo:ops[m]?=some om) (hme:∃ e∈om.after,Region.binds md e=true/\e.on=i) (hmi:m≠i)
 (hsel:∀ (j:Nat) (o:Oper) cs b,ops[j]?=some o->o.op≠.select cs b) (hQ:∀ c a w,Q (.panic c) (a.put oi.dst v) w->Q (.panic c) a w) (fuel:Nat) :
 ∀ (listed:Array Bool) (a:Act) (w:World),listed.getD m true=false->
  (∀ j oj,ops[j]?=some oj->j≠i->listed.getD j true=false->(∀ e∈oj.after,Region.binds md e=true->e.on≠i)->oi.apart ops oj=true)->
  i∈Region.ready md ops listed->zaa P ops C oi v a->
  vl_ P md ops m C Q fuel (listed.setIfInBounds i true) (a.put oi.dst v) w->vl_ P md ops m C Q (fuel+1) listed a w:=by
 induction fuel with
 | zero=>
  intro listed a w hm _ hr hy H;have hC:C w:=H.isIn (by rw[getD_set_ne true (Ne.symm hmi)];exact hm);refine⟨λ _=>hC,λ h=>absurd hr (by rw[h];exact bf_),λ j hj=>?_⟩
  by_cases hji:j=i
  ·subst hji;exact hy.wpOp hi hC H
  ·have:=ready_mono hj hji;rw[H.2.1] at this;exact absurd this bf_
 | succ fuel ih=>
  intro listed a w hm hfree hr hy H;have hC:C w:=H.isIn (by rw[getD_set_ne true (Ne.symm hmi)];exact hm);refine⟨λ _=>hC,λ h=>absurd hr (by rw[h];exact bf_),λ j hj=>?_⟩
  by_cases hji:j=i
  ·subst hji;exact hy.wpOp hi hC H
  ·obtain⟨hjun,oj,hoj,hall⟩:=mem_ready.1 hj;have hiun:=(mem_ready.1 hr).1;have hnot:∀ e∈oj.after,Region.binds md e=true->e.on≠i:=λ e he hb heq=>za5 hiun (heq▸hall e he hb)
   have hjm:j≠m:=λ e=>by
    obtain⟨x,hx,hb,hon⟩:=hme;rw[e,hmo] at hoj;obtain rfl:=Option.some.inj hoj;exact hnot x hx hb hon
   have h2:=zjj hoj (hfree j oj hoj hji hjun hnot) (λ cs b=>hsel i oi cs b hi) (λ cs b=>hsel j oj cs b hoj) hQ hy (H.2.2 j (ready_mono hj hji));refine wpOp_mono (λ a' w' h3=>ih (listed.setIfInBounds j true) a' w' (by rw[getD_set_ne true hjm];exact hm) (λ k ok hk hki hun hno=>?_) (ready_mono hr (Ne.symm hji)) h3.1 ?_) h2
   ·refine hfree k ok hk hki ?_ hno
    by_cases hjk:j=k
    ·subst hjk;exact hjun
    ·rw[getD_set_ne true hjk] at hun;exact hun
   ·rw[Array.setIfInBounds_comm _ _ hji];exact h3.2
def Region.mayFirst (md:Region.Mode) (ops:Array Oper) (listed:Array Bool) (m i:Nat):Bool:=
 Region.noSelect ops&&Region.free md ops listed i&&(Region.ready md ops listed).contains i && !(listed.getD m true)&&(m != i) &&
  match ops[m]? with
  | some om=>om.after.any λ e=>Region.binds md e&&e.on==i
  | none=>false
theorem zfj (i:Nat)(v:Value)(hi:ops[i]?=some oi)
 (hf:Region.mayFirst md ops listed m i=true)
 (hQ:∀ c a w,Q (.panic c) (a.put oi.dst v) w->Q (.panic c) a w) (hg:Region.wanted oi (yielded ops a.tmps)=true) (hy:∀ w,C w->(execOp a.eval oi).run P w=.ok (.value v) w)
 (h:vl_ P md ops m C Q fuel (listed.setIfInBounds i true) (a.put oi.dst v) w):vl_ P md ops m C Q (fuel+1) listed a w:=by
 simp only[Region.mayFirst,a9_,bne_iff_ne,Bool.not_eq_true'] at hf;obtain⟨⟨⟨⟨⟨hs,hf⟩,hr⟩,hm⟩,hmi⟩,hx⟩:=hf
 cases hmo:ops[m]? with
 | none=>rw[hmo] at hx;exact absurd hx Bool.false_ne_true
 | some om=>
  rw[hmo] at hx;obtain⟨e,he,hb⟩:=Array.any_eq_true'.1 hx;simp only[a9_,beq_iff_eq] at hb;exact zjk hi hmo ⟨e,he,hb⟩ hmi (Region.noSelect_spec hs) hQ fuel listed a w hm (Region.free_spec hi hf) (by simpa using hr) ⟨hg,hy⟩ h
theorem ta_ (i:Nat)(hi:ops[i]?=some oi)(hf:(Region.mayFirst md ops listed m i && Region.wanted oi (yielded ops a.tmps))=true)(hQ:∀ c a w,Q (.panic c) (a.put oi.dst v) w->Q (.panic c) a w)(hy:∀ w,C w->(execOp a.eval oi).run P w=.ok (.value v) w)(h:vl_ P md ops m C Q fuel (listed.setIfInBounds i true) (a.put oi.dst v) w):vl_ P md ops m C Q (fuel+1) listed a w:=by
 rw[Bool.and_eq_true] at hf;exact zfj i v hi hf.1 hQ hf.2 hy h
theorem tb_ (i:Nat)(hi:ops[i]?=some oi)(hf:Region.mayFirst md ops listed m i=true)(hQ:∀ c a w,Q (.panic c) (a.put oi.dst v) w->Q (.panic c) a w)(hg:Region.wanted oi (yielded ops a.tmps)=true)(hy:∀ w,C w->(execOp a.eval oi).run P w=.ok (.value v) w)(h:vl_ P md ops m C Q fuel (listed.setIfInBounds i true) (a.put oi.dst v) w):vl_ P md ops m C Q (fuel+1) listed a w:=zfj i v hi hf hQ hg hy h
theorem zg_ (i:Nat)(hi:ops[i]?=some oi) (hr:Region.ready md ops listed=[i]) (hC:listed.getD m true=false->C w)
 (h:∀ K:Act->World->Prop,(∀ a' w',vl_ P md ops m C Q fuel (listed.setIfInBounds i true) a' w'->K a' w')->if Region.wanted oi (yielded ops a.tmps)=true then oi.wp P a w K Q else K (a.put oi.dst undef) w):vl_ P md ops m C Q (fuel+1) listed a w:=by
 refine⟨hC,λ h0=>by rw[h0] at hr;exact absurd hr (by simp),λ j hj=>?_⟩;rw[hr] at hj
 obtain rfl:j=i:=by simpa using hj
 unfold wpOp;simp only[hi];have:=h _ (λ _ _ h=>h);split
 ·rename_i hg;rw[if_pos hg] at this;exact .inl this
 ·rename_i hg;rw[if_neg hg] at this;exact this
theorem yc_ (hr:Region.ready md ops listed=[]) (hC:listed.getD m true=false->C w) (h:Q .normal a w):∀ fuel,vl_ P md ops m C Q fuel listed a w
 | 0=>⟨hC,hr,h⟩
 | _+1=>⟨hC,λ _=>h,λ i hi=>by rw[hr] at hi;exact absurd hi bf_⟩
theorem yp_ {id:Nat}(m:Nat) (C:World->Prop) (hm:P.follows .mixedOrders=true)
 (h:vl_ P .any ops m C Q ops.size (Array.replicate ops.size false) a w.drew):(Code.region id ops true).wp P Q a w:=wp_region_any hm (vl_.any _ _ _ _ h)
end
open Go.RowKit
section
variable {P:Program} {ops:Array Oper} {md:Region.Mode} {Q:Exit->Act->World->Prop} {C:World->Prop} {m:Nat}
def zgv (ops:Array Oper) (o:Oper) (a:Act):Prop:=Region.wanted o (yielded ops a.tmps)=false
theorem zrz (hap:oi.apart ops oj=true) (hsj:∀ cs b,oj.op≠.select cs b)
 (hQ:∀ c a w,Q (.panic c) (a.put oi.dst undef) w->Q (.panic c) a w) {K:Act->World->Prop} {a:Act} {w:World}
 (hy:zgv ops oi a) (h:oj.wp P (a.put oi.dst undef) w K Q):oj.wp P a w (λ a' w'=>zgv ops oi a'/\K (a'.put oi.dst undef) w') Q:=by
 obtain⟨h1,h2,h3⟩:=Oper.apart_spec hap
 have keep:∀ (b:Act),zgv ops oi b->∀ u,zgv ops oi (b.put oj.dst u):=λ b hb u=>by
  unfold zgv;rw[wanted_put oi b oj.dst u h3];exact hb
 unfold Oper.wp at h⊢;rw[execOp_put oj hsj a oi.dst undef h1] at h
 revert h
 generalize (execOp a.eval oj).run P w=r;intro h
 match r,h with
 | .ok (.value u) w',h=>exact⟨keep a hy u,by rw[<- Act.put_comm a undef u h2];exact h⟩
 | .ok .skip w',h=>exact⟨keep a hy _,by rw[<- Act.put_comm a undef undef h2];exact h⟩
 | .ok (.defer d) w',h=>exact⟨keep { a with defers:=d::a.defers } hy _,by rw[<- Act.put_comm _ undef undef h2,<- Act.put_defers];exact h⟩
 | .ok (.enter f args) w',h=>
  refine Calls.mono h λ e w'' he=>?_
  match e,he with
  | .returned u,he=>exact⟨keep a hy u,by rw[<- Act.put_comm a undef u h2];exact he⟩
  | .panicked c,he=>exact hQ _ _ _ he
  | .outgrown,he=>exact he
 | .ok (.row row args) w',h=>exact Rows.mono h λ u w'' he=>⟨keep a hy u,by rw[<- Act.put_comm a undef u h2];exact he⟩
 | .halt (.panic u) w',h=>exact hQ _ _ _ h
theorem zmf {j:Nat}(hj:ops[j]?=some oj) (hap:oi.apart ops oj=true) (hsj:∀ cs b,oj.op≠.select cs b)
 (hQ:∀ c a w,Q (.panic c) (a.put oi.dst undef) w->Q (.panic c) a w) {K:Act->World->Prop} {a:Act} {w:World}
 (hy:zgv ops oi a) (h:wpOp P ops Q j K (a.put oi.dst undef) w):wpOp P ops Q j (λ a' w'=>zgv ops oi a'/\K (a'.put oi.dst undef) w') a w:=by
 obtain⟨h1,h2,h3⟩:=Oper.apart_spec hap;unfold wpOp at h⊢;simp only[hj] at h⊢;rw[wanted_put oj a oi.dst undef h1] at h
 by_cases hw:Region.wanted oj (yielded ops a.tmps)=true
 ·rw[if_pos hw] at h⊢;refine h.imp (zrz hap hsj hQ hy) (λ ⟨x,y⟩=>⟨?_,y⟩);unfold Oper.asks at x⊢;rw[execOp_put oj hsj a oi.dst undef h1] at x;exact x
 ·rw[if_neg hw] at h⊢;refine⟨by unfold zgv;rw[wanted_put oi a oj.dst undef h3];exact hy,?_⟩;rw[<- Act.put_comm a undef undef h2];exact h
theorem zgv.wpOp {o:Oper}(hi:ops[i]?=some o) (hy:zgv ops o a){K:Act->World->Prop}(h:K (a.put o.dst undef) w):wpOp P ops Q i K a w:=by
 unfold Go.wpOp;simp only[hi];rw[if_neg (by rw[show Region.wanted o (yielded ops a.tmps)=false from hy];decide)];exact h
end
open Go.RowKit
section
variable {P:Program} {ops:Array Oper} {md:Region.Mode} {Q:Exit->Act->World->Prop} {C:World->Prop}
def x8_ (P:Program) (md:Region.Mode) (ops:Array Oper) (C:World->Prop) (Q:Exit->Act->World->Prop):Nat->Array Bool->Act->World->Prop
 | 0,listed,a,w=>C w/\Region.ready md ops listed=[]/\Q .normal a w
 | fuel+1,listed,a,w=>C w/\(Region.ready md ops listed=[]->Q .normal a w)/\
  ∀ i∈Region.ready md ops listed,wpOp P ops Q i (x8_ P md ops C Q fuel (listed.setIfInBounds i true)) a w
theorem x8_.isIn:∀ {fuel:Nat}{listed:Array Bool}{a:Act}{w:World},x8_ P md ops C Q fuel listed a w->C w
 | 0,_,_,_,h=>h.1
 | _+1,_,_,_,h=>h.1
theorem x8_.any:∀ (fuel:Nat) (listed:Array Bool) (a:Act) (w:World),x8_ P md ops C Q fuel listed a w->wpAny P md ops Q fuel listed a w
 | 0,_,_,_,h=>h.2
 | fuel+1,listed,_,_,h=>⟨h.2.1,λ i hi=>wpOp_mono (λ a' w'=>x8_.any fuel (listed.setIfInBounds i true) a' w') (h.2.2 i hi)⟩
theorem zjl (hi:ops[i]?=some oi)
 (hsel:∀ (j:Nat) (o:Oper) cs b,ops[j]?=some o->o.op≠.select cs b) (hQ:∀ c a w,Q (.panic c) (a.put oi.dst v) w->Q (.panic c) a w) (fuel:Nat) :
 ∀ (listed:Array Bool) (a:Act) (w:World),
  (∀ j oj,ops[j]?=some oj->j≠i->listed.getD j true=false->(∀ e∈oj.after,Region.binds md e=true->e.on≠i)->oi.apart ops oj=true)->
  i∈Region.ready md ops listed->zaa P ops C oi v a->
  x8_ P md ops C Q fuel (listed.setIfInBounds i true) (a.put oi.dst v) w->x8_ P md ops C Q (fuel+1) listed a w:=by
 induction fuel with
 | zero=>
  intro listed a w _ hr hy H;have hC:C w:=H.isIn;refine⟨hC,λ h=>absurd hr (by rw[h];exact bf_),λ j hj=>?_⟩
  by_cases hji:j=i
  ·subst hji;exact hy.wpOp hi hC H
  ·have:=ready_mono hj hji;rw[H.2.1] at this;exact absurd this bf_
 | succ fuel ih=>
  intro listed a w hfree hr hy H;have hC:C w:=H.isIn;refine⟨hC,λ h=>absurd hr (by rw[h];exact bf_),λ j hj=>?_⟩
  by_cases hji:j=i
  ·subst hji;exact hy.wpOp hi hC H
  ·obtain⟨hjun,oj,hoj,hall⟩:=mem_ready.1 hj;have hiun:=(mem_ready.1 hr).1;have hnot:∀ e∈oj.after,Region.binds md e=true->e.on≠i:=λ e he hb heq=>za5 hiun (heq▸hall e he hb);have h2:=zjj hoj (hfree j oj hoj hji hjun hnot) (λ cs b=>hsel i oi cs b hi) (λ cs b=>hsel j oj cs b hoj) hQ hy (H.2.2 j (ready_mono hj hji));refine wpOp_mono (λ a' w' h3=>ih (listed.setIfInBounds j true) a' w' (λ k ok hk hki hun hno=>?_) (ready_mono hr (Ne.symm hji)) h3.1 ?_) h2
   ·refine hfree k ok hk hki ?_ hno
    by_cases hjk:j=k
    ·subst hjk;exact hjun
    ·rw[getD_set_ne true hjk] at hun;exact hun
   ·rw[Array.setIfInBounds_comm _ _ hji];exact h3.2
theorem zh6 (hi:ops[i]?=some oi)
 (hsel:∀ (j:Nat) (o:Oper) cs b,ops[j]?=some o->o.op≠.select cs b) (hQ:∀ c a w,Q (.panic c) (a.put oi.dst undef) w->Q (.panic c) a w) (fuel:Nat) :
 ∀ (listed:Array Bool) (a:Act) (w:World),
  (∀ j oj,ops[j]?=some oj->j≠i->listed.getD j true=false->(∀ e∈oj.after,Region.binds md e=true->e.on≠i)->oi.apart ops oj=true)->
  i∈Region.ready md ops listed->zgv ops oi a->
  x8_ P md ops C Q fuel (listed.setIfInBounds i true) (a.put oi.dst undef) w->x8_ P md ops C Q (fuel+1) listed a w:=by
 induction fuel with
 | zero=>
  intro listed a w _ hr hy H;have hC:C w:=H.isIn;refine⟨hC,λ h=>absurd hr (by rw[h];exact bf_),λ j hj=>?_⟩
  by_cases hji:j=i
  ·subst hji;exact hy.wpOp hi H
  ·have:=ready_mono hj hji;rw[H.2.1] at this;exact absurd this bf_
 | succ fuel ih=>
  intro listed a w hfree hr hy H;have hC:C w:=H.isIn;refine⟨hC,λ h=>absurd hr (by rw[h];exact bf_),λ j hj=>?_⟩
  by_cases hji:j=i
  ·subst hji;exact hy.wpOp hi H
  ·obtain⟨hjun,oj,hoj,hall⟩:=mem_ready.1 hj;have hiun:=(mem_ready.1 hr).1;have hnot:∀ e∈oj.after,Region.binds md e=true->e.on≠i:=λ e he hb heq=>za5 hiun (heq▸hall e he hb);have h2:=zmf hoj (hfree j oj hoj hji hjun hnot) (λ cs b=>hsel j oj cs b hoj) hQ hy (H.2.2 j (ready_mono hj hji));refine wpOp_mono (λ a' w' h3=>ih (listed.setIfInBounds j true) a' w' (λ k ok hk hki hun hno=>?_) (ready_mono hr (Ne.symm hji)) h3.1 ?_) h2
   ·refine hfree k ok hk hki ?_ hno
    by_cases hjk:j=k
    ·subst hjk;exact hjun
    ·rw[getD_set_ne true hjk] at hun;exact hun
   ·rw[Array.setIfInBounds_comm _ _ hji];exact h3.2
def Region.mayAll (md:Region.Mode) (ops:Array Oper) (listed:Array Bool) (i:Nat):Bool:=
 Region.noSelect ops&&Region.free md ops listed i&&(Region.ready md ops listed).contains i
theorem zc_ (i:Nat)(v:Value)(hi:ops[i]?=some oi)
 (hf:Region.mayAll md ops listed i=true)
 (hQ:∀ c a w,Q (.panic c) (a.put oi.dst v) w->Q (.panic c) a w) (hg:Region.wanted oi (yielded ops a.tmps)=true) (hy:∀ w,C w->(execOp a.eval oi).run P w=.ok (.value v) w)
 (h:x8_ P md ops C Q fuel (listed.setIfInBounds i true) (a.put oi.dst v) w):x8_ P md ops C Q (fuel+1) listed a w:=by
 simp only[Region.mayAll,a9_] at hf;obtain⟨⟨hs,hf⟩,hr⟩:=hf;exact zjl hi (Region.noSelect_spec hs) hQ fuel listed a w (Region.free_spec hi hf) (by simpa using hr) ⟨hg,hy⟩ h
theorem tA_ (i:Nat)(hi:ops[i]?=some oi)(hf:(Region.mayAll md ops listed i && Region.wanted oi (yielded ops a.tmps))=true)(hQ:∀ c a w,Q (.panic c) (a.put oi.dst v) w->Q (.panic c) a w)(hy:∀ w,C w->(execOp a.eval oi).run P w=.ok (.value v) w)(h:x8_ P md ops C Q fuel (listed.setIfInBounds i true) (a.put oi.dst v) w):x8_ P md ops C Q (fuel+1) listed a w:=by
 rw[Bool.and_eq_true] at hf;exact zc_ i v hi hf.1 hQ hf.2 hy h
theorem vb_ (i:Nat)(hi:ops[i]?=some oi)
 (hf:Region.mayAll md ops listed i=true)
 (hQ:∀ c a w,Q (.panic c) (a.put oi.dst undef) w->Q (.panic c) a w) (hg:Region.wanted oi (yielded ops a.tmps)=false)
 (h:x8_ P md ops C Q fuel (listed.setIfInBounds i true) (a.put oi.dst undef) w):x8_ P md ops C Q (fuel+1) listed a w:=by
 simp only[Region.mayAll,a9_] at hf;obtain⟨⟨hs,hf⟩,hr⟩:=hf;exact zh6 hi (Region.noSelect_spec hs) hQ fuel listed a w (Region.free_spec hi hf) (by simpa using hr) hg h
theorem zr_ (i:Nat)(hi:ops[i]?=some oi) (hr:Region.ready md ops listed=[i]) (hC:C w)
 (h:∀ K:Act->World->Prop,(∀ a' w',x8_ P md ops C Q fuel (listed.setIfInBounds i true) a' w'->K a' w')->if Region.wanted oi (yielded ops a.tmps)=true then oi.wp P a w K Q else K (a.put oi.dst undef) w):x8_ P md ops C Q (fuel+1) listed a w:=by
 refine⟨hC,λ h0=>by rw[h0] at hr;exact absurd hr (by simp),λ j hj=>?_⟩;rw[hr] at hj
 obtain rfl:j=i:=by simpa using hj
 unfold wpOp;simp only[hi];have:=h _ (λ _ _ h=>h);split
 ·rename_i hg;rw[if_pos hg] at this;exact .inl this
 ·rename_i hg;rw[if_neg hg] at this;exact this
theorem z5_ (hr:Region.ready md ops listed=[]) (hC:C w) (h:Q .normal a w):∀ fuel,x8_ P md ops C Q fuel listed a w
 | 0=>⟨hC,hr,h⟩
 | _+1=>⟨hC,λ _=>h,λ i hi=>by rw[hr] at hi;exact absurd hi bf_⟩
theorem z8_ {id:Nat}(C:World->Prop) (hm:P.follows .mixedOrders=true)
 (h:x8_ P .any ops C Q ops.size (Array.replicate ops.size false) a w.drew):(Code.region id ops true).wp P Q a w:=wp_region_any hm (x8_.any _ _ _ _ h)
end
end Go.Proofs.YthmjjpkjgjklmaaGreatDoor
