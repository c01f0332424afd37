import Derived.Test.YtiifagiebikmdaaGreatDoorRows
import Derived.WalkKit
import Derived.Maps.AppendAt
namespace Go.Proofs.YtiifagiebikmdaaGreatDoor
open Go.RowKit
section
variable {P:Program} {ops:Array Oper} {md:Region.Mode} {Q:Exit→Act→World→Prop} {C:World→Prop} {m:Nat}
def wpAnyC (P:Program) (md:Region.Mode) (ops:Array Oper) (m:Nat) (C:World→Prop) (Q:Exit→Act→World→Prop):Nat→Array Bool→Act→World→Prop
 | 0,listed,a,w=>(listed.getD m true=false→C w)∧Region.ready md ops listed=[]∧Q .normal a w
 | fuel+1,listed,a,w=>(listed.getD m true=false→C w)∧(Region.ready md ops listed=[]→Q .normal a w)∧
  ∀ i∈Region.ready md ops listed,wpOp P ops Q i (wpAnyC P md ops m C Q fuel (listed.setIfInBounds i true)) a w
theorem wpAnyC.isIn:∀ {fuel:Nat}{listed:Array Bool}{a:Act}{w:World},wpAnyC P md ops m C Q fuel listed a w→listed.getD m true=false→C w
 | 0,_,_,_,h=>h.1
 | _+1,_,_,_,h=>h.1
theorem wpAnyC.any:∀ (fuel:Nat) (listed:Array Bool) (a:Act) (w:World),wpAnyC P md ops m C Q fuel listed a w→wpAny P md ops Q fuel listed a w
 | 0,_,_,_,h=>h.2
 | fuel+1,listed,_,_,h=>⟨h.2.1,fun i hi=>wpOp_mono (fun a' w'=>wpAnyC.any fuel (listed.setIfInBounds i true) a' w') (h.2.2 i hi)⟩
def GivesIn (P:Program) (ops:Array Oper) (C:World→Prop) (o:Oper) (v:Value) (a:Act):Prop:=
 Region.wanted o (yielded ops a.tmps)=true∧∀ w,C w→(execOp a.eval o).run P w=.ok (.value v) w
theorem wp_late {oi oj:Oper}{v:Value}(hap:oi.apart ops oj=true) (hsi:∀ cs b,oi.op≠.select cs b) (hsj:∀ cs b,oj.op≠.select cs b)
 (hQ:∀ c a w,Q (.panic c) (a.put oi.dst v) w→Q (.panic c) a w) {K:Act→World→Prop} {a:Act} {w:World}
 (hy:GivesIn P ops C oi v a) (h:oj.wp P (a.put oi.dst v) w K Q):oj.wp P a w (fun a' w'=>GivesIn P ops C oi v a'∧K (a'.put oi.dst v) w') Q:=by
 obtain⟨h1,h2,h3⟩:=Oper.apart_spec hap
 have keep:∀ (b:Act),GivesIn P ops C oi v b→∀ u,GivesIn P ops C oi v (b.put oj.dst u):=fun b hb u=>
  ⟨by rw[wanted_put oi b oj.dst u h3];exact hb.1,fun x hx=>by rw[execOp_put oi hsi b oj.dst u h3];exact hb.2 x hx⟩
 unfold Oper.wp at h⊢
 rw[execOp_put oj hsj a oi.dst v h1] at h
 revert h
 generalize (execOp a.eval oj).run P w=r
 intro h
 match r,h with
 | .ok (.value u) w',h=>exact⟨keep a hy u,by rw[← Act.put_comm a v u h2];exact h⟩
 | .ok .skip w',h=>exact⟨keep a hy _,by rw[← Act.put_comm a v undef h2];exact h⟩
 | .ok (.defer d) w',h=>exact⟨keep { a with defers:=d::a.defers } ⟨hy.1,hy.2⟩ _,by rw[← Act.put_comm _ v undef h2,← Act.put_defers];exact h⟩
 | .ok (.enter f args) w',h=>
  refine Calls.mono h fun e w'' he=>?_
  match e,he with
  | .returned u,he=>exact⟨keep a hy u,by rw[← Act.put_comm a v u h2];exact he⟩
  | .panicked c,he=>exact hQ _ _ _ he
  | .outgrown,he=>exact he
 | .ok (.row row args) w',h=>exact Rows.mono h fun u w'' he=>⟨keep a hy u,by rw[← Act.put_comm a v u h2];exact he⟩
 | .halt (.panic u) w',h=>exact hQ _ _ _ h
theorem wpOp_late {j:Nat}{oi oj:Oper}{v:Value}(hj:ops[j]?=some oj) (hap:oi.apart ops oj=true) (hsi:∀ cs b,oi.op≠.select cs b) (hsj:∀ cs b,oj.op≠.select cs b)
 (hQ:∀ c a w,Q (.panic c) (a.put oi.dst v) w→Q (.panic c) a w) {K:Act→World→Prop} {a:Act} {w:World}
 (hy:GivesIn P ops C oi v a) (h:wpOp P ops Q j K (a.put oi.dst v) w):wpOp P ops Q j (fun a' w'=>GivesIn P ops C oi v a'∧K (a'.put oi.dst v) w') a w:=by
 obtain⟨h1,h2,h3⟩:=Oper.apart_spec hap
 unfold wpOp at h⊢
 simp only[hj] at h⊢
 rw[wanted_put oj a oi.dst v h1] at h
 by_cases hw:Region.wanted oj (yielded ops a.tmps)=true
 ·rw[if_pos hw] at h⊢
  refine h.imp (wp_late hap hsi hsj hQ hy) (fun ⟨x,y⟩=>⟨?_,y⟩)
  unfold Oper.asks at x⊢
  rw[execOp_put oj hsj a oi.dst v h1] at x
  exact x
 ·rw[if_neg hw] at h⊢
  refine⟨⟨by rw[wanted_put oi a oj.dst undef h3];exact hy.1,fun x hx=>by rw[execOp_put oi hsi a oj.dst undef h3];exact hy.2 x hx⟩,?_⟩
  rw[← Act.put_comm a v undef h2];exact h
theorem GivesIn.wpOp {i:Nat}{o:Oper}{v:Value}{a:Act}{w:World}(hi:ops[i]?=some o) (hy:GivesIn P ops C o v a) (hC:C w){K:Act→World→Prop}(h:K (a.put o.dst v) w):wpOp P ops Q i K a w:=by
 unfold Go.wpOp
 simp only[hi]
 rw[if_pos hy.1]
 exact .inl (by unfold Oper.wp;rw[hy.2 w hC];exact h)
theorem unlisted_not {listed:Array Bool}{i:Nat}(h:listed.getD i true=false):listed.getD i false≠true:=by
 rw[Array.getD_eq_getD_getElem?] at h⊢
 cases hx:listed[i]? with
 | none=>decide
 | some x=>rw[hx] at h;simp only[Option.getD_some] at h⊢;rw[h];decide
theorem wpAnyC_first {i:Nat}{oi om:Oper}{v:Value}(hi:ops[i]?=some oi) (hmo:ops[m]?=some om) (hme:∃ e∈om.after,Region.binds md e=true∧e.on=i) (hmi:m≠i)
 (hsel:∀ (j:Nat) (o:Oper) cs b,ops[j]?=some o→o.op≠.select cs b) (hQ:∀ c a w,Q (.panic c) (a.put oi.dst v) w→Q (.panic c) a w) (fuel:Nat) :
 ∀ (listed:Array Bool) (a:Act) (w:World),listed.getD m true=false→
  (∀ j oj,ops[j]?=some oj→j≠i→listed.getD j true=false→(∀ e∈oj.after,Region.binds md e=true→e.on≠i)→oi.apart ops oj=true)→
  i∈Region.ready md ops listed→GivesIn P ops C oi v a→
  wpAnyC P md ops m C Q fuel (listed.setIfInBounds i true) (a.put oi.dst v) w→wpAnyC P md ops m C Q (fuel+1) listed a w:=by
 induction fuel with
 | zero=>
  intro listed a w hm _ hr hy H
  have hC:C w:=H.isIn (by rw[getD_set_ne true (Ne.symm hmi)];exact hm)
  refine⟨fun _=>hC,fun h=>absurd hr (by rw[h];exact List.not_mem_nil),fun j hj=>?_⟩
  by_cases hji:j=i
  ·subst hji;exact hy.wpOp hi hC H
  ·have:=ready_mono hj hji
   rw[H.2.1] at this
   exact absurd this List.not_mem_nil
 | succ fuel ih=>
  intro listed a w hm hfree hr hy H
  have hC:C w:=H.isIn (by rw[getD_set_ne true (Ne.symm hmi)];exact hm)
  refine⟨fun _=>hC,fun h=>absurd hr (by rw[h];exact List.not_mem_nil),fun j hj=>?_⟩
  by_cases hji:j=i
  ·subst hji;exact hy.wpOp hi hC H
  ·obtain⟨hjun,oj,hoj,hall⟩:=mem_ready.1 hj
   have hiun:=(mem_ready.1 hr).1
   have hnot:∀ e∈oj.after,Region.binds md e=true→e.on≠i:=fun e he hb heq=>unlisted_not hiun (heq▸hall e he hb)
   have hjm:j≠m:=fun e=>by
    obtain⟨x,hx,hb,hon⟩:=hme
    rw[e,hmo] at hoj
    obtain rfl:=Option.some.inj hoj
    exact hnot x hx hb hon
   have h2:=wpOp_late hoj (hfree j oj hoj hji hjun hnot) (fun cs b=>hsel i oi cs b hi) (fun cs b=>hsel j oj cs b hoj) hQ hy (H.2.2 j (ready_mono hj hji))
   refine wpOp_mono (fun a' w' h3=>ih (listed.setIfInBounds j true) a' w' (by rw[getD_set_ne true hjm];exact hm) (fun k ok hk hki hun hno=>?_) (ready_mono hr (Ne.symm hji)) h3.1 ?_) h2
   ·refine hfree k ok hk hki ?_ hno
    by_cases hjk:j=k
    ·subst hjk;exact hjun
    ·rw[getD_set_ne true hjk] at hun;exact hun
   ·rw[Array.setIfInBounds_comm _ _ hji]
    exact h3.2
def Region.mayFirst (md:Region.Mode) (ops:Array Oper) (listed:Array Bool) (m i:Nat):Bool:=
 Region.noSelect ops&&Region.free md ops listed i&&(Region.ready md ops listed).contains i && !(listed.getD m true)&&(m != i) &&
  match ops[m]? with
  | some om=>om.after.any fun e=>Region.binds md e&&e.on==i
  | none=>false
theorem wpAnyC_take (i:Nat){oi:Oper}(v:Value){fuel:Nat}{listed:Array Bool}{a:Act}{w:World}(hi:ops[i]?=some oi)
 (hf:Region.mayFirst md ops listed m i=true)
 (hQ:∀ c a w,Q (.panic c) (a.put oi.dst v) w→Q (.panic c) a w) (hg:Region.wanted oi (yielded ops a.tmps)=true) (hy:∀ w,C w→(execOp a.eval oi).run P w=.ok (.value v) w)
 (h:wpAnyC P md ops m C Q fuel (listed.setIfInBounds i true) (a.put oi.dst v) w):wpAnyC P md ops m C Q (fuel+1) listed a w:=by
 simp only[Region.mayFirst,Bool.and_eq_true,bne_iff_ne,Bool.not_eq_true'] at hf
 obtain⟨⟨⟨⟨⟨hs,hf⟩,hr⟩,hm⟩,hmi⟩,hx⟩:=hf
 cases hmo:ops[m]? with
 | none=>rw[hmo] at hx;exact absurd hx Bool.false_ne_true
 | some om=>
  rw[hmo] at hx
  obtain⟨e,he,hb⟩:=Array.any_eq_true'.1 hx
  simp only[Bool.and_eq_true,beq_iff_eq] at hb
  exact wpAnyC_first hi hmo ⟨e,he,hb⟩ hmi (Region.noSelect_spec hs) hQ fuel listed a w hm (Region.free_spec hi hf) (by simpa using hr) ⟨hg,hy⟩ h
theorem wpAnyC_one (i:Nat){oi:Oper}{fuel:Nat}{listed:Array Bool}{a:Act}{w:World}(hi:ops[i]?=some oi) (hr:Region.ready md ops listed=[i]) (hC:listed.getD m true=false→C w)
 (h:∀ K:Act→World→Prop,(∀ a' w',wpAnyC P md ops m C Q fuel (listed.setIfInBounds i true) a' w'→K a' w')→if Region.wanted oi (yielded ops a.tmps)=true then oi.wp P a w K Q else K (a.put oi.dst undef) w):wpAnyC P md ops m C Q (fuel+1) listed a w:=by
 refine⟨hC,fun h0=>by rw[h0] at hr;exact absurd hr (by simp),fun j hj=>?_⟩
 rw[hr] at hj
 obtain rfl:j=i:=by simpa using hj
 unfold wpOp
 simp only[hi]
 have:=h _ (fun _ _ h=>h)
 split
 ·rename_i hg;rw[if_pos hg] at this;exact .inl this
 ·rename_i hg;rw[if_neg hg] at this;exact this
theorem wpAnyC_done {listed:Array Bool}{a:Act}{w:World}(hr:Region.ready md ops listed=[]) (hC:listed.getD m true=false→C w) (h:Q .normal a w):∀ fuel,wpAnyC P md ops m C Q fuel listed a w
 | 0=>⟨hC,hr,h⟩
 | _+1=>⟨hC,fun _=>h,fun i hi=>by rw[hr] at hi;exact absurd hi List.not_mem_nil⟩
theorem wp_regionC {id:Nat}{a:Act}{w:World}(m:Nat) (C:World→Prop) (hm:P.follows .mixedOrders=true)
 (h:wpAnyC P .any ops m C Q ops.size (Array.replicate ops.size false) a w.drew):(Code.region id ops true).wp P Q a w:=wp_region_any hm (wpAnyC.any _ _ _ _ h)
end
open Go.RowKit
section
variable {P:Program} {ops:Array Oper} {md:Region.Mode} {Q:Exit→Act→World→Prop} {C:World→Prop} {m:Nat}
def Skips (ops:Array Oper) (o:Oper) (a:Act):Prop:=Region.wanted o (yielded ops a.tmps)=false
theorem skip_late {oi oj:Oper}(hap:oi.apart ops oj=true) (hsj:∀ cs b,oj.op≠.select cs b)
 (hQ:∀ c a w,Q (.panic c) (a.put oi.dst undef) w→Q (.panic c) a w) {K:Act→World→Prop} {a:Act} {w:World}
 (hy:Skips ops oi a) (h:oj.wp P (a.put oi.dst undef) w K Q):oj.wp P a w (fun a' w'=>Skips ops oi a'∧K (a'.put oi.dst undef) w') Q:=by
 obtain⟨h1,h2,h3⟩:=Oper.apart_spec hap
 have keep:∀ (b:Act),Skips ops oi b→∀ u,Skips ops oi (b.put oj.dst u):=fun b hb u=>by
  unfold Skips;rw[wanted_put oi b oj.dst u h3];exact hb
 unfold Oper.wp at h⊢
 rw[execOp_put oj hsj a oi.dst undef h1] at h
 revert h
 generalize (execOp a.eval oj).run P w=r
 intro h
 match r,h with
 | .ok (.value u) w',h=>exact⟨keep a hy u,by rw[← Act.put_comm a undef u h2];exact h⟩
 | .ok .skip w',h=>exact⟨keep a hy _,by rw[← Act.put_comm a undef undef h2];exact h⟩
 | .ok (.defer d) w',h=>exact⟨keep { a with defers:=d::a.defers } hy _,by rw[← Act.put_comm _ undef undef h2,← Act.put_defers];exact h⟩
 | .ok (.enter f args) w',h=>
  refine Calls.mono h fun e w'' he=>?_
  match e,he with
  | .returned u,he=>exact⟨keep a hy u,by rw[← Act.put_comm a undef u h2];exact he⟩
  | .panicked c,he=>exact hQ _ _ _ he
  | .outgrown,he=>exact he
 | .ok (.row row args) w',h=>exact Rows.mono h fun u w'' he=>⟨keep a hy u,by rw[← Act.put_comm a undef u h2];exact he⟩
 | .halt (.panic u) w',h=>exact hQ _ _ _ h
theorem skipOp_late {j:Nat}{oi oj:Oper}(hj:ops[j]?=some oj) (hap:oi.apart ops oj=true) (hsj:∀ cs b,oj.op≠.select cs b)
 (hQ:∀ c a w,Q (.panic c) (a.put oi.dst undef) w→Q (.panic c) a w) {K:Act→World→Prop} {a:Act} {w:World}
 (hy:Skips ops oi a) (h:wpOp P ops Q j K (a.put oi.dst undef) w):wpOp P ops Q j (fun a' w'=>Skips ops oi a'∧K (a'.put oi.dst undef) w') a w:=by
 obtain⟨h1,h2,h3⟩:=Oper.apart_spec hap
 unfold wpOp at h⊢
 simp only[hj] at h⊢
 rw[wanted_put oj a oi.dst undef h1] at h
 by_cases hw:Region.wanted oj (yielded ops a.tmps)=true
 ·rw[if_pos hw] at h⊢
  refine h.imp (skip_late hap hsj hQ hy) (fun ⟨x,y⟩=>⟨?_,y⟩)
  unfold Oper.asks at x⊢
  rw[execOp_put oj hsj a oi.dst undef h1] at x
  exact x
 ·rw[if_neg hw] at h⊢
  refine⟨by unfold Skips;rw[wanted_put oi a oj.dst undef h3];exact hy,?_⟩
  rw[← Act.put_comm a undef undef h2];exact h
theorem Skips.wpOp {i:Nat}{o:Oper}{a:Act}{w:World}(hi:ops[i]?=some o) (hy:Skips ops o a){K:Act→World→Prop}(h:K (a.put o.dst undef) w):wpOp P ops Q i K a w:=by
 unfold Go.wpOp
 simp only[hi]
 rw[if_neg (by rw[show Region.wanted o (yielded ops a.tmps)=false from hy];decide)]
 exact h
end
open Go.RowKit
section
variable {P:Program} {ops:Array Oper} {md:Region.Mode} {Q:Exit→Act→World→Prop} {C:World→Prop}
def wpAllC (P:Program) (md:Region.Mode) (ops:Array Oper) (C:World→Prop) (Q:Exit→Act→World→Prop):Nat→Array Bool→Act→World→Prop
 | 0,listed,a,w=>C w∧Region.ready md ops listed=[]∧Q .normal a w
 | fuel+1,listed,a,w=>C w∧(Region.ready md ops listed=[]→Q .normal a w)∧
  ∀ i∈Region.ready md ops listed,wpOp P ops Q i (wpAllC P md ops C Q fuel (listed.setIfInBounds i true)) a w
theorem wpAllC.isIn:∀ {fuel:Nat}{listed:Array Bool}{a:Act}{w:World},wpAllC P md ops C Q fuel listed a w→C w
 | 0,_,_,_,h=>h.1
 | _+1,_,_,_,h=>h.1
theorem wpAllC.any:∀ (fuel:Nat) (listed:Array Bool) (a:Act) (w:World),wpAllC P md ops C Q fuel listed a w→wpAny P md ops Q fuel listed a w
 | 0,_,_,_,h=>h.2
 | fuel+1,listed,_,_,h=>⟨h.2.1,fun i hi=>wpOp_mono (fun a' w'=>wpAllC.any fuel (listed.setIfInBounds i true) a' w') (h.2.2 i hi)⟩
theorem wpAllC_first {i:Nat}{oi:Oper}{v:Value}(hi:ops[i]?=some oi)
 (hsel:∀ (j:Nat) (o:Oper) cs b,ops[j]?=some o→o.op≠.select cs b) (hQ:∀ c a w,Q (.panic c) (a.put oi.dst v) w→Q (.panic c) a w) (fuel:Nat) :
 ∀ (listed:Array Bool) (a:Act) (w:World),
  (∀ j oj,ops[j]?=some oj→j≠i→listed.getD j true=false→(∀ e∈oj.after,Region.binds md e=true→e.on≠i)→oi.apart ops oj=true)→
  i∈Region.ready md ops listed→GivesIn P ops C oi v a→
  wpAllC P md ops C Q fuel (listed.setIfInBounds i true) (a.put oi.dst v) w→wpAllC P md ops C Q (fuel+1) listed a w:=by
 induction fuel with
 | zero=>
  intro listed a w _ hr hy H
  have hC:C w:=H.isIn
  refine⟨hC,fun h=>absurd hr (by rw[h];exact List.not_mem_nil),fun j hj=>?_⟩
  by_cases hji:j=i
  ·subst hji;exact hy.wpOp hi hC H
  ·have:=ready_mono hj hji
   rw[H.2.1] at this
   exact absurd this List.not_mem_nil
 | succ fuel ih=>
  intro listed a w hfree hr hy H
  have hC:C w:=H.isIn
  refine⟨hC,fun h=>absurd hr (by rw[h];exact List.not_mem_nil),fun j hj=>?_⟩
  by_cases hji:j=i
  ·subst hji;exact hy.wpOp hi hC H
  ·obtain⟨hjun,oj,hoj,hall⟩:=mem_ready.1 hj
   have hiun:=(mem_ready.1 hr).1
   have hnot:∀ e∈oj.after,Region.binds md e=true→e.on≠i:=fun e he hb heq=>unlisted_not hiun (heq▸hall e he hb)
   have h2:=wpOp_late hoj (hfree j oj hoj hji hjun hnot) (fun cs b=>hsel i oi cs b hi) (fun cs b=>hsel j oj cs b hoj) hQ hy (H.2.2 j (ready_mono hj hji))
   refine wpOp_mono (fun a' w' h3=>ih (listed.setIfInBounds j true) a' w' (fun k ok hk hki hun hno=>?_) (ready_mono hr (Ne.symm hji)) h3.1 ?_) h2
   ·refine hfree k ok hk hki ?_ hno
    by_cases hjk:j=k
    ·subst hjk;exact hjun
    ·rw[getD_set_ne true hjk] at hun;exact hun
   ·rw[Array.setIfInBounds_comm _ _ hji]
    exact h3.2
theorem wpAllC_firstS {i:Nat}{oi:Oper}(hi:ops[i]?=some oi)
 (hsel:∀ (j:Nat) (o:Oper) cs b,ops[j]?=some o→o.op≠.select cs b) (hQ:∀ c a w,Q (.panic c) (a.put oi.dst undef) w→Q (.panic c) a w) (fuel:Nat) :
 ∀ (listed:Array Bool) (a:Act) (w:World),
  (∀ j oj,ops[j]?=some oj→j≠i→listed.getD j true=false→(∀ e∈oj.after,Region.binds md e=true→e.on≠i)→oi.apart ops oj=true)→
  i∈Region.ready md ops listed→Skips ops oi a→
  wpAllC P md ops C Q fuel (listed.setIfInBounds i true) (a.put oi.dst undef) w→wpAllC P md ops C Q (fuel+1) listed a w:=by
 induction fuel with
 | zero=>
  intro listed a w _ hr hy H
  have hC:C w:=H.isIn
  refine⟨hC,fun h=>absurd hr (by rw[h];exact List.not_mem_nil),fun j hj=>?_⟩
  by_cases hji:j=i
  ·subst hji;exact hy.wpOp hi H
  ·have:=ready_mono hj hji
   rw[H.2.1] at this
   exact absurd this List.not_mem_nil
 | succ fuel ih=>
  intro listed a w hfree hr hy H
  have hC:C w:=H.isIn
  refine⟨hC,fun h=>absurd hr (by rw[h];exact List.not_mem_nil),fun j hj=>?_⟩
  by_cases hji:j=i
  ·subst hji;exact hy.wpOp hi H
  ·obtain⟨hjun,oj,hoj,hall⟩:=mem_ready.1 hj
   have hiun:=(mem_ready.1 hr).1
   have hnot:∀ e∈oj.after,Region.binds md e=true→e.on≠i:=fun e he hb heq=>unlisted_not hiun (heq▸hall e he hb)
   have h2:=skipOp_late hoj (hfree j oj hoj hji hjun hnot) (fun cs b=>hsel j oj cs b hoj) hQ hy (H.2.2 j (ready_mono hj hji))
   refine wpOp_mono (fun a' w' h3=>ih (listed.setIfInBounds j true) a' w' (fun k ok hk hki hun hno=>?_) (ready_mono hr (Ne.symm hji)) h3.1 ?_) h2
   ·refine hfree k ok hk hki ?_ hno
    by_cases hjk:j=k
    ·subst hjk;exact hjun
    ·rw[getD_set_ne true hjk] at hun;exact hun
   ·rw[Array.setIfInBounds_comm _ _ hji]
    exact h3.2
def Region.mayAll (md:Region.Mode) (ops:Array Oper) (listed:Array Bool) (i:Nat):Bool:=
 Region.noSelect ops&&Region.free md ops listed i&&(Region.ready md ops listed).contains i
theorem wpAllC_take (i:Nat){oi:Oper}(v:Value){fuel:Nat}{listed:Array Bool}{a:Act}{w:World}(hi:ops[i]?=some oi)
 (hf:Region.mayAll md ops listed i=true)
 (hQ:∀ c a w,Q (.panic c) (a.put oi.dst v) w→Q (.panic c) a w) (hg:Region.wanted oi (yielded ops a.tmps)=true) (hy:∀ w,C w→(execOp a.eval oi).run P w=.ok (.value v) w)
 (h:wpAllC P md ops C Q fuel (listed.setIfInBounds i true) (a.put oi.dst v) w):wpAllC P md ops C Q (fuel+1) listed a w:=by
 simp only[Region.mayAll,Bool.and_eq_true] at hf
 obtain⟨⟨hs,hf⟩,hr⟩:=hf
 exact wpAllC_first hi (Region.noSelect_spec hs) hQ fuel listed a w (Region.free_spec hi hf) (by simpa using hr) ⟨hg,hy⟩ h
theorem wpAllC_skip (i:Nat){oi:Oper}{fuel:Nat}{listed:Array Bool}{a:Act}{w:World}(hi:ops[i]?=some oi)
 (hf:Region.mayAll md ops listed i=true)
 (hQ:∀ c a w,Q (.panic c) (a.put oi.dst undef) w→Q (.panic c) a w) (hg:Region.wanted oi (yielded ops a.tmps)=false)
 (h:wpAllC P md ops C Q fuel (listed.setIfInBounds i true) (a.put oi.dst undef) w):wpAllC P md ops C Q (fuel+1) listed a w:=by
 simp only[Region.mayAll,Bool.and_eq_true] at hf
 obtain⟨⟨hs,hf⟩,hr⟩:=hf
 exact wpAllC_firstS hi (Region.noSelect_spec hs) hQ fuel listed a w (Region.free_spec hi hf) (by simpa using hr) hg h
theorem wpAllC_one (i:Nat){oi:Oper}{fuel:Nat}{listed:Array Bool}{a:Act}{w:World}(hi:ops[i]?=some oi) (hr:Region.ready md ops listed=[i]) (hC:C w)
 (h:∀ K:Act→World→Prop,(∀ a' w',wpAllC P md ops C Q fuel (listed.setIfInBounds i true) a' w'→K a' w')→if Region.wanted oi (yielded ops a.tmps)=true then oi.wp P a w K Q else K (a.put oi.dst undef) w):wpAllC P md ops C Q (fuel+1) listed a w:=by
 refine⟨hC,fun h0=>by rw[h0] at hr;exact absurd hr (by simp),fun j hj=>?_⟩
 rw[hr] at hj
 obtain rfl:j=i:=by simpa using hj
 unfold wpOp
 simp only[hi]
 have:=h _ (fun _ _ h=>h)
 split
 ·rename_i hg;rw[if_pos hg] at this;exact .inl this
 ·rename_i hg;rw[if_neg hg] at this;exact this
theorem wpAllC_done {listed:Array Bool}{a:Act}{w:World}(hr:Region.ready md ops listed=[]) (hC:C w) (h:Q .normal a w):∀ fuel,wpAllC P md ops C Q fuel listed a w
 | 0=>⟨hC,hr,h⟩
 | _+1=>⟨hC,fun _=>h,fun i hi=>by rw[hr] at hi;exact absurd hi List.not_mem_nil⟩
theorem wp_regionAll {id:Nat}{a:Act}{w:World}(C:World→Prop) (hm:P.follows .mixedOrders=true)
 (h:wpAllC P .any ops C Q ops.size (Array.replicate ops.size false) a w.drew):(Code.region id ops true).wp P Q a w:=wp_region_any hm (wpAllC.any _ _ _ _ h)
end
end Go.Proofs.YtiifagiebikmdaaGreatDoor
