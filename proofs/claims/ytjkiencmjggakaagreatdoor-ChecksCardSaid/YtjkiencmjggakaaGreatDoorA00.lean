import Derived.Test.YtjkiencmjggakaaGreatDoorRows
import Derived.Test.YtjkiencmjggakaaGreatDoorProg
set_option linter.defProp false
namespace Go.Proofs.YtjkiencmjggakaaGreatDoor
open Go.Proofs.Tryz
def i_:=@if_pos
def n_:=@if_neg
abbrev BA:=ByteArray
abbrev z_(n:Int):Value:=.int .i64 n
abbrev S_(b n c:Nat):Value:=.slice (some ⟨b,0,none⟩) n c
abbrev f_(w:World)(b i:Nat)(v:Value):Prop:=w.cell? ⟨b,i,none⟩=some v
abbrev N_ :Nat->Prop:=λ _=>False
abbrev P_ (b:Nat):Value:=.pointer (some ⟨b,0,none⟩)
abbrev I_ (n:Nat):Value:=.int .i64 (n:Int)
abbrev O_ :Value:=.int .i64 0
abbrev U_ (n:Nat):Value:=.int .u8 (n:Int)
abbrev L_ :Value:=.slice none 0 0
def aa_:=@List.getElem?_cons_zero
def ab_:=@List.getElem?_cons_succ
def ac_:=@Nat.le_refl
def ad_:=@Prod.mk.injEq
def ae_:=@List.getElem?_eq_some_iff
def af_:=@List.getElem?_eq_getElem
def ag_:=@Except.ok.injEq
def ah_:=@Option.some.injEq
def ai_:=@List.length_append
def aj_:=@List.mem_of_getElem?
def ak_:=@Nat.le_trans
def al_:=@Nat.zero_le
def am_:=@List.set_cons_zero
def an_:=@List.set_cons_succ
def ao_:=@List.mem_cons
def ap_:=@List.getD_eq_getElem?_getD
def aq_:=@List.getElem?_map
def ar_:=@List.getElem?_append_left
def as_:=@List.getElem?_append_right
def au_:=@Bool.or_eq_true
def av_:=@List.length_singleton
def aw_:=@List.map_cons
def ax_:=@Bool.and_eq_true
def ay_:=@List.mem_map
def az_:=@Int.cast_ofNat_Int
def a0_:=@List.getElem_mem
def a1_:=@List.mem_singleton
def a2_:=@List.mem_append
def a3_:=@Nat.lt_irrefl
def a4_:=@List.getElem?_eq_none
def a5_:=@List.getElem?_of_mem
def a6_:=@List.length_cons
def a7_:=@List.length_nil
def a8_:=@ByteArray.size_append
def a9_:=@List.not_mem_nil
def ba_:=@List.drop_eq_getElem_cons
def bb_:=@Nat.lt_of_lt_of_le
def bc_:=@Nat.mul_comm
def bd_:=@List.map_nil
def be_:=@List.flatMap_append
def bf_:=@List.take_add_one
def bg_:=@List.getElem?_set
def bh_:=@List.length_set
def bi_:=@List.cons_append
def bj_:=@List.map_append
def bk_:=@List.nil_append
def bl_:=@ByteArray.size_extract
def bm_:=@List.flatMap_cons
def bn_:=@Nat.zero_add
def bo_:=@List.length_map
def bp_:=@List.range_succ
def bq_:=@List.getElem?_set_ne
def br_:=@Nat.add_assoc
def bs_:=@Bool.false_eq_true
def bt_:=@Nat.not_lt_zero
def bu_:=@List.mem_append_left
def bv_:=@List.take_of_length_le
def bw_:=@List.append_eq_nil_iff
def bx_:=@List.drop_eq_nil_of_le
def by_:=@List.append_assoc
def bz_:=@Option.map_some
def b0_:=@List.mem_cons_self
def b1_:=@List.mem_append_right
def b2_:=@List.foldl_cons
def b3_:=@List.append_nil
def b4_:=@Option.map_eq_some_iff
def b5_:=@Except.error.injEq
def b6_:=@Nat.mul_le_mul_right
def b7_:=@List.getElem?_take
def b8_:=@Nat.add_sub_cancel_left
def b9_:=@List.getElem?_range
def ca_:=@List.drop_of_length_le
def cb_:=@List.mem_or_eq_of_mem_set
def cc_:=@Array.setIfInBounds_comm
def cd_:=@List.getElem?_set_self
theorem u_ {p S:Nat→Prop}:∀ x,p x→S x→S x:=fun _ _ f=>f
theorem v_ {p S:Nat→Prop}:∀ x,p x→False→S x:=fun _ _ f=>f.elim
theorem l_ {n:Nat}:n≤n:=Nat.le_refl n
theorem o_ {n:Nat}:0≤n:=Nat.zero_le n
theorem M_ {p:Prop}(h:p:=by omega):p:=h
theorem D_ {p:Prop}(h:p:=by decide):p:=h
theorem K_ {p:Prop}(h:p:=by kernel_rfl):p:=h
theorem g_z {α:Type _} {a:α} {l:List α}:(a::l)[0]?=some a:=List.getElem?_cons_zero
theorem g_s {α:Type _} {a:α} {l:List α} {i:Nat}:(a::l)[i+1]?=l[i]?:=List.getElem?_cons_succ
def H_ (p:Prop):Prop:=p
theorem H_.o {p:Prop} (h:H_ p):p:=h
theorem q_ {p:Prop} (h:p):H_ p:=h
theorem hq_ {p:Program}{f:FuncId}{a:Array Value}{w:World}{Q:Ending->World->Prop}(h:∀ Q',H_ (Q'=Q)->Calls p f a w Q'):Calls p f a w Q:=h Q (q_ rfl)
theorem e_{α:Sort _}(a:α):∃ V,V=a:=⟨_,rfl⟩
theorem x_{α:Sort _}(a:α):∃ V,a=V:=⟨_,rfl⟩
theorem y_{α:Sort _}(a:α):∃ V,H_ (V=a):=⟨_,rfl⟩
theorem h_{p q r s:Prop}(f:H_ p->H_ q->H_ r->s):p->q->r->s:=f
theorem g_{p q r t s:Prop}(f:H_ p->H_ q->H_ r->H_ t->s):p->q->r->t->s:=f
theorem k_{p q r t u s:Prop}(f:H_ p->H_ q->H_ r->H_ t->H_ u->s):p->q->r->t->u->s:=f
theorem m_{p q r t u v s:Prop}(f:H_ p->H_ q->H_ r->H_ t->H_ u->H_ v->s):p->q->r->t->u->v->s:=f
end Go.Proofs.YtjkiencmjggakaaGreatDoor
