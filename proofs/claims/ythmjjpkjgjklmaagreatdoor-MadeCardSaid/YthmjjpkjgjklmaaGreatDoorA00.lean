import Derived.Test.YthmjjpkjgjklmaaGreatDoorRows
import Derived.Test.YthmjjpkjgjklmaaGreatDoorProg
set_option linter.defProp false
namespace Go.Proofs.YthmjjpkjgjklmaaGreatDoor
abbrev BA:=ByteArray
def aa_:=@List.getElem?_cons_zero
def ab_:=@Prod.mk.injEq
def ac_:=@List.getElem?_cons_succ
def ad_:=@Option.some.injEq
def ae_:=@Nat.le_refl
def af_:=@Except.ok.injEq
def ag_:=@ByteArray.size_append
def ah_:=@Nat.le_trans
def ai_:=@List.length_singleton
def aj_:=@Nat.zero_le
def ak_:=@List.mem_of_getElem?
def al_:=@List.length_append
def am_:=@List.getElem?_eq_getElem
def an_:=@List.mem_cons
def ao_:=@List.getElem?_eq_some_iff
def ap_:=@List.map_cons
def aq_:=@List.getD_eq_getElem?_getD
def ar_:=@List.length_cons
def as_:=@ByteArray.size_extract
def au_:=@Bool.or_eq_true
def av_:=@List.getElem?_append_left
def aw_:=@List.getElem?_append_right
def ax_:=@List.length_nil
def ay_:=@List.mem_cons_self
def az_:=@Bool.false_eq_true
def a0_:=@Nat.add_assoc
def a1_:=@List.map_nil
def a2_:=@Option.map_some
def a3_:=@List.take_of_length_le
def a4_:=@List.getElem?_map
def a5_:=@List.flatMap_append
def a6_:=@List.mem_singleton
def a7_:=@Nat.add_zero
def a8_:=@List.append_nil
def a9_:=@Bool.and_eq_true
def ba_:=@List.take_add_one
def bb_:=@ByteArray.append_assoc
def bc_:=@Int.toNat_natCast
def bd_:=@List.getElem_mem
def be_:=@List.flatMap_cons
def bf_:=@List.not_mem_nil
def bg_:=@Nat.zero_add
def bh_:=@List.drop_eq_getElem_cons
def bi_:=@List.range_succ
def bj_:=@List.mem_append
def bk_:=@List.mem_map
def bl_:=@Nat.lt_of_lt_of_le
def bm_:=@List.getElem?_eq_none
def bn_:=@List.cons_append
def bo_:=@Nat.mul_comm
def bp_:=@List.nil_append
def bq_:=@List.map_append
def br_:=@ByteArray.ext
def bs_:=@List.set_cons_zero
def bt_:=@List.set_cons_succ
def bu_:=@List.drop_eq_nil_of_le
def bv_:=@List.mem_cons_of_mem
def bw_:=@Nat.eq_zero_or_pos
def bx_:=@List.flatMap_nil
def by_:=@Nat.lt_irrefl
def bz_:=@List.append_eq_nil_iff
def b0_:=@Option.getD_some
def b1_:=@Nat.mul_le_mul_right
def b2_:=@List.mem_append_right
def b3_:=@List.length_take
def b4_:=@Except.error.injEq
def b5_:=@List.getElem?_take
def b6_:=@List.mem_append_left
def b7_:=@List.getElem?_set_ne
def b8_:=@List.take_succ_cons
def b9_:=@Option.map_eq_some_iff
def ca_:=@List.eq_nil_of_length_eq_zero
def cb_:=@Option.isSome_none
theorem u_ {p S:Nat→Prop}:∀ x,p x→S x→S x:=fun _ _ f=>f
theorem v_ {p S:Nat→Prop}:∀ x,p x→False→S x:=fun _ _ f=>f.elim
theorem l_ {n:Nat}:n≤n:=Nat.le_refl n
theorem o_ {n:Nat}:0≤n:=Nat.zero_le n
theorem g_z {α:Type _} {a:α} {l:List α}:(a::l)[0]?=some a:=List.getElem?_cons_zero
theorem g_s {α:Type _} {a:α} {l:List α} {i:Nat}:(a::l)[i+1]?=l[i]?:=List.getElem?_cons_succ
def H_ (p:Prop):Prop:=p
theorem H_.o {p:Prop} (h:H_ p):p:=h
theorem q_ {p:Prop} (h:p):H_ p:=h
theorem hq_ {p:Program}{f:FuncId}{a:Array Value}{w:World}{Q:Ending->World->Prop}(h:∀ Q',H_ (Q'=Q)->Calls p f a w Q'):Calls p f a w Q:=h Q (q_ rfl)
end Go.Proofs.YthmjjpkjgjklmaaGreatDoor
