import Derived.Test.YtiifagiebikmdaaGreatDoorRows
import Derived.Test.YtiifagiebikmdaaGreatDoorProg
set_option linter.defProp false
namespace Go.Proofs.YtiifagiebikmdaaGreatDoor
abbrev BA:=ByteArray
def aa_:=@List.getElem?_cons_zero
def ab_:=@List.getElem?_cons_succ
def ac_:=@Nat.le_refl
def ad_:=@Prod.mk.injEq
def ae_:=@Except.ok.injEq
def af_:=@Int.cast_ofNat_Int
def ag_:=@Option.some.injEq
def ah_:=@List.length_append
def ai_:=@Nat.le_trans
def aj_:=@List.set_cons_zero
def ak_:=@Nat.zero_le
def al_:=@List.set_cons_succ
def am_:=@List.length_singleton
def an_:=@List.getElem?_eq_getElem
def ao_:=@List.length_nil
def ap_:=@List.mem_cons
def aq_:=@List.length_cons
def ar_:=@List.getElem?_append_right
def as_:=@List.getElem?_eq_some_iff
def au_:=@List.getElem?_append_left
def av_:=@ByteArray.size_append
def aw_:=@List.mem_of_getElem?
def ax_:=@Bool.or_eq_true
def ay_:=@List.map_cons
def az_:=@ByteArray.append_assoc
def a0_:=@List.getElem_mem
def a1_:=@Bool.and_eq_true
def a2_:=@Nat.mul_comm
def a3_:=@Bool.false_eq_true
def a4_:=@List.cons_append
def a5_:=@Nat.lt_of_lt_of_le
def a6_:=@List.map_nil
def a7_:=@List.drop_eq_getElem_cons
def a8_:=@List.flatMap_append
def a9_:=@List.not_mem_nil
def ba_:=@List.nil_append
def bb_:=@ByteArray.size_extract
def bc_:=@List.append_nil
def bd_:=@List.getD_eq_getElem?_getD
def be_:=@List.map_append
def bf_:=@List.length_map
def bg_:=@List.mem_append
def bh_:=@List.range_succ
def bi_:=@List.take_add_one
def bj_:=@List.mem_singleton
def bk_:=@List.getElem?_map
def bl_:=@List.flatMap_cons
def bm_:=@Int.toNat_natCast
def bn_:=@List.getElem?_eq_none
def bo_:=@List.append_assoc
def bp_:=@Nat.add_zero
def bq_:=@List.drop_eq_nil_of_le
def br_:=@Nat.zero_add
def bs_:=@List.mem_map
def bt_:=@Nat.mul_le_mul_right
def bu_:=@List.take_of_length_le
def bv_:=@Nat.add_assoc
def bw_:=@Option.map_some
def bx_:=@Nat.eq_zero_or_pos
def by_:=@List.getElem?_set_ne
def bz_:=@List.mem_cons_self
def b0_:=@List.flatMap_nil
def b1_:=@Except.error.injEq
def b2_:=@List.getElem?_take
def b3_:=@Nat.mul_le_mul_left
def b4_:=@Option.map_eq_some_iff
theorem u_ {p S:Nat→Prop}:∀ x,p x→S x→S x:=fun _ _ f=>f
theorem v_ {p S:Nat→Prop}:∀ x,p x→False→S x:=fun _ _ f=>f.elim
theorem l_ {n:Nat}:n≤n:=Nat.le_refl n
theorem o_ {n:Nat}:0≤n:=Nat.zero_le n
theorem g_z {α:Type _} {a:α} {l:List α}:(a::l)[0]?=some a:=List.getElem?_cons_zero
theorem g_s {α:Type _} {a:α} {l:List α} {i:Nat}:(a::l)[i+1]?=l[i]?:=List.getElem?_cons_succ
def H_ (p:Prop):Prop:=p
theorem H_.o {p:Prop} (h:H_ p):p:=h
theorem q_ {p:Prop} (h:p):H_ p:=h
theorem hq_ {p:Program}{f:FuncId}{a:Array Value}{w:World}{Q:Ending->World->Prop}(h:∀ Q',H_ (Q'=Q)->Calls p f a w Q'):Calls p f a w Q:=h Q (q_ rfl)
end Go.Proofs.YtiifagiebikmdaaGreatDoor
