import Derived.WalkKit
import Derived.Test.YtokgeopihcopeaaGreatDoorRows
import Derived.Test.YtokgeopihcopeaaGreatDoorProg
set_option linter.defProp false
namespace Go.Proofs.YtokgeopihcopeaaGreatDoor
open Go.Proofs.Tryz
def i_:=@if_pos
def n_:=@if_neg
abbrev BA:=ByteArray
abbrev Aw:=World
abbrev Ax:=Value
abbrev Ay:=List Value
abbrev Az:=Nat->Prop
abbrev Av:=TypeId
abbrev As:=List (Nat×Nat)
abbrev Aq:=Bool
abbrev Ao:=List Nat
abbrev Am:=Option Addr
abbrev Ak:=Ending
abbrev Ai:=Nat->Value
abbrev Ac:=Option (Nat×Nat)
abbrev Aa:=Exit->Act->World->Prop
abbrev Bt:=Ending->World->Prop
abbrev Bb:=Nat->Addr
abbrev Dx:=Act->World->Prop
abbrev Dy:=Array Value
abbrev Dz:=Array Oper
abbrev Dq:=List BA
abbrev Do:=World->Prop
abbrev De:=List UInt8
abbrev Db:=Oper
abbrev Da:=Array Bool
abbrev Ew:=Option BA
abbrev Ex:=Value->World->Prop
abbrev Ey:=Program
abbrev Et:=FuncId
abbrev Er:=Nat->Nat
abbrev Z_(n:Int):Value:=.int .i64 n
abbrev S_(b n c:Nat):Value:=.slice (some ⟨b,0,none⟩) n c
abbrev z_(w:World)(b i:Nat)(v:Value):Prop:=w.cell? ⟨b,i,none⟩=some v
abbrev N_ :Nat->Prop:=λ _=>False
abbrev P_ (b:Nat):Value:=.pointer (some ⟨b,0,none⟩)
abbrev I_ (n:Nat):Value:=.int .i64 (n:Int)
abbrev O_ :Value:=.int .i64 0
abbrev U_ (n:Nat):Value:=.int .u8 (n:Int)
abbrev L_ :Value:=.slice none 0 0
def aa_:=@List.getElem?_cons_zero
def ab_:=@List.getElem?_cons_succ
def ac_:=@Nat.le_refl
def ad_:=@Prod.mk.injEq
def ae_:=@Except.ok.injEq
def af_:=@Option.some.injEq
def ag_:=@List.length_append
def ah_:=@ByteArray.size_append
def ai_:=@List.mem_of_getElem?
def aj_:=@List.getElem?_eq_getElem
def ak_:=@List.getElem?_eq_some_iff
def al_:=@Nat.le_trans
def am_:=@Nat.zero_le
def an_:=@List.set_cons_zero
def ao_:=@List.length_singleton
def ap_:=@List.set_cons_succ
def aq_:=@List.mem_cons
def ar_:=@List.getElem?_append_left
def as_:=@List.getD_eq_getElem?_getD
def au_:=@List.length_cons
def av_:=@List.length_nil
def aw_:=@List.getElem?_append_right
def ax_:=@List.getElem?_map
def ay_:=@Bool.or_eq_true
def az_:=@Int.cast_ofNat_Int
def a0_:=@List.map_cons
def a1_:=@Bool.false_eq_true
def a2_:=@List.mem_singleton
def a3_:=@Bool.and_eq_true
def a4_:=@List.mem_append
def a5_:=@Nat.lt_irrefl
def a6_:=@ByteArray.size_extract
def a7_:=@List.mem_map
def a8_:=@List.take_add_one
def a9_:=@List.flatMap_cons
def ba_:=@List.not_mem_nil
def bb_:=@List.flatMap_append
def bc_:=@List.take_of_length_le
def bd_:=@Nat.add_assoc
def be_:=@Nat.zero_add
def bf_:=@List.map_append
def bg_:=@List.append_nil
def bh_:=@Nat.mul_comm
def bi_:=@List.getElem_mem
def bj_:=@ByteArray.append_assoc
def bk_:=@List.cons_append
def bl_:=@Nat.lt_of_lt_of_le
def bm_:=@List.getElem?_eq_none
def bn_:=@List.map_nil
def bo_:=@List.mem_cons_self
def bp_:=@Nat.add_zero
def bq_:=@List.nil_append
def br_:=@List.length_set
def bs_:=@List.drop_eq_getElem_cons
def bt_:=@Int.toNat_natCast
def bu_:=@List.length_map
def bv_:=@List.range_succ
def bw_:=@List.getElem?_of_mem
def bx_:=@List.append_assoc
def by_:=@Option.map_some
def bz_:=@List.getElem?_set_ne
def b0_:=@List.drop_eq_nil_of_le
def b1_:=@List.getElem?_set
def b2_:=@ByteArray.ext
def b3_:=@List.mem_append_left
def b4_:=@Nat.mul_le_mul_right
def b5_:=@List.flatMap_nil
def b6_:=@Option.getD_some
def b7_:=@Nat.add_sub_cancel_left
def b8_:=@List.mem_append_right
def b9_:=@List.length_take
def ca_:=@Except.error.injEq
def cb_:=@List.getElem?_take
def cc_:=@Option.isSome_none
def cd_:=@List.mem_flatMap
def ce_:=@List.getElem?_range
def cf_:=@List.mem_cons_of_mem
def cg_:=@List.take_succ_cons
def ch_:=@List.append_eq_nil_iff
def ci_:=@Array.setIfInBounds_comm
def cj_:=@List.getElem?_set_self
def ck_:=@List.eq_nil_of_length_eq_zero
def cl_:=@Option.map_eq_some_iff
theorem u_ {p S:Nat→Prop}:∀ x,p x→S x→S x:=fun _ _ f=>f
theorem v_ {p S:Nat→Prop}:∀ x,p x→False→S x:=fun _ _ f=>f.elim
theorem l_ {n:Nat}:n≤n:=Nat.le_refl n
theorem o_ {n:Nat}:0≤n:=Nat.zero_le n
theorem M_ {p:Prop}(h:p:=by omega):p:=h
theorem D_ {p:Prop}(h:p:=by decide):p:=h
theorem K_ {p:Prop}(h:p:=by kernel_rfl):p:=h
theorem o1_ {p q:Prop}(h:p)(k:p->q:=by intro;omega):q:=k h
theorem o2_ {p q r:Prop}(h:p)(i:q)(k:p->q->r:=by intro _ _;omega):r:=k h i
theorem g_z {α:Type _} {a:α} {l:List α}:(a::l)[0]?=some a:=List.getElem?_cons_zero
theorem g_s {α:Type _} {a:α} {l:List α} {i:Nat}:(a::l)[i+1]?=l[i]?:=List.getElem?_cons_succ
def H_ (p:Prop):Prop:=p
theorem H_.o {p:Prop} (h:H_ p):p:=h
theorem q_ {p:Prop} (h:p):H_ p:=h
theorem hq_ {p:Program}{f:FuncId}{a:Array Value}{w:World}{Q:Ending->World->Prop}(h:∀ Q',H_ (Q'=Q)->Calls p f a w Q'):Calls p f a w Q:=h Q (q_ rfl)
theorem x0_{p:Prop}(h:p:=by first|exact zq.drewN _ _|exact(zq.drewN _ _).trans (zq.drewN _ _)|exact((zq.drewN _ _).trans (zq.drewN _ _)).trans (zq.drewN _ _)):p:=h
theorem x1_{p:Prop}(h:p:=by simp;omega):p:=h
theorem x2_{p:Prop}(h:p:=by rintro W ⟨h1,h2,h3,h4,h5,h6,h7⟩;go_simp<;>first|rfl|exact hwq):p:=h
theorem x3_{p:Prop}(h:p:=by intro W hW;obtain⟨q1,q2,q3,q4⟩:=hW;go_simp;rfl):p:=h
theorem x4_{p:Prop}(h:p:=by intro W h;rw[hCL.o] at h;obtain⟨c0,c1,c2,c3,c4,c5⟩:=h;go_simp<;>rfl):p:=h
theorem x5_{p:Prop}(h:p:=by rintro W ⟨h1,h2⟩;go_simp):p:=h
theorem x6_{p:Prop}(h:p:=by simp):p:=h
theorem x7_{p:Prop}(h:p:=by intro W hW;obtain⟨q0,q1⟩:=hW;go_simp;rfl):p:=h
theorem x8_{p:Prop}(h:p:=by intro W hW;go_simp<;>rfl):p:=h
theorem x9_{p:Prop}(h:p:=by rw[hw1];exact((Fr.refl W _).alloc _).alloc _):p:=h
theorem xa_{p:Prop}(h:p:=by rintro W ⟨hW,hW0,hW1,hW2,hW3,hW4⟩;go_simp<;>rfl):p:=h
theorem xb_{p:Prop}(h:p:=by simp[kdD]):p:=h
theorem xc_{p:Prop}(h:p:=by first|exact hb1.o.1|exact zG.fr hb1.o.1 (Fr.refl w1 (λ _=>False)).drew u_|exact zG.fr hb1.o.1 (Fr.refl w1 (λ _=>False)).drew.drew u_):p:=h
theorem xd_{p:Prop}(h:p:=by simp[results,results23,go_sem,q0,q1]):p:=h
theorem xe_{p:Prop}(h:p:=by rw[hw1];exact(Blk.new W _ _).alloc _):p:=h
theorem xf_{p:Prop}(h:p:=by rcases hm with⟨_,q1,q2,q3,q4,_⟩|⟨hq,_⟩;(exact⟨q1,q2.trans (by rw[hx.o]),q3,q4⟩);exact absurd (hsm.o.symm.trans hq) D_):p:=h
theorem xg_{p:Prop}(h:p:=by rw[beq_eq_false_iff_ne];omega):p:=h
theorem xh_{p:Prop}(h:p:=by simp[results,results218,go_sem,q0,q1,q2,q3]):p:=h
theorem xi_{p:Prop}(h:p:=by rcases hm with⟨_,q1,q2,_⟩|⟨hq,_⟩;(exact⟨q1,q2⟩);exact absurd h40.o hq):p:=h
theorem xj_{p:Prop}(h:p:=by rcases hm with⟨hq,_⟩|⟨_,⟨g,q1,q2,q3⟩,q4⟩;(exact absurd (hsm.o.symm.trans hq) D_);exact⟨g,q1,q2,q3,q4⟩):p:=h
theorem xk_{p:Prop}(h:p:=by rw[hwz];exact(((Fr.refl w (λ _=>False)).alloc _).alloc _).alloc _):p:=h
theorem xl_{p:Prop}(h:p:=by simp[results,results12,go_sem]):p:=h
theorem xm_{p:Prop}(h:p:=by simp[results,results40,go_sem,q0,q1]):p:=h
theorem xn_{p:Prop}(h:p:=by rcases hm with⟨hq,_⟩|⟨_,⟨g,q1,q2,q3⟩,q4⟩;(exact absurd hq h40.o);exact⟨g,q1,q2,q3,q4⟩):p:=h
theorem xo_{p:Prop}(h:p:=by rfl):p:=h
theorem xp_{p:Prop}(h:p:=by first|exact zq.refl _|exact zq.drewN _ _|exact zq.drew _):p:=h
theorem xq_{p:Prop}(h:p:=by simp[results,results15,go_sem,q0,q1,q2,q3]):p:=h
theorem xr_{p:Prop}(h:p:=by first|exact Fr.refl _ _|exact(Fr.refl _ _).drew|exact(Fr.refl _ _).drew.drew):p:=h
theorem xs_{p:Prop}(h:p:=by unfold maxLen;omega):p:=h
theorem xt_{p:Prop}(h:p:=by rcases hm with⟨q0,q1,_⟩|⟨_,q1,q2⟩;(exact absurd ⟨q0,q1⟩ hb.o);exact⟨q1,q2⟩):p:=h
theorem xu_{p:Prop}(h:p:=by simp[results,results146,go_sem,q0,q1]):p:=h
theorem xv_{p:Prop}(h:p:=by rw[show cnt-acc.length=0 by omega] at hres;simp[xP,gB] at hres;exact hres):p:=h
theorem xw_{p:Prop}(h:p:=by rw[ah_];omega):p:=h
theorem xx_{p:Prop}(h:p:=by first|exact(Fr.refl _ _).drew|exact Fr.refl _ _):p:=h
theorem xy_{p:Prop}(h:p:=by rw[hw1];exact(Fr.refl W _).alloc _):p:=h
theorem xz_{p:Prop}(h:p:=by rw[hw1];exact((Fr.refl w _).alloc _).alloc _):p:=h
theorem y0_{p:Prop}(h:p:=by rw[IntKind.wrap_i64];omega):p:=h
theorem y1_{p:Prop}(h:p:=by have:F.fb<F.tu/\F.tu<W.heap.size:=hl F.tu (.inl (.inl rfl));omega):p:=h
theorem y2_{p:Prop}(h:p:=by first|exact hb1.o.2|exact hb1.o.2.drew|exact hb1.o.2.drew.drew):p:=h
theorem y3_{p:Prop}(h:p:=by simpa[zY] using h):p:=h
theorem y4_{p:Prop}(h:p:=by show w.heap.size<=w.heap.size+1+1;omega):p:=h
theorem y5_{p:Prop}(h:p:=by rw[hr.o];exact⟨rfl,rfl⟩):p:=h
theorem y6_{p:Prop}(h:p:=by unfold ndT;simp[za]):p:=h
theorem y7_{p:Prop}(h:p:=by have:=M.hs;omega):p:=h
theorem y8_{p:Prop}(h:p:=by simp[results,results219,go_sem,q0,q1]):p:=h
theorem y9_{p:Prop}(h:p:=by rw[hwz];exact((Fr.refl w (λ _=>False)).alloc _).alloc _):p:=h
theorem ya_{p:Prop}(h:p:=by rw[hw1];exact Blk.new W _ _):p:=h
theorem yb_{p:Prop}(h:p:=by simp[results,results50,go_sem,x0,x1]):p:=h
theorem yc_{p:Prop}(h:p:=by simp[zi] at h1⊢;omega):p:=h
theorem yd_{p:Prop}(h:p:=by rw[hw4];exact(Fr.refl wr _).alloc _):p:=h
theorem ye_{p:Prop}(h:p:=by rw[getD_set_ne true (Ne.symm hmi)];exact(hB m hmB).1):p:=h
theorem yf_{p:Prop}(h:p:=by rw[a6_];omega):p:=h
theorem yg_{p:Prop}(h:p:=by rw[hlv.o]<;>omega):p:=h
theorem yh_{p:Prop}(h:p:=by rw[hw0];exact(Fr.refl w _).alloc _):p:=h
theorem yi_{p:Prop}(h:p:=by rw[hres.o];exact⟨rfl,rfl,rfl,rfl,rfl,rfl,rfl,rfl⟩):p:=h
theorem yj_{p:Prop}(h:p:=by cases e):p:=h
theorem yk_{p:Prop}(h:p:=by simp only[zl,a3_,decide_eq_true_eq] at hb;omega):p:=h
theorem yl_{p:Prop}(h:p:=by show ¬ (w.heap.size+1=bl);omega):p:=h
theorem ym_{p:Prop}(h:p:=by show ¬ (w.heap.size+2=bl);omega):p:=h
theorem yn_{p:Prop}(h:p:=by simp only[ah_,yP,au_,av_];omega):p:=h
theorem yo_{p:Prop}(h:p:=by have:=List.sizeOf_lt_of_mem ht;simp at h;omega):p:=h
theorem yp_{p:Prop}(h:p:=by unfold yY;omega):p:=h
theorem yq_{p:Prop}(h:p:=by simp[results,results39,go_sem,q0,q1,q2,q3,q4]):p:=h
theorem yr_{p:Prop}(h:p:=by show fb<_;omega):p:=h
theorem ys_{p:Prop}(h:p:=by rw[<- hb,<- hz];exact λ e=>g2 ⟨e.1,.inl e.2⟩):p:=h
theorem yt_{p:Prop}(h:p:=by show ¬ (w.heap.size+1=w.heap.size+1+1);omega):p:=h
theorem yu_{p:Prop}(h:p:=by rw[<- List.map_take];exact he):p:=h
theorem yv_{p:Prop}(h:p:=by simpa using hl):p:=h
theorem yw_{p:Prop}(h:p:=by rw[hsm];decide):p:=h
theorem yx_{p:Prop}(h:p:=by rw[hw4];exact Blk.new wr _ _):p:=h
theorem yy_{p:Prop}(h:p:=by rw[hr.o];exact⟨rfl,rfl,hkb.o,rfl,hwE.o⟩):p:=h
theorem yz_{p:Prop}(h:p:=by have:=hneg.o;have:=hc.o;simp at *;omega):p:=h
theorem z0_{p:Prop}(h:p:=by simp[results,results68,go_sem,q0,q1,q2]):p:=h
theorem z1_{p:Prop}(h:p:=by simp only;omega):p:=h
theorem z2_{p:Prop}(h:p:=by unfold sgn;rw[if_pos h45]):p:=h
theorem z3_{p:Prop}(h:p:=by rw[hans.o];simp):p:=h
theorem z4_{p:Prop}(h:p:=by obtain⟨_,_,_,_,_⟩:=d;unfold ndT;omega):p:=h
theorem z5_{p:Prop}(h:p:=by simp[results,results148,go_sem,q0,q1]):p:=h
theorem z6_{p:Prop}(h:p:=by simp[results,results161,go_sem,x0,x1]):p:=h
theorem z7_{p:Prop}(h:p:=by simpa[zY] using hc):p:=h
theorem z8_{p:Prop}(h:p:=by simpa using hc):p:=h
theorem z9_{p:Prop}(h:p:=by rw[hll];exact ho5):p:=h
theorem za_{p:Prop}(h:p:=by simpa using h):p:=h
theorem zb_{p:Prop}(h:p:=by simpa using q):p:=h
theorem zc_{p:Prop}(h:p:=by simp at hc;omega):p:=h
theorem zd_{p:Prop}(h:p:=by unfold xK;rw[he]):p:=h
theorem ze_{p:Prop}(h:p:=by rw[hd];simp[kdD]):p:=h
theorem zf_{p:Prop}(h:p:=by unfold stp;omega):p:=h
theorem zg_{p:Prop}(h:p:=by unfold xm;rw[h45];rfl):p:=h
theorem zh_{p:Prop}(h:p:=by simp[byT]):p:=h
theorem zi_{p:Prop}(h:p:=by simp[Value.oneCell']):p:=h
theorem zj_{p:Prop}(h:p:=by rw[hb.o];decide):p:=h
theorem zk_{p:Prop}(h:p:=by have:=hre.2 hj;omega):p:=h
theorem zl_{p:Prop}(h:p:=by rw[hnk.o];exact hkl0):p:=h
theorem zm_{p:Prop}(h:p:=by rw[hi] at e;cases e):p:=h
theorem zn_{p:Prop}(h:p:=by rw[e];rfl):p:=h
theorem zo_{p:Prop}(h:p:=by rw[h0];decide):p:=h
theorem zp_{p:Prop}(h:p:=by simp[DT.subs]):p:=h
theorem zq_{p:Prop}(h:p:=by assumption):p:=h
theorem zr_{p:Prop}(h:p:=by simp[vf]):p:=h
theorem zs_{p:Prop}(h:p:=by simp[hb]):p:=h
theorem zt_{p:Prop}(h:p:=by omega):p:=h
theorem e_{α:Sort _}(a:α):∃ V,V=a:=⟨_,rfl⟩
theorem x_{α:Sort _}(a:α):∃ V,a=V:=⟨_,rfl⟩
theorem y_{α:Sort _}(a:α):∃ V,H_ (V=a):=⟨_,rfl⟩
theorem h_{p q r s:Prop}(f:H_ p->H_ q->H_ r->s):p->q->r->s:=f
theorem g_{p q r t s:Prop}(f:H_ p->H_ q->H_ r->H_ t->s):p->q->r->t->s:=f
theorem k_{p q r t u s:Prop}(f:H_ p->H_ q->H_ r->H_ t->H_ u->s):p->q->r->t->u->s:=f
theorem m_{p q r t u v s:Prop}(f:H_ p->H_ q->H_ r->H_ t->H_ u->H_ v->s):p->q->r->t->u->v->s:=f
end Go.Proofs.YtokgeopihcopeaaGreatDoor
