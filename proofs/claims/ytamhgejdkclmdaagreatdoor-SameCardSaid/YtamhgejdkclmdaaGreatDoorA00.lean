import Derived.WalkKit
import Derived.Test.YtamhgejdkclmdaaGreatDoorRows
import Derived.Test.YtamhgejdkclmdaaGreatDoorProg
set_option linter.defProp false
namespace Go.Proofs.YtamhgejdkclmdaaGreatDoor
open Go.Proofs.Tryz
def i_:=@if_pos
def n_:=@if_neg
abbrev BA:=ByteArray
abbrev Co:=Ending->World->Prop
abbrev Ay:=List Value
abbrev Dq:=World->Prop
abbrev Ew:=Program
abbrev Ce:=Act->World->Prop
abbrev Al:=Option Addr
abbrev Ac:=Option (Nat×Nat)
abbrev Db:=List UInt8
abbrev Aa:=Exit->Act->World->Prop
abbrev Ca:=Array Value
abbrev Dx:=List BA
abbrev En:=Nat->Nat
abbrev Ak:=Ending
abbrev As:=List (Nat×Nat)
abbrev Et:=FuncId
abbrev Az:=Nat->Prop
abbrev Ao:=List Nat
abbrev De:=Oper
abbrev Av:=TypeId
abbrev Bb:=Nat->Addr
abbrev Ah:=Nat->Value
abbrev Dc:=Array Bool
abbrev Ey:=Option BA
abbrev Da:=Value->World->Prop
abbrev Ar:=Bool
abbrev Aw:=World
abbrev Dy:=Array Oper
abbrev Ax:=Value
abbrev Z_(n:Int):Value:=.int .i64 n
abbrev S_(b n c:Nat):Value:=.slice (some ⟨b,0,none⟩) n c
abbrev z_(w:World)(b i:Nat)(v:Value):Prop:=w.cell? ⟨b,i,none⟩=some v
abbrev N_ :Nat->Prop:=λ _=>False
abbrev P_ (b:Nat):Value:=.pointer (some ⟨b,0,none⟩)
abbrev I_ (n:Nat):Value:=.int .i64 (n:Int)
abbrev O_ :Value:=.int .i64 0
abbrev U_ (n:Nat):Value:=.int .u8 (n:Int)
abbrev L_ :Value:=.slice none 0 0
def aa_:=@List.getElem?_cons_zero
def ab_:=@List.getElem?_cons_succ
def ac_:=@Prod.mk.injEq
def ad_:=@Nat.le_refl
def ae_:=@Except.ok.injEq
def af_:=@Option.some.injEq
def ag_:=@List.mem_of_getElem?
def ah_:=@List.length_append
def ai_:=@List.getElem?_eq_some_iff
def aj_:=@Nat.le_trans
def ak_:=@List.getElem?_eq_getElem
def al_:=@Nat.zero_le
def am_:=@List.set_cons_zero
def an_:=@List.mem_cons
def ao_:=@List.set_cons_succ
def ap_:=@List.length_singleton
def aq_:=@List.getElem?_append_left
def ar_:=@ByteArray.size_append
def as_:=@List.getElem?_map
def au_:=@List.getElem?_append_right
def av_:=@List.map_cons
def aw_:=@List.getD_eq_getElem?_getD
def ax_:=@Bool.or_eq_true
def ay_:=@List.length_cons
def az_:=@Int.cast_ofNat_Int
def a0_:=@Bool.and_eq_true
def a1_:=@List.length_nil
def a2_:=@List.mem_singleton
def a3_:=@List.mem_map
def a4_:=@List.mem_append
def a5_:=@Nat.lt_irrefl
def a6_:=@List.take_add_one
def a7_:=@List.flatMap_cons
def a8_:=@List.not_mem_nil
def a9_:=@List.flatMap_append
def ba_:=@List.map_nil
def bb_:=@List.map_append
def bc_:=@List.take_of_length_le
def bd_:=@List.append_nil
def be_:=@Bool.false_eq_true
def bf_:=@List.cons_append
def bg_:=@Nat.lt_of_lt_of_le
def bh_:=@Option.map_some
def bi_:=@Nat.mul_comm
def bj_:=@List.getElem_mem
def bk_:=@ByteArray.size_extract
def bl_:=@List.getElem?_eq_none
def bm_:=@List.nil_append
def bn_:=@List.length_set
def bo_:=@List.drop_eq_getElem_cons
def bp_:=@List.getElem?_of_mem
def bq_:=@List.length_map
def br_:=@List.range_succ
def bs_:=@Int.toNat_natCast
def bt_:=@List.append_assoc
def bu_:=@List.getElem?_set_ne
def bv_:=@List.append_eq_nil_iff
def bw_:=@Nat.add_assoc
def bx_:=@Nat.zero_add
def by_:=@List.mem_append_left
def bz_:=@List.getElem?_set
def b0_:=@Option.map_eq_some_iff
def b1_:=@List.drop_eq_nil_of_le
def b2_:=@List.mem_cons_self
def b3_:=@Nat.add_zero
def b4_:=@List.mem_append_right
def b5_:=@ByteArray.ext
def b6_:=@Nat.mul_le_mul_right
def b7_:=@List.flatMap_nil
def b8_:=@Option.getD_some
def b9_:=@ByteArray.append_assoc
def ca_:=@List.length_take
def cb_:=@List.mem_flatMap
def cc_:=@Except.error.injEq
def cd_:=@List.getElem?_take
def ce_:=@List.getElem?_range
def cf_:=@Array.setIfInBounds_comm
def cg_:=@Nat.add_sub_cancel_left
def ch_:=@List.getElem?_set_self
def ci_:=@List.eq_nil_of_length_eq_zero
theorem u_ {p S:Nat→Prop}:∀ x,p x→S x→S x:=fun _ _ f=>f
theorem v_ {p S:Nat→Prop}:∀ x,p x→False→S x:=fun _ _ f=>f.elim
theorem l_ {n:Nat}:n≤n:=Nat.le_refl n
theorem o_ {n:Nat}:0≤n:=Nat.zero_le n
theorem M_ {p:Prop}(h:p:=by omega):p:=h
theorem D_ {p:Prop}(h:p:=by decide):p:=h
theorem K_ {p:Prop}(h:p:=by kernel_rfl):p:=h
theorem g_z {α:Type _} {a:α} {l:List α}:(a::l)[0]?=some a:=List.getElem?_cons_zero
theorem g_s {α:Type _} {a:α} {l:List α} {i:Nat}:(a::l)[i+1]?=l[i]?:=List.getElem?_cons_succ
def H_ (p:Prop):Prop:=p
theorem H_.o {p:Prop} (h:H_ p):p:=h
theorem q_ {p:Prop} (h:p):H_ p:=h
theorem hq_ {p:Program}{f:FuncId}{a:Array Value}{w:World}{Q:Ending->World->Prop}(h:∀ Q',H_ (Q'=Q)->Calls p f a w Q'):Calls p f a w Q:=h Q (q_ rfl)
theorem x0_{p:Prop}(h:p:=by first|exact zq.drewN _ _|exact(zq.drewN _ _).trans (zq.drewN _ _)|exact((zq.drewN _ _).trans (zq.drewN _ _)).trans (zq.drewN _ _)):p:=h
theorem x1_{p:Prop}(h:p:=by simp;omega):p:=h
theorem x2_{p:Prop}(h:p:=by rcases hm with⟨_,q1,q2,q3,q4,_⟩|⟨hq,_⟩;(exact⟨q1,q2.trans (by rw[hx.o]),q3,q4⟩);exact absurd (hsm.o.symm.trans hq) D_):p:=h
theorem x3_{p:Prop}(h:p:=by rintro W ⟨h1,h2,h3,h4,h5,h6,h7⟩;go_simp<;>first|rfl|exact hwq):p:=h
theorem x4_{p:Prop}(h:p:=by intro W hW;obtain⟨q1,q2,q3,q4⟩:=hW;go_simp;rfl):p:=h
theorem x5_{p:Prop}(h:p:=by intro W h;rw[hCL.o] at h;obtain⟨c0,c1,c2,c3,c4,c5⟩:=h;go_simp<;>rfl):p:=h
theorem x6_{p:Prop}(h:p:=by rintro W ⟨h1,h2⟩;go_simp):p:=h
theorem x7_{p:Prop}(h:p:=by intro W hW;obtain⟨q0,q1⟩:=hW;go_simp;rfl):p:=h
theorem x8_{p:Prop}(h:p:=by simp):p:=h
theorem x9_{p:Prop}(h:p:=by intro W hW;go_simp<;>rfl):p:=h
theorem xa_{p:Prop}(h:p:=by rw[hw1];exact((Fr.refl W _).alloc _).alloc _):p:=h
theorem xb_{p:Prop}(h:p:=by simp[results,results41,go_sem,q0,q1]):p:=h
theorem xc_{p:Prop}(h:p:=by rintro W ⟨hW,hW0,hW1,hW2,hW3,hW4⟩;go_simp<;>rfl):p:=h
theorem xd_{p:Prop}(h:p:=by simp[kdD]):p:=h
theorem xe_{p:Prop}(h:p:=by simp[results,results27,go_sem,q0,q1]):p:=h
theorem xf_{p:Prop}(h:p:=by rw[hw1];exact(Blk.new W _ _).alloc _):p:=h
theorem xg_{p:Prop}(h:p:=by rw[beq_eq_false_iff_ne];omega):p:=h
theorem xh_{p:Prop}(h:p:=by simp[results,results188,go_sem,q0,q1,q2,q3]):p:=h
theorem xi_{p:Prop}(h:p:=by rcases hE with⟨_,q1,q2,_⟩|⟨hq,_⟩;(exact⟨q1,q2⟩);exact absurd h58.o hq):p:=h
theorem xj_{p:Prop}(h:p:=by rcases hm with⟨_,q1,q2,_⟩|⟨hq,_⟩;(exact⟨q1,q2⟩);exact absurd h40.o hq):p:=h
theorem xk_{p:Prop}(h:p:=by rcases hm with⟨hq,_⟩|⟨_,⟨g,q1,q2,q3⟩,q4⟩;(exact absurd (hsm.o.symm.trans hq) D_);exact⟨g,q1,q2,q3,q4⟩):p:=h
theorem xl_{p:Prop}(h:p:=by rw[hwz];exact(((Fr.refl w (λ _=>False)).alloc _).alloc _).alloc _):p:=h
theorem xm_{p:Prop}(h:p:=by simp[results,results5,go_sem]):p:=h
theorem xn_{p:Prop}(h:p:=by rcases hm with⟨hq,_⟩|⟨_,⟨g,q1,q2,q3⟩,q4⟩;(exact absurd hq h40.o);exact⟨g,q1,q2,q3,q4⟩):p:=h
theorem xo_{p:Prop}(h:p:=by first|exact zq.refl _|exact zq.drewN _ _|exact zq.drew _):p:=h
theorem xp_{p:Prop}(h:p:=by simp[results,results16,go_sem,q0,q1,q2,q3]):p:=h
theorem xq_{p:Prop}(h:p:=by rfl):p:=h
theorem xr_{p:Prop}(h:p:=by unfold maxLen;omega):p:=h
theorem xs_{p:Prop}(h:p:=by rcases hm with⟨q0,q1,_⟩|⟨_,q1,q2⟩;(exact absurd ⟨q0,q1⟩ hb.o);exact⟨q1,q2⟩):p:=h
theorem xt_{p:Prop}(h:p:=by simp[results,results125,go_sem,q0,q1]):p:=h
theorem xu_{p:Prop}(h:p:=by first|exact(Fr.refl _ _).drew|exact Fr.refl _ _):p:=h
theorem xv_{p:Prop}(h:p:=by rw[hw1];exact(Fr.refl W _).alloc _):p:=h
theorem xw_{p:Prop}(h:p:=by rw[hw1];exact((Fr.refl w _).alloc _).alloc _):p:=h
theorem xx_{p:Prop}(h:p:=by rw[IntKind.wrap_i64];omega):p:=h
theorem xy_{p:Prop}(h:p:=by have:F.fb<F.tu/\F.tu<W.heap.size:=hl F.tu (.inl (.inl rfl));omega):p:=h
theorem xz_{p:Prop}(h:p:=by simpa[zo] using h):p:=h
theorem y0_{p:Prop}(h:p:=by show w.heap.size<=w.heap.size+1+1;omega):p:=h
theorem y1_{p:Prop}(h:p:=by rw[hr.o];exact⟨rfl,rfl⟩):p:=h
theorem y2_{p:Prop}(h:p:=by unfold ndT;simp[zY]):p:=h
theorem y3_{p:Prop}(h:p:=by have:=M.hs;omega):p:=h
theorem y4_{p:Prop}(h:p:=by simp[results,results189,go_sem,q0,q1]):p:=h
theorem y5_{p:Prop}(h:p:=by rw[hwz];exact((Fr.refl w (λ _=>False)).alloc _).alloc _):p:=h
theorem y6_{p:Prop}(h:p:=by rw[hw1];exact Blk.new W _ _):p:=h
theorem y7_{p:Prop}(h:p:=by simp[results,results49,go_sem,x0,x1]):p:=h
theorem y8_{p:Prop}(h:p:=by simp[zr] at h1⊢;omega):p:=h
theorem y9_{p:Prop}(h:p:=by rw[hw4];exact(Fr.refl wr _).alloc _):p:=h
theorem ya_{p:Prop}(h:p:=by rw[getD_set_ne true (Ne.symm hmi)];exact(hB m hmB).1):p:=h
theorem yb_{p:Prop}(h:p:=by rw[hlv.o]<;>omega):p:=h
theorem yc_{p:Prop}(h:p:=by rw[hw0];exact(Fr.refl w _).alloc _):p:=h
theorem yd_{p:Prop}(h:p:=by simp[results,results14,go_sem];rfl):p:=h
theorem ye_{p:Prop}(h:p:=by simp[results,results15,go_sem];rfl):p:=h
theorem yf_{p:Prop}(h:p:=by rw[hres.o];exact⟨rfl,rfl,rfl,rfl,rfl,rfl,rfl,rfl⟩):p:=h
theorem yg_{p:Prop}(h:p:=by cases e):p:=h
theorem yh_{p:Prop}(h:p:=by have:=(ai_.1 hf).1;omega):p:=h
theorem yi_{p:Prop}(h:p:=by simp only[zl,a0_,decide_eq_true_eq] at hb;omega):p:=h
theorem yj_{p:Prop}(h:p:=by show ¬ (w.heap.size+1=bl);omega):p:=h
theorem yk_{p:Prop}(h:p:=by show ¬ (w.heap.size+2=bl);omega):p:=h
theorem yl_{p:Prop}(h:p:=by simp only[ar_,zU,ay_,a1_];omega):p:=h
theorem ym_{p:Prop}(h:p:=by have:=List.sizeOf_lt_of_mem ht;simp at h;omega):p:=h
theorem yn_{p:Prop}(h:p:=by rw[ar_];omega):p:=h
theorem yo_{p:Prop}(h:p:=by simp[results,results26,go_sem,q0,q1,q2,q3,q4]):p:=h
theorem yp_{p:Prop}(h:p:=by have:=h.c;omega):p:=h
theorem yq_{p:Prop}(h:p:=by simp[results,results28,go_sem]):p:=h
theorem yr_{p:Prop}(h:p:=by show fb<_;omega):p:=h
theorem ys_{p:Prop}(h:p:=by rw[<- hb,<- hz];exact λ e=>g2 ⟨e.1,.inl e.2⟩):p:=h
theorem yt_{p:Prop}(h:p:=by show ¬ (w.heap.size+1=w.heap.size+1+1);omega):p:=h
theorem yu_{p:Prop}(h:p:=by rw[<- List.map_take];exact he):p:=h
theorem yv_{p:Prop}(h:p:=by rw[hsm];decide):p:=h
theorem yw_{p:Prop}(h:p:=by have:=(xM hi).2;omega):p:=h
theorem yx_{p:Prop}(h:p:=by rw[hw4];exact Blk.new wr _ _):p:=h
theorem yy_{p:Prop}(h:p:=by have:=hz.o;omega):p:=h
theorem yz_{p:Prop}(h:p:=by rw[hr.o];exact⟨rfl,rfl,hkb.o,rfl,hwE.o⟩):p:=h
theorem z0_{p:Prop}(h:p:=by have:=hneg.o;have:=hc.o;simp at *;omega):p:=h
theorem z1_{p:Prop}(h:p:=by simp[results,results73,go_sem,q0,q1,q2]):p:=h
theorem z2_{p:Prop}(h:p:=by rw[bk_];omega):p:=h
theorem z3_{p:Prop}(h:p:=by simp only;omega):p:=h
theorem z4_{p:Prop}(h:p:=by rw[hans.o];simp):p:=h
theorem z5_{p:Prop}(h:p:=by simp[results,results127,go_sem,q0,q1]):p:=h
theorem z6_{p:Prop}(h:p:=by simp[results,results140,go_sem,x0,x1]):p:=h
theorem z7_{p:Prop}(h:p:=by simpa[zo] using hc):p:=h
theorem z8_{p:Prop}(h:p:=by have:=hM1.lt;omega):p:=h
theorem z9_{p:Prop}(h:p:=by have:=L1.o.c;omega):p:=h
theorem za_{p:Prop}(h:p:=by simpa using hc):p:=h
theorem zb_{p:Prop}(h:p:=by rw[hll];exact ho5):p:=h
theorem zc_{p:Prop}(h:p:=by have:=q2.lt g hg;omega):p:=h
theorem zd_{p:Prop}(h:p:=by simpa using h):p:=h
theorem ze_{p:Prop}(h:p:=by simpa using q):p:=h
theorem zf_{p:Prop}(h:p:=by simp at hc;omega):p:=h
theorem zg_{p:Prop}(h:p:=by unfold xY;rw[he]):p:=h
theorem zh_{p:Prop}(h:p:=by rw[hx.o]):p:=h
theorem zi_{p:Prop}(h:p:=by rw[hd];simp[kdD]):p:=h
theorem zj_{p:Prop}(h:p:=by simp[Value.oneCell']):p:=h
theorem zk_{p:Prop}(h:p:=by rw[hb.o];decide):p:=h
theorem zl_{p:Prop}(h:p:=by rw[hi] at e;cases e):p:=h
theorem zm_{p:Prop}(h:p:=by simp[byT]):p:=h
theorem zn_{p:Prop}(h:p:=by rw[e];rfl):p:=h
theorem zo_{p:Prop}(h:p:=by rw[h0];decide):p:=h
theorem zp_{p:Prop}(h:p:=by simp[DT.subs]):p:=h
theorem zq_{p:Prop}(h:p:=by assumption):p:=h
theorem zr_{p:Prop}(h:p:=by simp[jm]):p:=h
theorem zs_{p:Prop}(h:p:=by simp[hb]):p:=h
theorem zt_{p:Prop}(h:p:=by omega):p:=h
theorem e_{α:Sort _}(a:α):∃ V,V=a:=⟨_,rfl⟩
theorem x_{α:Sort _}(a:α):∃ V,a=V:=⟨_,rfl⟩
theorem y_{α:Sort _}(a:α):∃ V,H_ (V=a):=⟨_,rfl⟩
theorem h_{p q r s:Prop}(f:H_ p->H_ q->H_ r->s):p->q->r->s:=f
theorem g_{p q r t s:Prop}(f:H_ p->H_ q->H_ r->H_ t->s):p->q->r->t->s:=f
theorem k_{p q r t u s:Prop}(f:H_ p->H_ q->H_ r->H_ t->H_ u->s):p->q->r->t->u->s:=f
theorem m_{p q r t u v s:Prop}(f:H_ p->H_ q->H_ r->H_ t->H_ u->H_ v->s):p->q->r->t->u->v->s:=f
end Go.Proofs.YtamhgejdkclmdaaGreatDoor
