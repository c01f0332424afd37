import Derived.Test.YtiifagiebikmdaaGreatDoorW03
import Derived.Deep.DeepCutAuto
import Derived.Test.YtiifagiebikmdaaGreatDoorW00
import Derived.Test.YtiifagiebikmdaaGreatDoorA00
set_option maxHeartbeats 16000000
set_option maxRecDepth 100000
set_option linter.unusedSimpArgs false
open Go.Proofs.Tryz
namespace Go.Proofs.YtiifagiebikmdaaGreatDoor
open Go.RowKit
variable {i:Nat}{mx:Int}{ts:List TR}{us:List (Nat×Nat)}
theorem zqp {w:World}{X:Nat->Prop}{br bz B:Nat}{s:BA}{wg:Int}{zs:List Value}{tv u:Value}(R:Rep w X br bz B s i false wg mx ts us zs tv u) :
 RM w X br bz B s i false wg mx ts us zs tv u tv u (.slice none 0 0) 0 [] (λ _=>False) ((w.alloc (.cells yb_.toArray 44)).alloc (.cells (x6_ (.slice none 0 0)).toArray 44)):=by
 have h1:=R.o (((Fr.refl w X).alloc (.cells yb_.toArray 44)).alloc (.cells (x6_ (.slice none 0 0)).toArray 44));refine⟨h1.fewer (λ g hg=>?_),(Blk.new w _ _).alloc _,?_,World.ownsRow_nil _ _ _ _,λ g hg=>by simp[Value.ownBlock] at hg,λ g hg=>hg.elim,⟨((Fr.refl w _).alloc _).alloc _,.inl rfl,.inl rfl⟩⟩
 ·rcases hg with hg|hg|hg|hg|hg
  ·exact .inl hg
  ·exact .inr (by simp;omega)
  ·exact .inr (by simp;omega)
  ·simp[Value.ownBlock] at hg
  ·exact hg.elim
 ·have:=Blk.new (w.alloc (.cells yb_.toArray 44)) (x6_ (.slice none 0 0)).toArray 44
  simpa using this
theorem zbr {w W W':World}{X:Nat->Prop}{br bz B:Nat}{s:BA}{j:Nat}{bad:Bool}{wg MX:Int}{TS:List TR}{US:List (Nat×Nat)}{zs:List Value}{tv u tv2 u2 fv:Value}{n:Nat}{xs:List Value}{wr:Int}
 (M:RM w X br bz B s j bad wg MX TS US zs tv u tv2 u2 fv n xs (λ _=>False) W) (a:Fr W W' (λ g=>g=w.heap.size))
 (h:match ys_ s i with
  | .ok (ds,j')=>j=j'/\bad=false/\n=ds.length/\xs=y3_ s ts.length ds/\wg=wrF [] ds wr/\MX=mixF ds mx/\TS=ts++yl_ ts.length (ds.map PF.ty)/\US=us++zs_ (ds.map PF.ty)
  | .error k=>j=k/\bad=true) :
 zmx w X br bz B s i wr mx ts us zs tv u (.returned (.agg (x6_ fv).toArray)) W':=by
 have c:=(M.R.o (a.mono (λ _ _ e=>.inr (.inl e)))).fewer (Y:=λ g=>X g\/fv.ownBlock=some g) (λ g hg=>by
  rcases hg with e|e
  ·exact .inl (.inl e)
  ·exact .inl (.inr (.inr (.inr (.inl e)))))
 refine⟨fv,n,xs,tv2,u2,rfl,M.st.o a (λ g hg=>by omega),za_ M.own a (λ g hg e=>by have:=M.sn g hg;omega),λ g hg=>?_,?_⟩
 ·have:=M.sn g hg;have b:=M.R.av g (.inr (.inr (.inr (.inl hg))));exact⟨by omega,b.2.2.2.1,b.2.2.2.2⟩
 ·cases d:ys_ s i with
  | error k=>
   rw[d] at h;obtain⟨rfl,rfl⟩:=h;exact⟨_,_,_,_,c⟩
  | ok q=>
   obtain⟨ds,j'⟩:=q;rw[d] at h;obtain⟨rfl,rfl,rfl,rfl,rfl,rfl,rfl,rfl⟩:=h;exact⟨rfl,rfl,c⟩
theorem Fr.five (w:World) (b:Nat) (a c d e f:Value):Fr w (((((w.setCell ⟨b,0,none⟩ a).setCell ⟨b,1,none⟩ c).setCell ⟨b,2,none⟩ d).setCell ⟨b,3,none⟩ e).setCell ⟨b,4,none⟩ f) (λ g=>g=b):=
 (((((Fr.refl w (λ g=>g=b)).setCell ⟨b,0,none⟩ a (λ _=>rfl)).setCell ⟨b,1,none⟩ c (λ _=>rfl)).setCell ⟨b,2,none⟩ d (λ _=>rfl)).setCell ⟨b,3,none⟩ e (λ _=>rfl)).setCell ⟨b,4,none⟩ f (λ _=>rfl)
theorem Blk.five {w:World}{b t:Nat}{u0 g u2 k l:Value}(h:Blk w b [u0,g,u2,k,l] t) (a c d e f:Value):Blk (((((w.setCell ⟨b,0,none⟩ a).setCell ⟨b,1,none⟩ c).setCell ⟨b,2,none⟩ d).setCell ⟨b,3,none⟩ e).setCell ⟨b,4,none⟩ f) b [a,c,d,e,f] t:=
 ((((h.set 0 a).set 1 c).set 2 d).set 3 e).set 4 f
def zzc (R_:Except Nat (List PF×Nat)) (w:World) (X:Nat->Prop) (br bz B:Nat) (s:BA) (i:Nat) (wr mx:Int) (ts:List TR) (us:List (Nat×Nat)) (zs:List Value) (tv u tv2 u2 fv:Value) (ds:List PF) (j:Nat) (W:World):Prop:=
 ∃ p,RM w X br bz B s p false (wrF [] ds wr) (mixF ds mx) (ts++yl_ ts.length (ds.map PF.ty)) (us++zs_ (ds.map PF.ty)) zs tv u tv2 u2 fv ds.length (y3_ s ts.length ds) (λ _=>False) W/\
  j<=p/\i+ds.length<=p/\R_=v1_ ds (xn_ s p)
theorem zv7 {s:BA}{j:Nat}{ds:List PF}{a:Except Nat (List PF×Nat)}(h:(ds=[]/\j=i/\a=zje s i)\/(ds≠[]/\a=zkx s ds j)) (b:bt s j=41):a=.ok (ds,j+1):=by
 rcases h with⟨rfl,rfl,rfl⟩|⟨_,rfl⟩
 ·unfold zje;rw[if_pos b]
 ·unfold zkx;rw[if_pos b]
theorem zto {s:BA}{j:Nat}{ds:List PF}{a:Except Nat (List PF×Nat)}(h:(ds=[]/\j=i/\a=zje s i)\/(ds≠[]/\a=zkx s ds j)) (b:bt s j≠41) :
 (ds=[]->a=v1_ ds (xn_ s j))/\(ds≠[]->bt s j=44->a=v1_ ds (xn_ s (j+1)))/\(ds≠[]->bt s j≠44->a=.error j):=by
 rcases h with⟨rfl,rfl,rfl⟩|⟨h,rfl⟩
 ·exact⟨λ _=>by unfold zje;rw[if_neg b,zhd],λ h=>(h rfl).elim,λ h=>(h rfl).elim⟩
 ·exact⟨λ e=>(h e).elim,λ _ c=>by unfold zkx;rw[if_neg b,if_pos c],λ _ c=>by unfold zkx;rw[if_neg b,if_neg c]⟩
theorem ztg:Tryz.prog.underlying 42=some (.slice 80):=by kernel_rfl
theorem zwz:(Tryz.prog.info? 80).map (λ i=>(i.zero,i.size,i.bytes))=some (some (.agg (Fc 0 0 false 0 ⟨#[]⟩).toArray),10,128):=by kernel_rfl
theorem zoc {w:World}{X:Nat->Prop}{br bz B:Nat}{s:BA}{wg:Int}{zs:List Value}{tv u:Value}(R:Rep w X br bz B s i false wg mx ts us zs tv u) :
 Calls prog 68 #[.pointer (some ⟨br,0,none⟩)] w (zmx w X br bz B s i wg mx ts us zs tv u):=by
 have j9:=R.sl;have m8:=R.il;have M0:=q_ (zqp R);obtain⟨l7,Q_⟩:∃ P,H_ (P=zmx w X br bz B s i wg mx ts us zs tv u):=⟨_,rfl⟩;rw[<- Q_.o]
 go_in
 go_wp2_with (go_at_call 40;refine(y4_ 40 M0.o.R rfl (by decide)).mono ?_;rintro e w1 ⟨rfl,y,i3⟩)
 have e4:znx (ys_ s i) w X br bz B s (i+1) wg mx ts us zs tv u (s.size+3) (.string ⟨#[]⟩) w1:=by
  refine⟨⟨#[]⟩,.slice none 0 0,tv,u,rfl,by decide,?_⟩;unfold ys_
  by_cases g7:bt s i=40
  ·rw[if_pos g7] at y⊢;refine .inl ⟨[],i+1,?_,rfl,by simp,by omega,.inl ⟨rfl,rfl,rfl⟩⟩;have:=M0.o.call y i3
   simpa[wrF,mixF,yl_,zs_,y3_] using this
  ·rw[if_neg g7] at y⊢;exact .inr ⟨i,_,_,_,_,_,_,M0.o.call y i3,rfl⟩
 replace e4:=q_ e4;clear y
 go_loopg [4] (s.size+3) (λ m kv W=>znx (ys_ s i) w X br bz B s (i+1) wg mx ts us zs tv u m kv W)
 case atStart=>exact e4.o
 case round=>
  clear e4;obtain⟨O,fv,tv',u',rfl,n3,hA|hC⟩:=hrel
  ·obtain⟨ds,j,M,b7,h7,hm,b5⟩:=hA;obtain⟨t,sn,x,rfl⟩:=zn_ M.own;have n0:=M.R.il;have c2:=M.R.here.c2;have c1:=M.R.here.c1;have f1:=M.R.here.thaw 1
   have b8:ds=[]/\O.size=0\/ds≠[]/\0<O.size:=by
    have h1:=congrArg List.length b7;simp only[bf_,Array.length_toList] at h1;have h2:O.size=O.data.size:=rfl
    cases ds with
    | nil=>exact .inl ⟨rfl,by simp only[ao_] at h1;omega⟩
    | cons d r=>exact .inr ⟨by simp,by simp only[aq_] at h1;omega⟩
   replace b7:=q_ b7;replace M:=q_ M;replace b5:=q_ b5
   by_cases a2:bt s j=41
   ·have h9:j<s.size:=zj_ (by omega);have K:=q_ (zv7 b5.o a2)
    rcases b8 with⟨J,e8⟩|⟨J,e8⟩
    ·clear J;have i0:decide ((0:Int)<(O.size:Int))=false:=decide_eq_false (by omega)
     go_wp2_with (first
      |(go_at_call 39;refine(z3_ M.o.R a2).mono ?_;rintro e w2 ⟨rfl,d0⟩;have z:=M.o.still d0;have l8:=z.R.here.c2;replace z:=q_ z)
      |(go_at_call 40;refine(y4_ 41 z.o.R rfl (by decide)).mono ?_;rintro e w3 ⟨rfl,y,e3⟩;rw[if_pos a2] at y;have a:=z.o.call y e3;have t0:=a.b3.cell 0;have T:=a.b3.cell 1;have t2:=a.b3.cell 2;have t3:=a.b3.cell 3;have t4:=a.b3.cell 4;have r0:=a.b2.cell 0;have r1:=a.b2.cell 1;have r2:=a.b2.cell 2;have r3:=a.b2.cell 3;have r4:=a.b2.cell 4;obtain⟨g0,g1,g2,g3,g4⟩:=a.b2.t5;simp only[x6_,yb_,aa_,ab_] at t0 T t2 t3 t4 r0 r1 r2 r3 r4;replace a:=q_ a))
     have L:=Blk.five a.o.b2 (.int .u8 114) (.slice t sn x) (.string ⟨#[]⟩) (.int .i64 (-1)) (.int .i64 0);obtain⟨q0,q1,q2,q3,q4⟩:=L.d5;have hF:=Fr.five w3 w.heap.size (.int .u8 114) (.slice t sn x) (.string ⟨#[]⟩) (.int .i64 (-1)) (.int .i64 0);generalize (((((World.setCell w3 ⟨w.heap.size,0,none⟩ (.int .u8 114)).setCell ⟨w.heap.size,1,none⟩ (.slice t sn x)).setCell ⟨w.heap.size,2,none⟩ (.string ⟨#[]⟩)).setCell ⟨w.heap.size,3,none⟩ (.int .i64 (-1))).setCell ⟨w.heap.size,4,none⟩ (.int .i64 0))=W5 at *;refine bodyPost_ret (v:=.agg (x6_ (.slice t sn x)).toArray) (by simp[results,results68,go_sem,q0,q1,q2,q3,q4,x6_]) rfl ?_;rw[Q_.o];exact zbr a.o hF (by rw[K.o];exact⟨rfl,rfl,rfl,rfl,rfl,rfl,rfl,rfl⟩)
    ·clear J
     have i0:(0:Int)<(O.size:Int):=by omega
     go_wp2_with (first
      |(go_at_call 39;refine(z3_ M.o.R a2).mono ?_;rintro e w2 ⟨rfl,d0⟩;have z:=M.o.still d0;replace M:=z;have c2:=z.R.here.c2;have c1:=z.R.here.c1;have f1:=z.R.here.thaw 1;have c1:=z.R.here.c1;have a:=z.inc h9;have t0:=a.b3.cell 0;have T:=a.b3.cell 1;have t2:=a.b3.cell 2;have t3:=a.b3.cell 3;have t4:=a.b3.cell 4;have r0:=a.b2.cell 0;have r1:=a.b2.cell 1;have r2:=a.b2.cell 2;have r3:=a.b2.cell 3;have r4:=a.b2.cell 4;obtain⟨g0,g1,g2,g3,g4⟩:=a.b2.t5;simp only[x6_,yb_,aa_,ab_] at t0 T t2 t3 t4 r0 r1 r2 r3 r4;replace a:=q_ a;replace M:=q_ M))
     have L:=Blk.five a.o.b2 (.int .u8 114) (.slice t sn x) (.string ⟨#[]⟩) (.int .i64 (-1)) (.int .i64 0);obtain⟨q0,q1,q2,q3,q4⟩:=L.d5;have hF:=Fr.five (w2.setCell ⟨br,1,none⟩ (.int .i64 ((j:Int)+1))) w.heap.size (.int .u8 114) (.slice t sn x) (.string ⟨#[]⟩) (.int .i64 (-1)) (.int .i64 0);generalize (((((World.setCell (w2.setCell ⟨br,1,none⟩ (.int .i64 ((j:Int)+1))) ⟨w.heap.size,0,none⟩ (.int .u8 114)).setCell ⟨w.heap.size,1,none⟩ (.slice t sn x)).setCell ⟨w.heap.size,2,none⟩ (.string ⟨#[]⟩)).setCell ⟨w.heap.size,3,none⟩ (.int .i64 (-1))).setCell ⟨w.heap.size,4,none⟩ (.int .i64 0))=W5 at *;refine bodyPost_ret (v:=.agg (x6_ (.slice t sn x)).toArray) (by simp[results,results68,go_sem,q0,q1,q2,q3,q4,x6_]) rfl ?_;rw[Q_.o];exact zbr a.o hF (by rw[K.o];exact⟨rfl,rfl,rfl,rfl,rfl,rfl,rfl,rfl⟩)
   ·obtain⟨cj,a3⟩:∃ c,bt s j=c:=⟨_,rfl⟩;have a4:=zto b5.o a2
    have l0:((cj:Int) != 41)=true:=by simp;omega
    have k0:((cj:Int)==41)=false:=by simp;omega
    replace a4:=q_ a4;replace a3:=q_ a3;replace b8:=q_ b8;clear a2
    go_upto_if 27 with(go_at_call 39;refine(z3_ M.o.R a3.o).mono ?_;rintro e w2 ⟨rfl,d0⟩;have z:=q_ (M.o.still d0))
    go_cut [] (λ W=>zzc (ys_ s i) w X br bz B s (i+1) wg mx ts us zs tv u tv' u' (.slice t sn x) ds j W)
    case first=>
     rcases b8.o with⟨J,e8⟩|⟨J,e8⟩
     ·have i0:decide (0<O.size)=false:=decide_eq_false (by omega);have hd:H_ (ys_ s i=v1_ ds (xn_ s j)):=a4.o.1 J;clear J
      go_wp2_with fail
      go_meet
      case rel=>exact⟨j,z.o,l_,h7,hd.o⟩
     ·by_cases e0:bt s j=44
      ·have h9:j<s.size:=zj_ (by omega);have hd:H_ (ys_ s i=v1_ ds (xn_ s (j+1))):=a4.o.2.1 J e0;clear J
       go_wp2_with (first
        |(go_at_call 39;refine(z3_ z.o.R a3.o).mono ?_;rintro e w3 ⟨rfl,f2⟩;have a:=q_ (z.o.still f2))
        |(go_at_call 40;refine(y4_ 44 a.o.R rfl (by decide)).mono ?_;rintro e w4 ⟨rfl,y,f4⟩;rw[if_pos e0] at y;have b:=a.o.call y f4;have i5:=b.R.here.c2;replace b:=q_ b))
       go_meet
       case rel=>exact⟨j+1,b.o,by omega,by omega,hd.o⟩
      ·have hd:H_ (ys_ s i=.error j):=a4.o.2.2 J e0;clear J
       go_wp2_with (first
        |(go_at_call 39;refine(z3_ z.o.R a3.o).mono ?_;rintro e w3 ⟨rfl,f2⟩;have a:=q_ (z.o.still f2))
        |(go_at_call 40;refine(y4_ 44 a.o.R rfl (by decide)).mono ?_;rintro e w4 ⟨rfl,y,f4⟩;rw[if_neg e0] at y;have b:=a.o.call y f4;have i5:=b.R.here.c2;have t0:=b.b3.cell 0;have T:=b.b3.cell 1;have t2:=b.b3.cell 2;have t3:=b.b3.cell 3;have t4:=b.b3.cell 4;have r0:=b.b2.cell 0;have r1:=b.b2.cell 1;have r2:=b.b2.cell 2;have r3:=b.b2.cell 3;have r4:=b.b2.cell 4;obtain⟨g0,g1,g2,g3,g4⟩:=b.b2.t5;simp only[x6_,yb_,aa_,ab_] at t0 T t2 t3 t4 r0 r1 r2 r3 r4;replace b:=q_ b))
       have L:=Blk.five b.o.b2 (.int .u8 114) (.slice t sn x) (.string ⟨#[]⟩) (.int .i64 (-1)) (.int .i64 0);obtain⟨q0,q1,q2,q3,q4⟩:=L.d5;have hF:=Fr.five w4 w.heap.size (.int .u8 114) (.slice t sn x) (.string ⟨#[]⟩) (.int .i64 (-1)) (.int .i64 0);generalize (((((World.setCell w4 ⟨w.heap.size,0,none⟩ (.int .u8 114)).setCell ⟨w.heap.size,1,none⟩ (.slice t sn x)).setCell ⟨w.heap.size,2,none⟩ (.string ⟨#[]⟩)).setCell ⟨w.heap.size,3,none⟩ (.int .i64 (-1))).setCell ⟨w.heap.size,4,none⟩ (.int .i64 0))=W5 at *;refine bodyPost_ret (v:=.agg (x6_ (.slice t sn x)).toArray) (by simp[results,results68,go_sem,q0,q1,q2,q3,q4,x6_]) rfl ?_;rw[Q_.o];exact zbr b.o hF (by rw[hd.o];exact⟨rfl,rfl⟩)
    case rest=>
     clear h7 c1 c2 f1 a4 b8 k0 l0 a3 z M b5;obtain⟨p,M,n2,j5,K⟩:=hcut;have f0:=M.R.il;have c1:=M.R.here.c1;obtain⟨l,hl⟩:∃ l:Nat,H_ (l=if zi_ (bt s p)=true then bt s p else 0):=⟨_,rfl⟩;replace M:=q_ M;replace K:=q_ K
     go_upto_region 15 with(go_at_call 98;refine(vx_ (M.o.mine (.cells (Fc 0 0 false 0 ⟨#[]⟩).toArray 80)).R).mono ?_;rintro e w3 ⟨rfl,hS⟩;rw[<- hl.o];obtain⟨j3,d7,R3,e3,h3⟩:=hS.any;have a:=(M.o.mine (.cells (Fc 0 0 false 0 ⟨#[]⟩).toArray 80)).call R3 e3;have F3:=(M.o.mine (.cells (Fc 0 0 false 0 ⟨#[]⟩).toArray 80)).keep e3 rfl (Blk.new wc _ _);have S:=F3.cell 0;have m0:=F3.thaw 0;simp only[Fc,aa_] at S;replace a:=q_ a;replace F3:=q_ F3)
     have b:=a.o.put wc.heap.size 0 (.int .u8 (l:Int)) rfl;have F4:Blk (w3.setCell ⟨wc.heap.size,0,none⟩ (.int .u8 (l:Int))) wc.heap.size (Fc l 0 false 0 ⟨#[]⟩) 80:=Blk.set F3.o 0 (.int .u8 (l:Int));clear S m0 a F3 c1;generalize w3.setCell ⟨wc.heap.size,0,none⟩ (.int .u8 (l:Int))=W4 at *;generalize wc.heap.size=bf at *;have S:=F4.cell 0;have c2:=b.R.here.c2;simp only[Fc,aa_] at S;replace b:=q_ b;replace F4:=q_ F4
     go_cut [64] (λ l4 W=>l4=.bool (decide (0<=plc O l) && !d7)/\W=W4)
     case first=>
      cases A:decide (0<=plc O l)
      all_goals
       go_wp2_with (go_at_call 99;refine(zdq O l _ (by omega)).mono ?_;rintro e w' ⟨rfl,rfl⟩;rw[A])
       go_meet
       case rel=>exact⟨by rw[A];rfl,rfl⟩
     case rest=>
      obtain⟨rfl,rfl⟩:=hcut;obtain⟨D,hD⟩:∃ D,D=(decide (0<=plc O l) && !d7):=⟨_,rfl⟩;rw[<- hD];replace hD:=q_ hD
      go_upto_if 64 with fail
      go_cut [] (λ W=>∃ f7,RM w X br bz B s j3 d7 f7 (mixF ds mx) (ts++yl_ ts.length (ds.map PF.ty)) (us++zs_ (ds.map PF.ty)) zs tv u tv' u' (.slice t sn x) ds.length (y3_ s ts.length ds) (λ g=>g=bf) W/\Blk W bf (Fc l 0 false 0 ⟨#[]⟩) 80/\f7=if D=true then zz_ p (wrF [] ds wg) else wrF [] ds wg)
      case first=>
       cases D
       ·go_wp2_with fail
        go_meet
        case rel=>exact⟨_,b.o,F4.o,rfl⟩
       ·go_wp2_with (go_at_call 24;refine(zaa b.o.R).mono ?_;rintro e w5 ⟨rfl,hW,i4⟩)
        go_meet
        case rel=>exact⟨_,b.o.call hW i4,b.o.keep i4 rfl F4.o,rfl⟩
      case rest=>
       obtain⟨f8,M5,F5,f3⟩:=hcut;have S:=F5.cell 0;simp only[Fc,aa_] at S;have H:=M5.alloc (.cells #[.int .u8 (l:Int)] 5);have F6:=F5.alloc (.cells #[.int .u8 (l:Int)] 5);have c2:=H.R.here.c2;have i8:=λ (W:World) (g:Nat) (c:Int) (h:W.heap.size=g)=>zin W g c h;replace H:=q_ H;replace F6:=q_ F6;replace f3:=q_ f3;clear M5 F5 b F4
       go_upto_if 78 with fail
       clear S i8;generalize wc.alloc (.cells #[.int .u8 (l:Int)] 5)=W6 at *
       go_cut [] (λ W=>∃ j4 d8,RM w X br bz B s j4 d8 f8 (mixF ds mx) (ts++yl_ ts.length (ds.map PF.ty)) (us++zs_ (ds.map PF.ty)) zs tv u tv' u' (.slice t sn x) ds.length (y3_ s ts.length ds) (λ g=>g=bf) W/\Blk W bf (Fc l 0 false 0 ⟨#[]⟩) 80/\OutC s p j4 d8)
       case first=>
        cases g8:d7
        ·subst g8;have Q:=q_ (zq4 h3.o rfl)
         by_cases e1:bt s j3=58
         ·go_wp2_with (go_at_call 40;refine(y4_ 58 H.o.R rfl (by decide)).mono ?_;rintro e w7 ⟨rfl,y,d2⟩;rw[if_pos e1] at y)
          go_meet
          case rel=>exact⟨_,_,H.o.call y d2,H.o.keep d2 rfl F6.o,Q.o.1 e1⟩
         ·go_wp2_with (go_at_call 40;refine(y4_ 58 H.o.R rfl (by decide)).mono ?_;rintro e w7 ⟨rfl,y,d2⟩;rw[if_neg e1] at y)
          go_meet
          case rel=>exact⟨_,_,H.o.call y d2,H.o.keep d2 rfl F6.o,Q.o.2 e1⟩
        ·subst g8;have Q:=q_ (zt4 h3.o rfl)
         go_wp2_with fail
         go_meet
         case rel=>exact⟨_,_,H.o,F6.o,Q.o⟩
       case rest=>
        obtain⟨j4,d8,I,F7,oC⟩:=hcut;have c2:=I.R.here.c2;replace I:=q_ I;replace F7:=q_ F7;replace oC:=q_ oC;clear H F6
        go_upto_if 85 with fail
        go_cut [] (λ W=>∃ N b4 a7 a8 a9 f6 u5 num,RM w X br bz B s N b4 f8 a7 a8 a9 zs tv u f6 u5 (.slice t sn x) ds.length (y3_ s ts.length ds) (λ g=>g=bf) W/\Blk W bf (Fc l num false 0 ⟨#[]⟩) 80/\OutD s p (mixF ds mx) (ts++yl_ ts.length (ds.map PF.ty)) (us++zs_ (ds.map PF.ty)) N b4 a7 a8 a9 num)
        case first=>
         cases g9:d8
         ·subst g9;obtain⟨j7,b9,b6⟩:=zq3 oC.o;subst j7;have hT:=q_ (zva I.o.R.il _ _ _ _ _ _ _ _ _ _ _ _ I.o.R)
          cases U:pT s (p+2) with
          | error k=>
           have i6:=q_ (zom b9 b6 U);replace U:=q_ U;clear b9 b6
           go_wp2_with (go_at_call 42;refine hT.o.mono ?_;intro e w8 A;unfold ym_ at A;rw[U.o] at A;obtain⟨⟨v,rfl⟩,n5,n6,n7,l5,u8,R8,n4,d6⟩:=A;have M8:=I.o.call R8 d6;have F:=I.o.keep d6 rfl F7.o;have k1:=F.cell 1;have m1:=F.thaw 1;simp only[Fc,aa_,ab_] at k1;replace M8:=q_ M8;replace F:=q_ F)
           go_meet
           case rel=>exact⟨_,_,_,_,_,_,_,_,M8.o.put bf 1 _ rfl,Blk.set F.o 1 _,.inl ⟨rfl,i6.o⟩⟩
          | ok q=>
           obtain⟨ty,N⟩:=q;replace U:=q_ U;replace b9:=q_ b9;replace b6:=q_ b6
           go_wp2_with (go_at_call 42;refine hT.o.mono ?_;intro e w8 A;unfold ym_ at A;rw[U.o] at A;obtain⟨rfl,l5,u8,R8,d6⟩:=A;have M8:=I.o.call R8 d6;have F:=I.o.keep d6 rfl F7.o;have k1:=F.cell 1;have m1:=F.thaw 1;simp only[Fc,aa_,ab_] at k1;replace M8:=q_ M8;replace F:=q_ F)
           go_meet
           case rel=>exact⟨_,_,_,_,_,_,_,_,M8.o.put bf 1 _ rfl,Blk.set F.o 1 _,.inr ⟨rfl,b9.o,b6.o,ty,U.o,rfl,rfl,rfl,by simp⟩⟩
         ·subst g9;have l3:=q_ (zt3 (MX0:=mixF ds mx) (MX:=mixF ds mx) (TS0:=ts++yl_ ts.length (ds.map PF.ty)) (TS:=ts++yl_ ts.length (ds.map PF.ty)) (US0:=us++zs_ (ds.map PF.ty)) (US:=us++zs_ (ds.map PF.ty)) (num:=0) oC.o)
          go_wp2_with fail
          go_meet
          case rel=>exact⟨_,_,_,_,_,_,_,_,I.o,F7.o,l3.o⟩
        case rest=>
         obtain⟨N,b4,a7,a8,a9,f6,u5,num,M9,F9,oD⟩:=hcut;replace M9:=q_ M9;replace F9:=q_ F9;replace oD:=q_ oD;clear I F7 oC
         go_upto_if 91 with(go_at_call 39;refine(zwd M9.o.R).mono ?_;rintro e w9 ⟨rfl,i2⟩)
         have G:=M9.o.still i2;have V:=Blk.still F9.o i2;clear M9 F9
         go_cut [] (λ W=>∃ j6 d9 h6 a6 t6,RM w X br bz B s j6 d9 f8 a7 a8 a9 zs tv u f6 u5 (.slice t sn x) ds.length (y3_ s ts.length ds) (λ g=>g=bf) W/\Blk W bf (Fc l num h6 a6 t6) 80/\OutE s p (mixF ds mx) (ts++yl_ ts.length (ds.map PF.ty)) (us++zs_ (ds.map PF.ty)) l j6 d9 a7 a8 a9 num h6 a6 t6)
         case first=>
          by_cases e2:pk s N b4=61
          ·obtain⟨i7,h5⟩:=zzw e2;subst i7;have h8:N<s.size:=zj_ (by omega);have c1:=G.R.here.c1;have f1:=G.R.here.thaw 1;have g6:=G.inc h8;have a1:=G.keep (G.R.inc h8).2 rfl V;have k2:=a1.cell 2;have m2:=a1.thaw 2;have k3:=a1.cell 3;have m3:=a1.thaw 3;simp only[Fc,aa_,ab_] at k2 k3;have Y:=(g6.put bf 2 (.bool true) rfl).put bf 3 (.int .i64 ((N:Int)+1)) rfl;have f9:=q_ ((a1.set 2 (.bool true)).set 3 (.int .i64 ((N:Int)+1)));have hP:=q_ (zog Y.R);replace Y:=q_ Y;replace G:=q_ G;replace V:=q_ V;clear g6 a1
           cases hd:pD s (N+1) 0 with
           | none=>
            have Q:=q_ (zq1 (l:=l) oD.o h5 hd true ((N:Int)+1) ⟨#[]⟩);replace hd:=q_ hd
            go_wp2_with (go_at_call 100;refine hP.o.mono ?_;rintro e l6 ⟨d1,A⟩;rw[hd.o] at A;obtain⟨rfl,e6⟩:=A;have Z:=Y.o.call e6 d1;have C:=Y.o.keep d1 rfl f9.o;have k4:=C.cell 4;have m4:=C.thaw 4;simp only[Fc,aj_,al_,aa_,ab_] at k4;replace Z:=q_ Z;replace C:=q_ C)
            go_meet
            case rel=>exact⟨_,_,_,_,_,Z.o.put bf 4 _ rfl,Blk.set C.o 4 _,Q.o⟩
           | some e=>
            have Q:=q_ (zq2 oD.o hl.o h5 hd);replace hd:=q_ hd
            go_wp2_with (go_at_call 100;refine hP.o.mono ?_;rintro e' l6 ⟨d1,A⟩;rw[hd.o] at A;obtain⟨rfl,e6⟩:=A;have Z:=Y.o.call e6 d1;have C:=Y.o.keep d1 rfl f9.o;have k4:=C.cell 4;have m4:=C.thaw 4;simp only[Fc,aj_,al_,aa_,ab_] at k4;replace Z:=q_ Z;replace C:=q_ C)
            go_meet
            case rel=>exact⟨_,_,_,_,_,Z.o.put bf 4 _ rfl,Blk.set C.o 4 _,Q.o⟩
          ·have m5:(pk s N b4==61)=false:=by simpa using e2
           have Q:=q_ (zoq oD.o hl.o e2);replace G:=q_ G;replace V:=q_ V;clear e2
           go_wp2_with fail
           go_meet
           case rel=>exact⟨_,_,_,_,_,G.o,V.o,Q.o⟩
         case rest=>
          obtain⟨j6,d9,h6,a6,t6,a0,E,oE⟩:=hcut;clear G V oD;have T:=a0.b3.cell 1;have S:=E.cell 0;have k1:=E.cell 1;have k2:=E.cell 2;have k3:=E.cell 3;have k4:=E.cell 4;have k5:=E.cell 5;have k6:=E.cell 6;have k7:=E.cell 7;have k8:=E.cell 8;have k9:=E.cell 9;simp only[Fc,x6_,aa_,ab_] at T S k1 k2 k3 k4 k5 k6 k7 k8 k9;obtain⟨ti,i9,j0,j1,j2⟩:=info_parts zwz
          have m7:ds.length<=300:=by omega
          have m6:=a0.R.hB;replace a0:=q_ a0;replace oE:=q_ oE;clear E
          go_wp2_with (first
           |(at_builtin;go_must (refine wpList_append_own_at _ rfl _ _ 42 rfl B 80 ti _ 10 128 ztg i9 j0 j1 j2 rfl (by decide) (.slice t sn x) ds.length (y3_ s ts.length ds) rfl ?hown _ 1 1 (Fc l num h6 a6 t6) rfl rfl (z7_ _ (Fc l num h6 a6 t6).toArray _ _ ?nn) ?one ?b1 ?b2 ?b3 ?_)
             case hown=>exact World.ownsRow.alloc a0.o.own _
             case nn=>simp
             case one=>simp[Fc,Value.oneCell']
             case b1=>unfold maxLen;omega
             case b2=>omega
             case b3=>simp;omega
             intro v5 w5 e9 e7 j8 i1
             have a5:=a0.o.grow e7 e9 i1
             obtain⟨e5,f5⟩:=a0.o.growCell e7
             obtain⟨g5,l9,rfl⟩:=zh_ e9 (by omega)
             clear e7 i1 j8 e9
             replace a5:=q_ a5))
          have n1:=a5.o.R.il;cases h4:d9
          ·subst h4
           have m9:p<j6:=by
            rcases oE.o with⟨h,_⟩|⟨_,f,hf,_⟩
            ·cases h
            ·have:=(x4_ f0).1 f j6 hf;omega
           go_roundg (s.size+2-j6)
           case measure=>omega
           case rel=>exact ztp _ K.o f0 j9 j5 b7.o oE.o f3.o hD.o h3.o a5.o l_
          ·subst h4
           go_roundg 0
           case measure=>omega
           case rel=>exact zv8 _ K.o f0 (by rw[zwx b7.o];omega) oE.o a5.o
  ·obtain⟨k,n,xs,f7,MX,TS,US,M,K⟩:=hC;obtain⟨t,sn,x,rfl⟩:=zn_ M.own;have c2:=M.R.here.c2;have t0:=M.b3.cell 0;have T:=M.b3.cell 1;have t2:=M.b3.cell 2;have t3:=M.b3.cell 3;have t4:=M.b3.cell 4;have r0:=M.b2.cell 0;have r1:=M.b2.cell 1;have r2:=M.b2.cell 2;have r3:=M.b2.cell 3;have r4:=M.b2.cell 4;obtain⟨g0,g1,g2,g3,g4⟩:=M.b2.t5;simp only[x6_,yb_,aa_,ab_] at t0 T t2 t3 t4 r0 r1 r2 r3 r4;replace M:=q_ M;replace K:=q_ K
   go_wp2_with fail
   have L:=Blk.five M.o.b2 (.int .u8 114) (.slice t sn x) (.string ⟨#[]⟩) (.int .i64 (-1)) (.int .i64 0);obtain⟨q0,q1,q2,q3,q4⟩:=L.d5;have hF:=Fr.five wr w.heap.size (.int .u8 114) (.slice t sn x) (.string ⟨#[]⟩) (.int .i64 (-1)) (.int .i64 0);generalize (((((World.setCell wr ⟨w.heap.size,0,none⟩ (.int .u8 114)).setCell ⟨w.heap.size,1,none⟩ (.slice t sn x)).setCell ⟨w.heap.size,2,none⟩ (.string ⟨#[]⟩)).setCell ⟨w.heap.size,3,none⟩ (.int .i64 (-1))).setCell ⟨w.heap.size,4,none⟩ (.int .i64 0))=W5 at *;refine bodyPost_ret (v:=.agg (x6_ (.slice t sn x)).toArray) (by simp[results,results68,go_sem,q0,q1,q2,q3,q4,x6_]) rfl ?_;rw[Q_.o];exact zbr M.o hF (by rw[K.o];exact⟨rfl,rfl⟩)
open Go.RowKit
structure SM (w:World) (X:Nat->Prop) (br bz B:Nat) (s:BA) (j:Nat) (bad:Bool) (wg MX:Int) (TS:List TR) (US:List (Nat×Nat)) (zs:List Value) (tv u:Value) (cs:List Value) (W:World):Prop where
 R:Rep W (λ g=>X g\/g=w.heap.size\/g=w.heap.size+1) br bz B s j bad wg MX TS US zs tv u
 b2:Blk W w.heap.size yb_ 44
 b3:Blk W (w.heap.size+1) cs 44
 st:Step w W br bz tv u tv u
section
variable {w W W':World} {X:Nat->Prop} {br bz B:Nat} {s:BA} {j:Nat} {bad:Bool} {wg MX:Int} {TS:List TR} {US:List (Nat×Nat)} {zs:List Value} {tv u:Value} {cs:List Value}
theorem SM.call (M:SM w X br bz B s j bad wg MX TS US zs tv u cs W){j':Nat}{a:Bool}{b:Int}(c:Rep W' (λ g=>X g\/g=w.heap.size\/g=w.heap.size+1) br bz B s j' a b MX TS US zs tv u) (st:Step W W' br bz tv u tv u):SM w X br bz B s j' a b MX TS US zs tv u cs W':=
 ⟨c,st.fr.blk M.b2 (M.R.offS (.inr (.inl rfl))),st.fr.blk M.b3 (M.R.offS (.inr (.inr rfl))),M.st.trans st⟩
theorem SM.still (M:SM w X br bz B s j bad wg MX TS US zs tv u cs W) (h:zd_ W W'):SM w X br bz B s j bad wg MX TS US zs tv u cs W':=M.call (M.R.still h) (Step.ofStill h)
theorem SM.inc (M:SM w X br bz B s j bad wg MX TS US zs tv u cs W) (h:j<s.size):SM w X br bz B s (j+1) bad wg MX TS US zs tv u cs (W.setCell ⟨br,1,none⟩ (.int .i64 ((j:Int)+1))):=M.call (M.R.inc h).1 (M.R.inc h).2
theorem SM.alloc (M:SM w X br bz B s j bad wg MX TS US zs tv u cs W) (o:Obj):SM w X br bz B s j bad wg MX TS US zs tv u cs (W.alloc o):=M.call (M.R.alloc o).1 (M.R.alloc o).2
theorem SM.put (M:SM w X br bz B s j bad wg MX TS US zs tv u cs W) (o:Nat) (v:Value):SM w X br bz B s j bad wg MX TS US zs tv u (cs.set o v) (W.setCell ⟨w.heap.size+1,o,none⟩ v):=by
 have a:Fr W (W.setCell ⟨w.heap.size+1,o,none⟩ v) (λ g=>g=w.heap.size+1):=(Fr.refl W (λ g=>g=w.heap.size+1)).setCell ⟨w.heap.size+1,o,none⟩ v (λ _=>rfl);exact⟨(M.R.o (a.mono (λ _ _ e=>.inr (.inr e)))).fewer (λ _ h=>.inl h),a.blk M.b2 (by omega),M.b3.set o v,M.st.o a (λ g hg=>by omega)⟩
end
def zt_ (sb:BA) (o:Int):List Value:=[.int .u8 101,.slice none 0 0,.string sb,.int .i64 o,.int .i64 0]
def wrS (seen:List Nat):List (Nat×Nat)->Int->Int
 | [],m=>m
 | f::r,m=>wrS (seen++[f.1]) r (if f.1∈seen then zz_ f.2 m else m)
theorem zs8 (a:List Nat) (ds:List (Nat×Nat)) (f:Nat×Nat) (m:Int):wrS a (ds++[f]) m=if f.1∈a++ds.map Prod.fst then zz_ f.2 (wrS a ds m) else wrS a ds m:=by
 induction ds generalizing a m with
 | nil=>simp[wrS]
 | cons d r ih=>rw[a4_,wrS,wrS,ih,bo_];rfl
def wrE (l:List (Nat×Nat)) (o:Option (Nat×Nat)) (m:Int):Int:=
 match o with
 | none=>wrS [] l m
 | some (c,at_)=>if c∈l.map Prod.fst then wrS [] l m else zz_ at_ (wrS [] l m)
def zi0 (w:World) (X:Nat->Prop) (br bz B:Nat) (s:BA) (i:Nat) (wr mx:Int) (ts:List TR) (us:List (Nat×Nat)) (zs:List Value) (tv u:Value) (e:Ending) (w':World):Prop:=
 ∃ sb o,e=.returned (.agg (zt_ sb o).toArray)/\Step w w' br bz tv u tv u/\
 match vc_ s i with
 | .ok ((l,unk),j)=>sb.data.toList.map UInt8.toNat=l.map Prod.fst/\o=(match unk with|none=>-1|some (c,_)=>plc sb c)/\Rep w' X br bz B s j false (wrE l unk wr) mx ts us zs tv u
 | .error k=>∃ wr',Rep w' X br bz B s k true wr' mx ts us zs tv u
def zxz (R_:Except Nat ((List (Nat×Nat)×Option (Nat×Nat))×Nat)) (w:World) (X:Nat->Prop) (br bz B:Nat) (s:BA) (i:Nat) (wr mx:Int) (ts:List TR) (us:List (Nat×Nat)) (zs:List Value) (tv u:Value) (m:Nat) (mv:Value) (W:World):Prop:=
 ∃ (sb:BA) (more:Bool),mv=.bool more/\sb.size<=300/\
  ((∃ (ds:List (Nat×Nat)) (j:Nat),SM w X br bz B s j false (wrS [] ds wr) mx ts us zs tv u (zt_ sb (-1)) W/\sb.data.toList.map UInt8.toNat=ds.map Prod.fst/\i+ds.length<=j/\s.size+2-j<=m/\
   R_=if more=true then zei s ds (zcu s j) else finE s ds j)\/
   (∃ k wg',SM w X br bz B s k true wg' mx ts us zs tv u (zt_ sb (-1)) W/\R_=.error k))
theorem zul {w:World}{X:Nat->Prop}{br bz B:Nat}{s:BA}{wg:Int}{zs:List Value}{tv u:Value}(R:Rep w X br bz B s i false wg mx ts us zs tv u) :
 SM w X br bz B s i false wg mx ts us zs tv u (zt_ ⟨#[]⟩ (-1)) ((w.alloc (.cells yb_.toArray 44)).alloc (.cells (zt_ ⟨#[]⟩ (-1)).toArray 44)):=by
 have h1:=R.o (((Fr.refl w X).alloc (.cells yb_.toArray 44)).alloc (.cells (zt_ ⟨#[]⟩ (-1)).toArray 44));refine⟨h1.fewer (λ g hg=>?_),(Blk.new w _ _).alloc _,?_,⟨((Fr.refl w _).alloc _).alloc _,.inl rfl,.inl rfl⟩⟩
 ·rcases hg with hg|hg|hg
  ·exact .inl hg
  ·exact .inr (by simp;omega)
  ·exact .inr (by simp;omega)
 ·have:=Blk.new (w.alloc (.cells yb_.toArray 44)) (zt_ ⟨#[]⟩ (-1)).toArray 44
  simpa using this
theorem vj_ {w W W':World}{X:Nat->Prop}{br bz B:Nat}{s:BA}{j:Nat}{bad:Bool}{wg:Int}{zs:List Value}{tv u:Value}{sb:BA}{o:Int}{wr:Int}
 (M:SM w X br bz B s j bad wg mx ts us zs tv u (zt_ sb o) W) (b:Fr W W' (λ g=>g=w.heap.size))
 (h:match vc_ s i with
  | .ok ((l,a),j')=>j=j'/\bad=false/\sb.data.toList.map UInt8.toNat=l.map Prod.fst/\o=(match a with|none=>-1|some (c,_)=>plc sb c)/\wg=wrE l a wr
  | .error k=>j=k/\bad=true) :
 zi0 w X br bz B s i wr mx ts us zs tv u (.returned (.agg (zt_ sb o).toArray)) W':=by
 have d:=(M.R.o (b.mono (λ _ _ e=>.inr (.inl e)))).fewer (Y:=X) (λ g hg=>.inl (.inl hg));refine⟨sb,o,rfl,M.st.o b (λ g hg=>by omega),?_⟩
 cases f:vc_ s i with
 | error k=>
  rw[f] at h;obtain⟨rfl,rfl⟩:=h;exact⟨_,d⟩
 | ok q=>
  obtain⟨⟨l,a⟩,j'⟩:=q;rw[f] at h;obtain⟨rfl,rfl,h1,m,rfl⟩:=h;exact⟨h1,m,d⟩
theorem zr2 {e:Except Nat ((List (Nat×Nat)×Option (Nat×Nat))×Nat)}{w W:World}{X:Nat->Prop}{br bz B:Nat}{s:BA}{j:Nat}{wg d:Int}{zs:List Value}{tv u:Value}{ds:List (Nat×Nat)}{sb:BA}(n j':Nat) (more:Bool)
 (k:e=zei s ds (zcu s j)) (hs:s.size<=300) (p:i+ds.length<=j) (f:sb.data.toList.map UInt8.toNat=ds.map Prod.fst) (h:zi_ (bt s j)=true)
 (m:d=if 0<=plc sb (bt s j) then zz_ j (wrS [] ds wg) else wrS [] ds wg)
 (M:SM w X br bz B s j' false d mx ts us zs tv u (zt_ (sb++⟨#[UInt8.ofNat (bt s j)]⟩) (-1)) W) (hn:s.size+2-j'<=n)
 (a:(more=true/\bt s (j+1)=44/\j'=j+2)\/(more=false/\bt s (j+1)≠44/\j'=j+1)) :
 zxz e w X br bz B s i wg mx ts us zs tv u n (.bool more) W:=by
 have hl:=zj_ (xc_ h);have g:=zmd f (zf4 s j);have l:=congrArg List.length g;simp only[bf_,Array.length_toList,ah_,aq_,ao_] at l;have q:(sb++⟨#[UInt8.ofNat (bt s j)]⟩:BA).size=(sb++⟨#[UInt8.ofNat (bt s j)]⟩:BA).data.size:=rfl
 have o:wrS [] (ds++[(bt s j,j)]) wg=d:=by
  rw[zs8,m]
  have a:bt s j∈[]++ds.map Prod.fst↔0<=plc sb (bt s j):=by rw[zb7,f];simp
  by_cases b:0<=plc sb (bt s j)
  ·rw[if_pos (a.2 b),if_pos b]
  ·rw[if_neg (λ x=>b (a.1 x)),if_neg b]
 refine⟨sb++⟨#[UInt8.ofNat (bt s j)]⟩,more,rfl,by omega,.inl ⟨ds++[(bt s j,j)],j',by rw[o];exact M,by rw[g,be_];rfl,?_,hn,?_⟩⟩
 ·rw[ah_,aq_,ao_]
  rcases a with⟨_,_,rfl⟩|⟨_,_,rfl⟩<;>omega
 ·rw[k,zcg,if_pos h]
  rcases a with⟨rfl,c,rfl⟩|⟨rfl,c,rfl⟩
  ·rw[if_pos c,if_pos rfl]
  ·rw[if_neg c,if_neg (by decide)]
open Go.RowKit
theorem zll {w:World}{X:Nat->Prop}{br bz B:Nat}{s:BA}{wg:Int}{zs:List Value}{tv u:Value}(R:Rep w X br bz B s i false wg mx ts us zs tv u) :
 Calls prog 69 #[.pointer (some ⟨br,0,none⟩)] w (zi0 w X br bz B s i wg mx ts us zs tv u):=by
 have d8:=R.sl;have f2:=R.il;have M0:=q_ (zul R);obtain⟨e6,Y⟩:∃ P,H_ (P=zi0 w X br bz B s i wg mx ts us zs tv u):=⟨_,rfl⟩;rw[<- Y.o]
 go_in
 go_wp2_with (go_at_call 40;refine(y4_ 40 M0.o.R rfl (by decide)).mono ?_;rintro e w1 ⟨rfl,p,e0⟩)
 have b6:zxz (vc_ s i) w X br bz B s (i+1) wg mx ts us zs tv u (s.size+3) (.bool true) w1:=by
  refine⟨⟨#[]⟩,true,rfl,by decide,?_⟩;rw[znd]
  by_cases d2:bt s i=40
  ·rw[if_pos d2] at p⊢;exact .inl ⟨[],i+1,M0.o.call p e0,rfl,by simp,by omega,rfl⟩
  ·rw[if_neg d2] at p⊢;exact .inr ⟨i,_,M0.o.call p e0,rfl⟩
 replace b6:=q_ b6;clear p
 go_loopg [4] (s.size+3) (λ m mv W=>zxz (vc_ s i) w X br bz B s (i+1) wg mx ts us zs tv u m mv W)
 case atStart=>exact b6.o
 case round=>
  clear b6;obtain⟨sb,more,rfl,f5,hA|hC⟩:=hrel
  ·obtain⟨ds,j,M,a0,d6,hm,n⟩:=hA;have f3:=M.R.il;have c2:=M.R.here.c2;have c1:=M.R.here.c1;have f1:=M.R.here.thaw 1;have s2:=M.b3.cell 2;have d9:∀ x,(wr.alloc x).cell? ⟨w.heap.size+1,2,none⟩=some (.string sb):=λ x=>M.b3.cellAlloc 2 x;simp only[zt_,aa_,ab_] at s2;replace M:=q_ M;replace a0:=q_ a0
   cases more with
   | true=>
    rw[if_pos rfl] at n
    cases q:zi_ (bt s j) with
    | false=>
     have N:=q_ (show vc_ s i=.error j by rw[n,zcg,if_neg (by rw[q];decide)]);clear n
     go_wp2_with (go_at_call 98;refine(vx_ M.o.R).mono ?_;rintro e S ⟨rfl,r,Q⟩;rw[if_neg (by rw[q];decide)];rw[if_neg (by rw[q];decide)] at r;have b:=M.o.call r Q;have d1:=b.R.here.c2;have H:=b.b3.cell 0;have I:=b.b3.cell 1;have J:=b.b3.cell 2;have t3:=b.b3.cell 3;have t4:=b.b3.cell 4;have r0:=b.b2.cell 0;have r1:=b.b2.cell 1;have E:=b.b2.cell 2;have F:=b.b2.cell 3;have G:=b.b2.cell 4;obtain⟨g0,g1,g2,g3,g4⟩:=b.b2.t5;simp only[zt_,yb_,aa_,ab_] at H I J t3 t4 r0 r1 E F G;replace b:=q_ b)
     have L:=Blk.five b.o.b2 (.int .u8 101) (.slice none 0 0) (.string sb) (.int .i64 (-1)) (.int .i64 0);obtain⟨z,A,C,q3,D⟩:=L.d5;have y:=Fr.five S w.heap.size (.int .u8 101) (.slice none 0 0) (.string sb) (.int .i64 (-1)) (.int .i64 0);generalize (((((World.setCell S ⟨w.heap.size,0,none⟩ (.int .u8 101)).setCell ⟨w.heap.size,1,none⟩ (.slice none 0 0)).setCell ⟨w.heap.size,2,none⟩ (.string sb)).setCell ⟨w.heap.size,3,none⟩ (.int .i64 (-1))).setCell ⟨w.heap.size,4,none⟩ (.int .i64 0))=W5 at *;refine bodyPost_ret (v:=.agg (zt_ sb (-1)).toArray) (by simp[results,results69,go_sem,z,A,C,q3,D,zt_]) rfl ?_;rw[Y.o];exact vj_ b.o y (by rw[N.o];exact⟨rfl,rfl⟩)
    | true=>
     replace n:=q_ n;have U:j<s.size:=zj_ (xc_ q);obtain⟨c,hc⟩:∃ c,bt s j=c:=⟨_,rfl⟩;have f0:=λ (W:World) (g:Nat) (c:Int) (h:W.heap.size=g)=>zin W g c h
     go_upto_if 34 with(first
      |(go_at_call 98;refine(vx_ M.o.R).mono ?_;rintro e S ⟨rfl,r,Q⟩;rw[if_pos q,hc];rw[if_pos q] at r;have b:=M.o.call r Q;have d1:=b.R.here.c2;have e5:=b.b3.cell 2;simp only[zt_,aa_,ab_] at e5;replace b:=q_ b)
      |(go_at_call 99;refine(zdq sb c _ (by omega)).mono ?_;rintro e w' ⟨rfl,rfl⟩))
     clear s2 d9 c1 f1 c2
     go_cut [] (λ W=>∃ b7,SM w X br bz B s (j+1) false b7 mx ts us zs tv u (zt_ sb (-1)) W/\b7=if 0<=plc sb (bt s j) then zz_ j (wrS [] ds wg) else wrS [] ds wg)
     case first=>
      by_cases hq:0<=plc sb c
      ·go_wp2_with (go_at_call 24;refine(zaa b.o.R).mono ?_;rintro e w5 ⟨rfl,hW,a6⟩)
       go_meet
       case rel=>exact⟨_,b.o.call hW a6,by rw[hc,if_pos hq]⟩
      ·have f4:decide (0<=plc sb c)=false:=decide_eq_false hq
       go_wp2_with fail
       go_meet
       case rel=>exact⟨_,b.o,by rw[hc,if_neg (by omega)]⟩
     case rest=>
      obtain⟨b7,t,b5⟩:=hcut;clear b;have s2:=t.b3.cell 2;have d9:∀ x,(wc.alloc x).cell? ⟨w.heap.size+1,2,none⟩=some (.string sb):=λ x=>t.b3.cellAlloc 2 x;have e9:∀ x,(wc.alloc x).frozen? ⟨w.heap.size+1,2,none⟩=false:=λ x=>(t.b3.alloc x).thaw 2;simp only[zt_,aa_,ab_] at s2;have M6:=q_ ((t.alloc (.cells #[.int .u8 (c:Int)] 5)).put 2 (.string (sb++(⟨#[UInt8.ofNat c]⟩:BA))):SM w X br bz B s (j+1) false b7 mx ts us zs tv u (zt_ (sb++⟨#[UInt8.ofNat c]⟩) (-1)) ((wc.alloc (.cells #[.int .u8 (c:Int)] 5)).setCell ⟨w.heap.size+1,2,none⟩ (.string (sb++⟨#[UInt8.ofNat c]⟩))));replace b5:=q_ b5;obtain⟨d0,a5⟩:∃ c,bt s (j+1)=c:=⟨_,rfl⟩;replace a5:=q_ a5;replace hc:=q_ hc;replace q:=q_ q;clear t
      by_cases a9:d0=44
      ·have b4:=q_ (a5.o.trans a9);have e3:j+1<s.size:=zj_ (by rw[b4.o];decide);subst a9
       go_wp2_with (go_at_call 39;refine(z3_ M6.o.R a5.o).mono ?_;rintro e w7 ⟨rfl,b8⟩;have M7:=M6.o.still b8;have e7:=M7.R.here.c1;have e8:=M7.R.here.thaw 1;replace M7:=q_ M7)
       go_roundg (s.size+2-(j+2))
       case measure=>omega
       case rel=>exact zr2 _ (j+2) true n.o d8 d6 a0.o q.o b5.o (by rw[hc.o];exact M7.o.inc e3) l_ (.inl ⟨rfl,b4.o,rfl⟩)
      ·have f7:((d0:Int)==44)=false:=by simp;omega
       have b4:=q_ (show bt s (j+1)≠44 by rw[a5.o];exact a9);clear a9
       go_wp2_with (go_at_call 39;refine(z3_ M6.o.R a5.o).mono ?_;rintro e w7 ⟨rfl,b8⟩;have M7:=q_ (M6.o.still b8))
       go_roundg (s.size+2-(j+1))
       case measure=>omega
       case rel=>exact zr2 _ (j+1) false n.o d8 d6 a0.o q.o b5.o (by rw[hc.o];exact M7.o) l_ (.inr ⟨rfl,b4.o,rfl⟩)
   | false=>
    rw[if_neg (by decide)] at n;obtain⟨c0,hc⟩:∃ c,bt s j=c:=⟨_,rfl⟩;replace hc:=q_ hc
    by_cases a8:c0=33
    ·have e2:bt s j=33:=hc.o.trans a8;subst a8;have U:j<s.size:=zj_ (by omega);rw[finE,if_pos e2] at n
     cases q:zi_ (bt s (j+1)) with
     | false=>
      have N:=q_ (show vc_ s i=.error (j+1) by rw[n,if_neg (by rw[q];decide)]);clear n
      go_wp2_with (first
       |(go_at_call 39;refine(z3_ M.o.R hc.o).mono ?_;rintro e w2 ⟨rfl,O⟩;have d:=M.o.still O;have a2:=d.R.here.c1;have a4:=d.R.here.thaw 1;have a3:=d.R.here.c2;replace d:=q_ d)
       |(go_at_call 98;refine(vx_ (d.o.inc U).R).mono ?_;rintro e S ⟨rfl,r,Q⟩;rw[if_neg (by rw[q];decide)];rw[if_neg (by rw[q];decide)] at r;have b:=(d.o.inc U).call r Q;have k2:=b.b3.cell 2;have k3:=b.b3.cell 3;have m3:=b.b3.thaw 3;simp only[zt_,aa_,ab_] at k2 k3;replace b:=q_ b)
       |(go_at_call 90;refine(jk_ sb 0 _ (by omega)).mono ?_;rintro e w' ⟨rfl,Z⟩;rw[Z];have f:SM w X br bz B s _ _ _ mx ts us zs tv u (zt_ sb (plc sb 0)) _:=b.o.put 3 (.int .i64 (plc sb 0));have a7:=f.R.here.c2;have H:=f.b3.cell 0;have I:=f.b3.cell 1;have J:=f.b3.cell 2;have t3:=f.b3.cell 3;have t4:=f.b3.cell 4;have r0:=f.b2.cell 0;have r1:=f.b2.cell 1;have E:=f.b2.cell 2;have F:=f.b2.cell 3;have G:=f.b2.cell 4;obtain⟨g0,g1,g2,g3,g4⟩:=f.b2.t5;simp only[zt_,yb_,aa_,ab_] at H I J t3 t4 r0 r1 E F G;replace f:=q_ f))
      have L:=Blk.five f.o.b2 (.int .u8 101) (.slice none 0 0) (.string sb) (.int .i64 (plc sb 0)) (.int .i64 0);obtain⟨z,A,C,q3,D⟩:=L.d5;have y:=Fr.five (S.setCell ⟨w.heap.size+1,3,none⟩ (.int .i64 (plc sb 0))) w.heap.size (.int .u8 101) (.slice none 0 0) (.string sb) (.int .i64 (plc sb 0)) (.int .i64 0);generalize (((((World.setCell (S.setCell ⟨w.heap.size+1,3,none⟩ (.int .i64 (plc sb 0))) ⟨w.heap.size,0,none⟩ (.int .u8 101)).setCell ⟨w.heap.size,1,none⟩ (.slice none 0 0)).setCell ⟨w.heap.size,2,none⟩ (.string sb)).setCell ⟨w.heap.size,3,none⟩ (.int .i64 (plc sb 0))).setCell ⟨w.heap.size,4,none⟩ (.int .i64 0))=W5 at *;refine bodyPost_ret (v:=.agg (zt_ sb (plc sb 0)).toArray) (by simp[results,results69,go_sem,z,A,C,q3,D,zt_]) rfl ?_;rw[Y.o];exact vj_ f.o y (by rw[N.o];exact⟨rfl,rfl⟩)
     | true=>
      rw[if_pos q] at n;obtain⟨l,a1⟩:∃ c,bt s (j+1)=c:=⟨_,rfl⟩;replace a1:=q_ a1;have d7:=q_ (show 0<=plc sb l↔l∈ds.map Prod.fst by rw[zb7,a0.o])
      by_cases T:bt s (j+2)=41
      ·have N:=q_ (show vc_ s i=.ok ((ds,some (l,j+1)),j+3) by rw[n,if_pos T,a1.o]);clear n
       by_cases hq:0<=plc sb l
       ·have b9:=q_ (show wrS [] ds wg=wrE ds (some (l,j+1)) wg by unfold wrE;simp only;rw[if_pos (d7.o.1 hq)])
        go_wp2_with (first
         |(go_at_call 39;refine(z3_ M.o.R hc.o).mono ?_;rintro e w2 ⟨rfl,O⟩;have d:=M.o.still O;have a2:=d.R.here.c1;have a4:=d.R.here.thaw 1;have a3:=d.R.here.c2;replace d:=q_ d)
         |(go_at_call 98;refine(vx_ (d.o.inc U).R).mono ?_;rintro e S ⟨rfl,r,Q⟩;rw[if_pos q,a1.o];rw[if_pos q] at r;have b:=(d.o.inc U).call r Q;have k2:=b.b3.cell 2;have k3:=b.b3.cell 3;have m3:=b.b3.thaw 3;simp only[zt_,aa_,ab_] at k2 k3;replace b:=q_ b)
         |(go_at_call 90;refine(jk_ sb l _ (by omega)).mono ?_;rintro e w' ⟨rfl,Z⟩;rw[Z];have f:SM w X br bz B s _ _ _ mx ts us zs tv u (zt_ sb (plc sb l)) _:=b.o.put 3 (.int .i64 (plc sb l));have a7:=f.R.here.c2;replace f:=q_ f)
         |(go_at_call 40;refine(y4_ 41 f.o.R rfl (by decide)).mono ?_;rintro e K ⟨rfl,p,V⟩;rw[if_pos T] at p;have a:=f.o.call p V;have H:=a.b3.cell 0;have I:=a.b3.cell 1;have J:=a.b3.cell 2;have t3:=a.b3.cell 3;have t4:=a.b3.cell 4;have r0:=a.b2.cell 0;have r1:=a.b2.cell 1;have E:=a.b2.cell 2;have F:=a.b2.cell 3;have G:=a.b2.cell 4;obtain⟨g0,g1,g2,g3,g4⟩:=a.b2.t5;simp only[zt_,yb_,aa_,ab_] at H I J t3 t4 r0 r1 E F G;replace a:=q_ a))
        have L:=Blk.five a.o.b2 (.int .u8 101) (.slice none 0 0) (.string sb) (.int .i64 (plc sb l)) (.int .i64 0);obtain⟨z,A,C,q3,D⟩:=L.d5;have y:=Fr.five K w.heap.size (.int .u8 101) (.slice none 0 0) (.string sb) (.int .i64 (plc sb l)) (.int .i64 0);generalize (((((World.setCell K ⟨w.heap.size,0,none⟩ (.int .u8 101)).setCell ⟨w.heap.size,1,none⟩ (.slice none 0 0)).setCell ⟨w.heap.size,2,none⟩ (.string sb)).setCell ⟨w.heap.size,3,none⟩ (.int .i64 (plc sb l))).setCell ⟨w.heap.size,4,none⟩ (.int .i64 0))=W5 at *;refine bodyPost_ret (v:=.agg (zt_ sb (plc sb l)).toArray) (by simp[results,results69,go_sem,z,A,C,q3,D,zt_]) rfl ?_;rw[Y.o];exact vj_ a.o y (by rw[N.o];exact⟨rfl,rfl,a0.o,rfl,b9.o⟩)
       ·have b9:=q_ (show zz_ ((j+1:Nat):Int) (wrS [] ds wg)=wrE ds (some (l,j+1)) wg by unfold wrE;simp only;rw[if_neg (λ x=>hq (d7.o.2 x))])
        go_wp2_with (first
         |(go_at_call 39;refine(z3_ M.o.R hc.o).mono ?_;rintro e w2 ⟨rfl,O⟩;have d:=M.o.still O;have a2:=d.R.here.c1;have a4:=d.R.here.thaw 1;have a3:=d.R.here.c2;replace d:=q_ d)
         |(go_at_call 98;refine(vx_ (d.o.inc U).R).mono ?_;rintro e S ⟨rfl,r,Q⟩;rw[if_pos q,a1.o];rw[if_pos q] at r;have b:=(d.o.inc U).call r Q;have k2:=b.b3.cell 2;have k3:=b.b3.cell 3;have m3:=b.b3.thaw 3;simp only[zt_,aa_,ab_] at k2 k3;replace b:=q_ b)
         |(go_at_call 90;refine(jk_ sb l _ (by omega)).mono ?_;rintro e w' ⟨rfl,Z⟩;rw[Z];have f:SM w X br bz B s _ _ _ mx ts us zs tv u (zt_ sb (plc sb l)) _:=b.o.put 3 (.int .i64 (plc sb l));have a7:=f.R.here.c2;replace f:=q_ f)
         |(go_at_call 24;refine(zaa f.o.R).mono ?_;rintro e w5 ⟨rfl,hW,a6⟩;have t:=f.o.call hW a6;have e1:=t.R.here.c2;replace t:=q_ t)
         |(go_at_call 40;refine(y4_ 41 t.o.R rfl (by decide)).mono ?_;rintro e K ⟨rfl,p,V⟩;rw[if_pos T] at p;have a:=t.o.call p V;have H:=a.b3.cell 0;have I:=a.b3.cell 1;have J:=a.b3.cell 2;have t3:=a.b3.cell 3;have t4:=a.b3.cell 4;have r0:=a.b2.cell 0;have r1:=a.b2.cell 1;have E:=a.b2.cell 2;have F:=a.b2.cell 3;have G:=a.b2.cell 4;obtain⟨g0,g1,g2,g3,g4⟩:=a.b2.t5;simp only[zt_,yb_,aa_,ab_] at H I J t3 t4 r0 r1 E F G;replace a:=q_ a))
        have L:=Blk.five a.o.b2 (.int .u8 101) (.slice none 0 0) (.string sb) (.int .i64 (plc sb l)) (.int .i64 0);obtain⟨z,A,C,q3,D⟩:=L.d5;have y:=Fr.five K w.heap.size (.int .u8 101) (.slice none 0 0) (.string sb) (.int .i64 (plc sb l)) (.int .i64 0);generalize (((((World.setCell K ⟨w.heap.size,0,none⟩ (.int .u8 101)).setCell ⟨w.heap.size,1,none⟩ (.slice none 0 0)).setCell ⟨w.heap.size,2,none⟩ (.string sb)).setCell ⟨w.heap.size,3,none⟩ (.int .i64 (plc sb l))).setCell ⟨w.heap.size,4,none⟩ (.int .i64 0))=W5 at *;refine bodyPost_ret (v:=.agg (zt_ sb (plc sb l)).toArray) (by simp[results,results69,go_sem,z,A,C,q3,D,zt_]) rfl ?_;rw[Y.o];exact vj_ a.o y (by rw[N.o];exact⟨rfl,rfl,a0.o,rfl,b9.o⟩)
      ·have N:=q_ (show vc_ s i=.error (j+2) by rw[n,if_neg T]);clear n
       by_cases hq:0<=plc sb l
       ·go_wp2_with (first
         |(go_at_call 39;refine(z3_ M.o.R hc.o).mono ?_;rintro e w2 ⟨rfl,O⟩;have d:=M.o.still O;have a2:=d.R.here.c1;have a4:=d.R.here.thaw 1;have a3:=d.R.here.c2;replace d:=q_ d)
         |(go_at_call 98;refine(vx_ (d.o.inc U).R).mono ?_;rintro e S ⟨rfl,r,Q⟩;rw[if_pos q,a1.o];rw[if_pos q] at r;have b:=(d.o.inc U).call r Q;have k2:=b.b3.cell 2;have k3:=b.b3.cell 3;have m3:=b.b3.thaw 3;simp only[zt_,aa_,ab_] at k2 k3;replace b:=q_ b)
         |(go_at_call 90;refine(jk_ sb l _ (by omega)).mono ?_;rintro e w' ⟨rfl,Z⟩;rw[Z];have f:SM w X br bz B s _ _ _ mx ts us zs tv u (zt_ sb (plc sb l)) _:=b.o.put 3 (.int .i64 (plc sb l));have a7:=f.R.here.c2;replace f:=q_ f)
         |(go_at_call 40;refine(y4_ 41 f.o.R rfl (by decide)).mono ?_;rintro e K ⟨rfl,p,V⟩;rw[if_neg T] at p;have a:=f.o.call p V;have H:=a.b3.cell 0;have I:=a.b3.cell 1;have J:=a.b3.cell 2;have t3:=a.b3.cell 3;have t4:=a.b3.cell 4;have r0:=a.b2.cell 0;have r1:=a.b2.cell 1;have E:=a.b2.cell 2;have F:=a.b2.cell 3;have G:=a.b2.cell 4;obtain⟨g0,g1,g2,g3,g4⟩:=a.b2.t5;simp only[zt_,yb_,aa_,ab_] at H I J t3 t4 r0 r1 E F G;replace a:=q_ a))
        have L:=Blk.five a.o.b2 (.int .u8 101) (.slice none 0 0) (.string sb) (.int .i64 (plc sb l)) (.int .i64 0);obtain⟨z,A,C,q3,D⟩:=L.d5;have y:=Fr.five K w.heap.size (.int .u8 101) (.slice none 0 0) (.string sb) (.int .i64 (plc sb l)) (.int .i64 0);generalize (((((World.setCell K ⟨w.heap.size,0,none⟩ (.int .u8 101)).setCell ⟨w.heap.size,1,none⟩ (.slice none 0 0)).setCell ⟨w.heap.size,2,none⟩ (.string sb)).setCell ⟨w.heap.size,3,none⟩ (.int .i64 (plc sb l))).setCell ⟨w.heap.size,4,none⟩ (.int .i64 0))=W5 at *;refine bodyPost_ret (v:=.agg (zt_ sb (plc sb l)).toArray) (by simp[results,results69,go_sem,z,A,C,q3,D,zt_]) rfl ?_;rw[Y.o];exact vj_ a.o y (by rw[N.o];exact⟨rfl,rfl⟩)
       ·go_wp2_with (first
         |(go_at_call 39;refine(z3_ M.o.R hc.o).mono ?_;rintro e w2 ⟨rfl,O⟩;have d:=M.o.still O;have a2:=d.R.here.c1;have a4:=d.R.here.thaw 1;have a3:=d.R.here.c2;replace d:=q_ d)
         |(go_at_call 98;refine(vx_ (d.o.inc U).R).mono ?_;rintro e S ⟨rfl,r,Q⟩;rw[if_pos q,a1.o];rw[if_pos q] at r;have b:=(d.o.inc U).call r Q;have k2:=b.b3.cell 2;have k3:=b.b3.cell 3;have m3:=b.b3.thaw 3;simp only[zt_,aa_,ab_] at k2 k3;replace b:=q_ b)
         |(go_at_call 90;refine(jk_ sb l _ (by omega)).mono ?_;rintro e w' ⟨rfl,Z⟩;rw[Z];have f:SM w X br bz B s _ _ _ mx ts us zs tv u (zt_ sb (plc sb l)) _:=b.o.put 3 (.int .i64 (plc sb l));have a7:=f.R.here.c2;replace f:=q_ f)
         |(go_at_call 24;refine(zaa f.o.R).mono ?_;rintro e w5 ⟨rfl,hW,a6⟩;have t:=f.o.call hW a6;have e1:=t.R.here.c2;replace t:=q_ t)
         |(go_at_call 40;refine(y4_ 41 t.o.R rfl (by decide)).mono ?_;rintro e K ⟨rfl,p,V⟩;rw[if_neg T] at p;have a:=t.o.call p V;have H:=a.b3.cell 0;have I:=a.b3.cell 1;have J:=a.b3.cell 2;have t3:=a.b3.cell 3;have t4:=a.b3.cell 4;have r0:=a.b2.cell 0;have r1:=a.b2.cell 1;have E:=a.b2.cell 2;have F:=a.b2.cell 3;have G:=a.b2.cell 4;obtain⟨g0,g1,g2,g3,g4⟩:=a.b2.t5;simp only[zt_,yb_,aa_,ab_] at H I J t3 t4 r0 r1 E F G;replace a:=q_ a))
        have L:=Blk.five a.o.b2 (.int .u8 101) (.slice none 0 0) (.string sb) (.int .i64 (plc sb l)) (.int .i64 0);obtain⟨z,A,C,q3,D⟩:=L.d5;have y:=Fr.five K w.heap.size (.int .u8 101) (.slice none 0 0) (.string sb) (.int .i64 (plc sb l)) (.int .i64 0);generalize (((((World.setCell K ⟨w.heap.size,0,none⟩ (.int .u8 101)).setCell ⟨w.heap.size,1,none⟩ (.slice none 0 0)).setCell ⟨w.heap.size,2,none⟩ (.string sb)).setCell ⟨w.heap.size,3,none⟩ (.int .i64 (plc sb l))).setCell ⟨w.heap.size,4,none⟩ (.int .i64 0))=W5 at *;refine bodyPost_ret (v:=.agg (zt_ sb (plc sb l)).toArray) (by simp[results,results69,go_sem,z,A,C,q3,D,zt_]) rfl ?_;rw[Y.o];exact vj_ a.o y (by rw[N.o];exact⟨rfl,rfl⟩)
    ·have f6:((c0:Int)==33)=false:=by simp;omega
     rw[finE,if_neg (by rw[hc.o];exact a8)] at n;clear a8
     by_cases T:bt s j=41
     ·have N:=q_ (show vc_ s i=.ok ((ds,none),j+1) by rw[n,if_pos T]);clear n
      go_wp2_with (first
       |(go_at_call 39;refine(z3_ M.o.R hc.o).mono ?_;rintro e w2 ⟨rfl,O⟩;have d:=M.o.still O;have a2:=d.R.here.c1;have a4:=d.R.here.thaw 1;have a3:=d.R.here.c2;replace d:=q_ d)
       |(go_at_call 40;refine(y4_ 41 d.o.R rfl (by decide)).mono ?_;rintro e K ⟨rfl,p,V⟩;rw[if_pos T] at p;have a:=d.o.call p V;have H:=a.b3.cell 0;have I:=a.b3.cell 1;have J:=a.b3.cell 2;have t3:=a.b3.cell 3;have t4:=a.b3.cell 4;have r0:=a.b2.cell 0;have r1:=a.b2.cell 1;have E:=a.b2.cell 2;have F:=a.b2.cell 3;have G:=a.b2.cell 4;obtain⟨g0,g1,g2,g3,g4⟩:=a.b2.t5;simp only[zt_,yb_,aa_,ab_] at H I J t3 t4 r0 r1 E F G;replace a:=q_ a))
      have L:=Blk.five a.o.b2 (.int .u8 101) (.slice none 0 0) (.string sb) (.int .i64 (-1)) (.int .i64 0);obtain⟨z,A,C,q3,D⟩:=L.d5;have y:=Fr.five K w.heap.size (.int .u8 101) (.slice none 0 0) (.string sb) (.int .i64 (-1)) (.int .i64 0);generalize (((((World.setCell K ⟨w.heap.size,0,none⟩ (.int .u8 101)).setCell ⟨w.heap.size,1,none⟩ (.slice none 0 0)).setCell ⟨w.heap.size,2,none⟩ (.string sb)).setCell ⟨w.heap.size,3,none⟩ (.int .i64 (-1))).setCell ⟨w.heap.size,4,none⟩ (.int .i64 0))=W5 at *;refine bodyPost_ret (v:=.agg (zt_ sb (-1)).toArray) (by simp[results,results69,go_sem,z,A,C,q3,D,zt_]) rfl ?_;rw[Y.o];exact vj_ a.o y (by rw[N.o];exact⟨rfl,rfl,a0.o,rfl,rfl⟩)
     ·have N:=q_ (show vc_ s i=.error j by rw[n,if_neg T]);clear n
      go_wp2_with (first
       |(go_at_call 39;refine(z3_ M.o.R hc.o).mono ?_;rintro e w2 ⟨rfl,O⟩;have d:=M.o.still O;have a2:=d.R.here.c1;have a4:=d.R.here.thaw 1;have a3:=d.R.here.c2;replace d:=q_ d)
       |(go_at_call 40;refine(y4_ 41 d.o.R rfl (by decide)).mono ?_;rintro e K ⟨rfl,p,V⟩;rw[if_neg T] at p;have a:=d.o.call p V;have H:=a.b3.cell 0;have I:=a.b3.cell 1;have J:=a.b3.cell 2;have t3:=a.b3.cell 3;have t4:=a.b3.cell 4;have r0:=a.b2.cell 0;have r1:=a.b2.cell 1;have E:=a.b2.cell 2;have F:=a.b2.cell 3;have G:=a.b2.cell 4;obtain⟨g0,g1,g2,g3,g4⟩:=a.b2.t5;simp only[zt_,yb_,aa_,ab_] at H I J t3 t4 r0 r1 E F G;replace a:=q_ a))
      have L:=Blk.five a.o.b2 (.int .u8 101) (.slice none 0 0) (.string sb) (.int .i64 (-1)) (.int .i64 0);obtain⟨z,A,C,q3,D⟩:=L.d5;have y:=Fr.five K w.heap.size (.int .u8 101) (.slice none 0 0) (.string sb) (.int .i64 (-1)) (.int .i64 0);generalize (((((World.setCell K ⟨w.heap.size,0,none⟩ (.int .u8 101)).setCell ⟨w.heap.size,1,none⟩ (.slice none 0 0)).setCell ⟨w.heap.size,2,none⟩ (.string sb)).setCell ⟨w.heap.size,3,none⟩ (.int .i64 (-1))).setCell ⟨w.heap.size,4,none⟩ (.int .i64 0))=W5 at *;refine bodyPost_ret (v:=.agg (zt_ sb (-1)).toArray) (by simp[results,results69,go_sem,z,A,C,q3,D,zt_]) rfl ?_;rw[Y.o];exact vj_ a.o y (by rw[N.o];exact⟨rfl,rfl⟩)
  ·obtain⟨k,f8,M,n⟩:=hC;have c2:=M.R.here.c2;replace n:=q_ n;replace M:=q_ M;cases more
   all_goals
    go_wp2_with (go_at_call 39;refine(zlr M.o.R).mono ?_;rintro e S ⟨rfl,e4⟩;have b:=M.o.still e4;have d1:=b.R.here.c2;have H:=b.b3.cell 0;have I:=b.b3.cell 1;have J:=b.b3.cell 2;have t3:=b.b3.cell 3;have t4:=b.b3.cell 4;have r0:=b.b2.cell 0;have r1:=b.b2.cell 1;have E:=b.b2.cell 2;have F:=b.b2.cell 3;have G:=b.b2.cell 4;obtain⟨g0,g1,g2,g3,g4⟩:=b.b2.t5;simp only[zt_,yb_,aa_,ab_] at H I J t3 t4 r0 r1 E F G;replace b:=q_ b)
    have L:=Blk.five b.o.b2 (.int .u8 101) (.slice none 0 0) (.string sb) (.int .i64 (-1)) (.int .i64 0);obtain⟨z,A,C,q3,D⟩:=L.d5;have y:=Fr.five S w.heap.size (.int .u8 101) (.slice none 0 0) (.string sb) (.int .i64 (-1)) (.int .i64 0);generalize (((((World.setCell S ⟨w.heap.size,0,none⟩ (.int .u8 101)).setCell ⟨w.heap.size,1,none⟩ (.slice none 0 0)).setCell ⟨w.heap.size,2,none⟩ (.string sb)).setCell ⟨w.heap.size,3,none⟩ (.int .i64 (-1))).setCell ⟨w.heap.size,4,none⟩ (.int .i64 0))=W5 at *;refine bodyPost_ret (v:=.agg (zt_ sb (-1)).toArray) (by simp[results,results69,go_sem,z,A,C,q3,D,zt_]) rfl ?_;rw[Y.o];exact vj_ b.o y (by rw[n.o];exact⟨rfl,rfl⟩)
end Go.Proofs.YtiifagiebikmdaaGreatDoor
