import Derived.Test.YtokgeopihcopeaaGreatDoorW01
import Derived.Deep.DeepCutAuto
set_option linter.unusedVariables false
set_option maxHeartbeats 16000000
set_option maxRecDepth 100000
set_option linter.defProp false
set_option linter.unusedSimpArgs false
open Go.Proofs.Tryz
namespace Go.Proofs.YtokgeopihcopeaaGreatDoor
open Go.RowKit
variable {i p l t b:Nat}{mx wr num MX0:Int}{ts TS0:Ap}{us US0:As}{ds:An}{u3 v5:Ax}{R_:Except Nat (List PF×Nat)}{ty:PT}{kb:BA}
def Gg{s:BA}(hT:∀j,i<=j->j<=s.size->uk s j):GF s i:=by
 intro w X br bz B wg mx ts us zs tv u R;have g7:=R.sl;have start:=Ql R;replace start:H_ _:=start;replace hT:H_ _:=hT;obtain⟨g6,Q_⟩:=y_ (um w X br bz B s i wg mx ts us zs tv u);rw[<- Q_.o];go_in;go_wp2;go_loopg [4,5] (s.size+1) (λn kv mv W=>Xs w X br bz B s i wg mx ts us zs tv u n kv mv W);case atStart=>exact start
 case round=>
  obtain⟨ds,i',more,kb,sv,tv',u',rfl,rfl,r,G,Q,M,hg,b7,b8⟩:=hrel;obtain⟨O,a6,a7,a4,b6,e7⟩:=id M;replace M:H_ _:=M;obtain⟨a,sn,d,rfl⟩:=yE a4.1;have g1:i<=i':=M_;replace G:H_ _:=G;replace r:H_ _:=r;replace a6:H_ _:=a6;replace a7:H_ _:=a7;replace a4:H_ _:=a4;replace b6:H_ _:=b6;have c2:=O.here.c2;have o2:=O.offS (g:=w.heap.size) (.inr (.inl rfl));have o3:=O.offS (g:=w.heap.size+1) (.inr (.inr (.inl rfl)));replace o2:H_ _:=o2;replace o3:H_ _:=o3;cases more with
  |false=>
   have A:=b8 rfl;replace A:H_ _:=A;go_wp2_with (first
    |(go_at_call 36;apply(yL 41 O rfl D_).mono;rintro e y ⟨rfl,f,J⟩;have B3:=J.fr.bl a7 o3;have E:=J.fr.bl a6 o2;have d3:=B3.c0;have e3:=B3.c1;have d2:=E.c0;have e2:=E.c1;have f2:=E.th 0;have g2:=E.th 1))
   have q0:((y.setCell ⟨w.heap.size,0,none⟩ (.int .u8 40)).setCell ⟨w.heap.size,1,none⟩ (.slice a sn d)).cell? ⟨w.heap.size,0,none⟩=some (.int .u8 40):=((E.set 0 (.int .u8 40)).set 1 (.slice a sn d)).cell 0;have q1:((y.setCell ⟨w.heap.size,0,none⟩ (.int .u8 40)).setCell ⟨w.heap.size,1,none⟩ (.slice a sn d)).cell? ⟨w.heap.size,1,none⟩=some (.slice a sn d):=((E.set 0 (.int .u8 40)).set 1 (.slice a sn d)).cell 1;have hF:Fr y ((y.setCell ⟨w.heap.size,0,none⟩ (.int .u8 40)).setCell ⟨w.heap.size,1,none⟩ (.slice a sn d)) (λg=>g=w.heap.size):=J_ y w.heap.size 0 1 _ _;generalize (y.setCell ⟨w.heap.size,0,none⟩ (.int .u8 40)).setCell ⟨w.heap.size,1,none⟩ (.slice a sn d)=w4 at *;refine bodyPost_ret (v:=.agg #[.int .u8 40,.slice a sn d]) (by simp[results,results65,go_sem,q0,q1]) rfl ?_;rw[Q_.o];exact PY R A f e7 J a4 b6 hF
  |true=>
   have A:=b7 rfl;have I:=O.il;have a2:=ip s i' I;have a5:=hT.o i' g1 I;have c1:=O.here.c1;cases hp:pT s i' with
   |error k=>
    rw[hp]at a2;rw[a2]at A;replace A:H_ (pA s i=.error k):=A;have a1:H_ (Calls prog 38 #[P_ br] wr λe w'=>(∃v:Nat,e=.returned (I_ v))/\H_ (∃D f F tv2 u2,Rep w' (λg=>X g\/g=w.heap.size\/g=w.heap.size+1\/(Value.slice a sn d).ownBlock=some g) br bz B s k true wg D f F zs tv2 u2/\f.length+i'<=k+(ts++zN ts.length ds).length/\zT wr w' br bz tv' u' tv2 u2)):=by
     apply(a5 wr _ br bz B wg _ _ _ zs tv' u' O).mono;intro e w' S;unfold yp at S;rw[hp]at S;exact S
    go_wp2_with (first
     |(go_at_call 38;apply a1.o.mono;rintro e y ⟨⟨v,rfl⟩,a3⟩;obtain⟨f,f,f,tv2,u2,z,C,J⟩:=a3.o;have d7:=z.here.c2;have B3:=J.fr.bl a7 o3;have E:=J.fr.bl a6 o2;have d3:=B3.c0;have e3:=B3.c1;have d2:=E.c0;have e2:=E.c1;have f2:=E.th 0;have g2:=E.th 1))
    have q0:((y.setCell ⟨w.heap.size,0,none⟩ (.int .u8 40)).setCell ⟨w.heap.size,1,none⟩ (.slice a sn d)).cell? ⟨w.heap.size,0,none⟩=some (.int .u8 40):=((E.set 0 (.int .u8 40)).set 1 (.slice a sn d)).cell 0;have q1:((y.setCell ⟨w.heap.size,0,none⟩ (.int .u8 40)).setCell ⟨w.heap.size,1,none⟩ (.slice a sn d)).cell? ⟨w.heap.size,1,none⟩=some (.slice a sn d):=((E.set 0 (.int .u8 40)).set 1 (.slice a sn d)).cell 1;have hF:Fr y ((y.setCell ⟨w.heap.size,0,none⟩ (.int .u8 40)).setCell ⟨w.heap.size,1,none⟩ (.slice a sn d)) (λg=>g=w.heap.size):=J_ y w.heap.size 0 1 _ _;generalize (y.setCell ⟨w.heap.size,0,none⟩ (.int .u8 40)).setCell ⟨w.heap.size,1,none⟩ (.slice a sn d)=w4 at *;refine bodyPost_ret (v:=.agg #[.int .u8 40,.slice a sn d]) (by simp[results,results65,go_sem,q0,q1]) rfl ?_;rw[Q_.o];exact PZ R A z (by have:=G.o;rw[ag_]at C;omega) e7 J a4 b6 hF
   |ok q=>
    obtain⟨t,j⟩:=q;rw[hp]at a2;have d8:=lK hp (ts++zN ts.length ds).length;have E:=(xV I).1 t j hp;have L:=ao hp;have a1:H_ (Calls prog 38 #[P_ br] wr λe w'=>e=.returned (Z_ (((ts++zN ts.length ds).length+(flat (ts++zN ts.length ds).length t).length-1:Nat):Int))/\H_ (∃tv2 u2,Rep w' (λg=>X g\/g=w.heap.size\/g=w.heap.size+1\/(Value.slice a sn d).ownBlock=some g) br bz B s j false wg (mix t (qr [] ds mx)) ((ts++zN ts.length ds)++flat (ts++zN ts.length ds).length t) ((us++zX ds)++zZ t) zs tv2 u2/\zT wr w' br bz tv' u' tv2 u2)):=by
     apply(a5 wr _ br bz B wg _ _ _ zs tv' u' O).mono;intro e w' S;unfold yp at S;rw[hp]at S;exact S
    have b4:=JP (ts++zN ts.length ds).length t;have b5:=oP (ts++zN ts.length ds).length t;have D:∃N,N=(ts++zN ts.length ds).length+(flat (ts++zN ts.length ds).length t).length-1:=⟨_,rfl⟩;obtain⟨N,D⟩:=D;rw[<- D]at a1;generalize K:mix t (qr [] ds mx)=MX at a1;replace A:H_ _:=A;replace a2:H_ _:=a2;replace hp:H_ _:=hp;replace d8:H_ _:=d8;replace L:H_ _:=L;replace b4:H_ _:=b4;replace b5:H_ _:=b5;replace D:H_ _:=D;replace K:H_ _:=K;have E:kb.size<=300:=by
     have h1:=congrArg List.length r;simp only[bu_,Array.length_toList]at h1;have E:kb.size=kb.data.size:=rfl;omega
    have E:=λ(W:World) (g:Nat) (c:Int) (h:W.heap.size=g)=>rQ W g c h;obtain⟨ti,d9,e0,e1,e6⟩:=info_parts MO;have E:(jN ts.length ds).length<=300:=by rw[mJ];omega
    by_cases T:bt s j=44
    .have a9:j<s.size:=zp M_;go_wp2_with (first
      |(go_at_call 38;apply a1.o.mono;rintro e y ⟨rfl,a3⟩;obtain⟨tv2,u2,z,J⟩:=a3.o;have d7:=z.here.c2;have e9:=z.here.c3;have f0:=z.here.c6;have f8:=z.here.th 6;have f:=M.o.call z J;have e3:∀x,(y.alloc x).cell? ⟨w.heap.size+1,1,none⟩=some (.slice a sn d):=λx=>f.b3.ce 1 x;have e4:∀m x,((y.setCell ⟨br,6,none⟩ (Z_ m)).alloc x).cell? ⟨w.heap.size+1,1,none⟩=some (.slice a sn d):=λm x=>(f.setMx m).b3.ce 1 x;have Z:=f.ss.1;have a0:=λm=>(f.setMx m).ss.1;replace Z:H_ _:=Z;replace a0:H_ _:=a0;replace f:H_ _:=f;obtain⟨g,f1,f9,g3,g4⟩:=nu z D b5 b4)
      |(go_at_call 96;apply(fp kb t.kind _ M_).mono;rintro e w' ⟨rfl,rfl⟩)
      |(at_builtin;refine wpList_append_own_at _ rfl _ _ 167 rfl B 3 ti (O_) 1 8 QH d9 e0 e1 e6 rfl D_ (.slice a sn d) (jN ts.length ds).length ((jN ts.length ds).map λ(n:Nat)=>Value.int .i64 (n:Int)) rfl ?hown _ 1 1 [I_ N] rfl rfl (zK _ #[I_ N] _ _ ?nn) (ints_oneCell .i64 [(N:Int)]) ?b1 ?b2 ?b3 ?_
        case hown=>first|exact World.ownsRow.alloc (World.ownsRow.alloc Z _) _|exact World.ownsRow.alloc (World.ownsRow.alloc (a0.o _) _) _
        case nn=>simp
        case b1=>unfold maxLen;omega
        case b2=>omega
        case b3=>have:=z.hB;simp;omega
        intro v5 w5 V H b9 U
        first|have F:=f.o.grow H V U|have F:=(f.o.setMx _).grow H V U
        first|have E5:=f.o.gC H|have E5:=(f.o.setMx _).gC H
        obtain⟨e5,f5⟩:=E5
        obtain⟨g5,f6,rfl⟩:=zg V M_
        replace F:H_ _:=F)
      |(go_at_call 35;apply(zC F.o.R T).mono;rintro e w6 ⟨rfl,d6⟩;have C:=F.o.si d6;have e8:=C.R.here.c1;have f7:=C.R.here.th 1;replace C:H_ _:=C))
     all_goals
      go_roundg (s.size+1-(j+1));case measure=>omega
      case rel=>
       first
        |exact qz (s.size+1-(j+1)) true (j+1) hp I r G Q A D (cH r L K M_) (C.o.inc a9) l_ (.inl ⟨rfl,rfl,T⟩)
        |exact qz (s.size+1-(j+1)) true (j+1) hp I r G Q A D (bJ r L K M_) (C.o.inc a9) l_ (.inl ⟨rfl,rfl,T⟩)
        |(have hk:t.kind=40:=by omega
          have q:=qz (s.size+1-(j+1)) true (j+1) hp I r G Q A D (cH r L K M_) (C.o.inc a9) l_ (.inl ⟨rfl,rfl,T⟩)
          rw[hk]at q
          exact q)
        |(have hk:t.kind=40:=by omega
          have q:=qz (s.size+1-(j+1)) true (j+1) hp I r G Q A D (bJ r L K M_) (C.o.inc a9) l_ (.inl ⟨rfl,rfl,T⟩)
          rw[hk]at q
          exact q)
    .obtain⟨cj,g0⟩:=x_ (bt s j);have E:((cj:Int)==44)=false:=x1_
     have a8:H_ (bt s j≠44):=T;go_wp2_with (first
      |(go_at_call 38;apply a1.o.mono;rintro e y ⟨rfl,a3⟩;obtain⟨tv2,u2,z,J⟩:=a3.o;have d7:=z.here.c2;have e9:=z.here.c3;have f0:=z.here.c6;have f8:=z.here.th 6;have f:=M.o.call z J;have e3:∀x,(y.alloc x).cell? ⟨w.heap.size+1,1,none⟩=some (.slice a sn d):=λx=>f.b3.ce 1 x;have e4:∀m x,((y.setCell ⟨br,6,none⟩ (Z_ m)).alloc x).cell? ⟨w.heap.size+1,1,none⟩=some (.slice a sn d):=λm x=>(f.setMx m).b3.ce 1 x;have Z:=f.ss.1;have a0:=λm=>(f.setMx m).ss.1;replace Z:H_ _:=Z;replace a0:H_ _:=a0;replace f:H_ _:=f;obtain⟨g,f1,f9,g3,g4⟩:=nu z D b5 b4)
      |(go_at_call 96;apply(fp kb t.kind _ M_).mono;rintro e w' ⟨rfl,rfl⟩)
      |(at_builtin;refine wpList_append_own_at _ rfl _ _ 167 rfl B 3 ti (O_) 1 8 QH d9 e0 e1 e6 rfl D_ (.slice a sn d) (jN ts.length ds).length ((jN ts.length ds).map λ(n:Nat)=>Value.int .i64 (n:Int)) rfl ?hown _ 1 1 [I_ N] rfl rfl (zK _ #[I_ N] _ _ ?nn) (ints_oneCell .i64 [(N:Int)]) ?b1 ?b2 ?b3 ?_
        case hown=>first|exact World.ownsRow.alloc (World.ownsRow.alloc Z _) _|exact World.ownsRow.alloc (World.ownsRow.alloc (a0.o _) _) _
        case nn=>simp
        case b1=>unfold maxLen;omega
        case b2=>omega
        case b3=>have:=z.hB;simp;omega
        intro v5 w5 V H b9 U
        first|have F:=f.o.grow H V U|have F:=(f.o.setMx _).grow H V U
        first|have E5:=f.o.gC H|have E5:=(f.o.setMx _).gC H
        obtain⟨e5,f5⟩:=E5
        obtain⟨g5,f6,rfl⟩:=zg V M_
        replace F:H_ _:=F)
      |(go_at_call 35;apply(zC F.o.R g0).mono;rintro e w6 ⟨rfl,d6⟩;have C:=F.o.si d6;have e8:=C.R.here.c1;have f7:=C.R.here.th 1;replace C:H_ _:=C))
     all_goals
      go_roundg (s.size+1-j);case measure=>omega
      case rel=>
       first
        |exact qz (s.size+1-j) false (j) hp I r G Q A D (cH r L K M_) C l_ (.inr ⟨rfl,rfl,a8⟩)
        |exact qz (s.size+1-j) false (j) hp I r G Q A D (bJ r L K M_) C l_ (.inr ⟨rfl,rfl,a8⟩)
        |(have hk:t.kind=40:=by omega
          have q:=qz (s.size+1-j) false (j) hp I r G Q A D (cH r L K M_) C l_ (.inr ⟨rfl,rfl,a8⟩)
          rw[hk]at q
          exact q)
        |(have hk:t.kind=40:=by omega
          have q:=qz (s.size+1-j) false (j) hp I r G Q A D (bJ r L K M_) C l_ (.inr ⟨rfl,rfl,a8⟩)
          rw[hk]at q
          exact q)
def GA(s:BA)(n:Nat):∀i,i<=s.size->s.size-i<=n->uk s i:=by
 induction n with
 |zero=>
  intro i hi hn;have hb:bt s i=0:=wh M_;exact XZ (by rw[hb];decide) M_ M_ M_
 |succ n ih=>
  intro i hi hn;by_cases h1:zi (bt s i)=true
  .exact QO h1
  .by_cases a:bt s i=91\/bt s i=123
   .have:=zp (s:=s) (i:=i) M_;exact QI a (ih (i+1) M_ M_)
   .by_cases c:bt s i=40
    .have:=zp (s:=s) (i:=i) M_;exact Vo c (Gg (λj d d=>ih j d M_))
    .by_cases d:65<=bt s i/\bt s i<=70
     .exact QA d
     .exact XZ h1 a c d
def QE{s:BA}(hi:i<=s.size):uk s i:=GA s (s.size-i) i hi l_
def oW(c:Nat):decide (0<=plc ⟨#[40,91,123,60]⟩ c)=qS c:=by
 rw[Bool.eq_iff_iff];simp only[decide_eq_true_eq,kA,qS,ay_,beq_iff_eq];simp;omega
def na(c:Nat):decide (0<=plc ⟨#[41,93,125,62]⟩ c)=jB c:=by
 rw[Bool.eq_iff_iff];simp only[decide_eq_true_eq,kA,jB,ay_,beq_iff_eq];simp;omega
def lL{c:Nat}(h:qS c=true)(a:jB c=true):False:=by
 simp only[qS,jB,ay_,beq_iff_eq]at h a;omega
def pK(w:Aw)(X:Az)(br bz B:Nat)(s:BA)(i:Nat)(wr mx:Int)(ts:Ap)(us:As)(zs:Ay)(tv u:Ax)(e:Ak)(w':Aw):Prop:=
 zT w w' br bz tv u tv u/\
 match pD s i 0 with
 |some k=>e=.returned (.string (s.extract i k))/\Rep w' X br bz B s k false wr mx ts us zs tv u
 |none=>e=.returned (.string ⟨#[]⟩)/\Rep w' X br bz B s s.size true wr mx ts us zs tv u
def mw(w:Aw)(X:Az)(br bz B:Nat)(s:BA)(i:Nat)(wr mx:Int)(ts:Ap)(us:As)(zs:Ay)(tv u:Ax)(n:Nat)(ov:Ax)(W:Aw):Prop:=
 ∃k o:Nat,ov=I_ o/\pD s i 0=pD s k o/\i<=k/\o<=k/\Rep W X br bz B s k false wr mx ts us zs tv u/\zT w W br bz tv u tv u/\s.size-k<=n
def cwZW1_{p:Prop}(h:p:=by
 (first|(have:=cc1;have hop:(0:Int)<(o:Int):=M_)|(have n0:((o:Int)==0)=true:=x1_))
 (first|(have:=cc1;have hoN:H_ (0<o):=by show 0<o;omega)|(have hop:(o:Int)<=0:=M_));(first|(have:=cc1;have n0:((o:Int)==0)=false:=x1_)|(replace ho0:H_ _:=ho0));(first|(have:=cc1;have hob:(o:Int)<=300:=M_)|((have n1:((c:Int)==44)=false:=by have:=hns.o;have:=ho0.o;simp;omega);have n2:((c:Int)==41)=false:=by have:=hns.o;have:=ho0.o;simp;omega))
 cases ho:qS c<;>cases hcl:jB c
 case true.true=>exact(lL ho hcl).elim
 all_goals
  go_wp2;go_quiet (fail);go_wp2;go_quiet (fail);go_wp2_with (go_at_call 96;apply(fp _ c _ D_).mono;rintro e w' ⟨rfl,rfl⟩;first|rw[oW]|rw[na]);go_roundg (s.size-(k+1));case measure=>omega
  case rel=>first|exact hUp.o ho _ x0_|(first|(have:=cc1;exact hDown.o ho hcl hoN.o _ x0_)|(exact hSame.o ho (.inl hcl) _ x0_))|(first|(have:=cc1;exact hSame.o ho (.inl hcl) _ x0_)|(exact hSame.o ho (.inr ho0.o) _ x0_))):p:=h
def ZW{w:Aw}{X:Az}{br bz B:Nat}{s:BA}{wg:Int}{zs:Ay}{tv u:Ax}(R:Rep w X br bz B s i false wg mx ts us zs tv u):Calls prog 97 #[P_ br] w (pK w X br bz B s i wg mx ts us zs tv u):=by
 have x:=R.sl;have x:=R.il;have c1:=R.here.c1;have start:mw w X br bz B s i wg mx ts us zs tv u (s.size-i) (O_) w:=⟨i,0,rfl,rfl,l_,am_ _,R,zT.refl _ _ _ _ _,l_⟩;replace start:H_ _:=start;obtain⟨x,y⟩:=y_ (pK w X br bz B s i wg mx ts us zs tv u);rw[<- y.o];go_in;go_wp2;go_loopg [4] (s.size-i) (λn x W=>mw w X br bz B s i wg mx ts us zs tv u n x W);case atStart=>exact start
 case round=>
  obtain⟨k,o,rfl,v,x,x,a,A,hn⟩:=hrel;have x:=a.il;have c0:=a.here.c0;have c1:=a.here.c1;replace v:H_ _:=v;by_cases hk:k<s.size
  .have D:(k:Int)<(s.size:Int):=M_;obtain⟨c,hc⟩:=x_ (bt s k);have x:((s[k]'hk).toNat:Int)=(c:Int):=by rw[<- hc,xO s k hk]
   have d:=XF o hk;rw[hc,<- v.o]at d;replace hc:H_ _:=hc;have x:=a.here.th 1;by_cases r:o=0/\(c=44\/c=41)
   .rw[i_ r]at d;replace d:H_ (pD s i 0=some k):=d;have key:H_ (∀W,zq wr W->pK w X br bz B s i wg mx ts us zs tv u (.returned (.string (s.extract i k))) W):=by
     intro W m;refine⟨A.si m,?_⟩;rw[d.o];exact⟨rfl,a.si m⟩
    obtain⟨rfl,f⟩:=r;rcases f with rfl|rfl;all_goals
     go_wp2;go_quiet (fail);go_wp2;go_quiet (fail);go_wp2;go_quiet (fail);go_wp2;try go_ret
     rw[y.o];exact key.o _ x0_
   .rw[n_ r]at d;replace d:H_ _:=d;have z:H_ (∀(x:Nat) (W:World),x=qu c o->zq wr W->mw w X br bz B s i wg mx ts us zs tv u (s.size-(k+1)) (Z_ (x:Int)) (W.setCell ⟨br,1,none⟩ (Z_ ((k:Int)+1)))):=by
     intro x W C f;have g:=a.si f;exact⟨k+1,x,rfl,by rw[C];exact d,M_,by rw[C];unfold qu;split<;>(try split)<;>omega,(g.inc hk).1,(A.si f).trans (g.inc hk).2,l_⟩
    have hUp:H_ (qS c=true->∀W,zq wr W->mw w X br bz B s i wg mx ts us zs tv u (s.size-(k+1)) (Z_ ((o:Int)+1)) (W.setCell ⟨br,1,none⟩ (Z_ ((k:Int)+1)))):=λh W f=>z.o (o+1) W (by simp[qu,h]) f;have hDown:H_ (qS c=false->jB c=true->0<o->∀W,zq wr W->mw w X br bz B s i wg mx ts us zs tv u (s.size-(k+1)) (Z_ ((o:Int)-1)) (W.setCell ⟨br,1,none⟩ (Z_ ((k:Int)+1)))):=λh d x W f=>by
     have q:=z.o (o-1) W (by simp[qu,h,d]) f;rw[show((o-1:Nat):Int)=(o:Int)-1 by omega]at q;exact q
    have hSame:H_ (qS c=false->(jB c=false\/o=0)->∀W,zq wr W->mw w X br bz B s i wg mx ts us zs tv u (s.size-(k+1)) (Z_ (o:Int)) (W.setCell ⟨br,1,none⟩ (Z_ ((k:Int)+1)))):=λh d W f=>z.o o W (by rcases d with d|d<;>simp[qu,h,d]) f;have hns:H_ (¬(o=0/\(c=44\/c=41))):=r;by_cases ho0:o=0
    .exact cwZW1_
    .have cc1:=Nat;exact cwZW1_
  .have D:¬(k:Int)<(s.size:Int):=M_;have f:=a.here.th 2;have c2:=a.here.c2;go_wp2;go_quiet (fail);go_wp2;try go_ret
   rw[y.o];have m:=zq.drewN wr nq;have d:k=s.size:=M_;have g:=a.si m;refine⟨(A.si m).trans g.sp.2,?_⟩;rw[v.o,KP M_];exact⟨rfl,by rw[<- d];exact g.sp.1⟩
def uw(w:Aw)(X:Az)(br bz B:Nat)(s:BA)(i:Nat)(wr mx:Int)(ts:Ap)(us:As)(zs:Ay)(tv u:Ax)(w':Aw):Prop:=
 (if zl (bt s i)=true then Rep w' X br bz B s (i+1) false wr mx ts us zs tv u else Rep w' X br bz B s i true wr mx ts us zs tv u)/\zT w w' br bz tv u tv u
def jw{w:Aw}{X:Az}{br bz B:Nat}{s:BA}{zs:Ay}{tv u:Ax}(R:Rep w X br bz B s i false wr mx ts us zs tv u):Calls prog 95 #[P_ br] w λe w'=>e=.returned (.int .u8 ((if zl (bt s i)=true then bt s i else 0:Nat):Int))/\uw w X br bz B s i wr mx ts us zs tv u w':=by
 have h1:=R.il;have c:=R.sl;apply(VV R.here R.sl z1_).mono;rintro e w' ⟨rfl,ha,hf⟩;unfold uw;unfold RV.small at ha;unfold RV.smallR;simp only[ag]at ha⊢;by_cases hb:zl (bt s i)=true
 .have a:97<=(bt s i:Int)/\(bt s i:Int)<=122:=yk_
  rw[i_ a]at ha⊢;rw[i_ hb,i_ hb];exact⟨rfl,R.move hf ha M_ (zp (xX hb))⟩
 .have a:¬(97<=(bt s i:Int)/\(bt s i:Int)<=122):=yk_
  rw[n_ a]at ha⊢;rw[n_ hb,n_ hb];exact⟨rfl,R.move hf ha M_ h1⟩
def zF(a:Int)(m:Int):Int:=if m<0\/a<m then a else m
def Gp(w:Aw)(X:Az)(br bz B:Nat)(s:BA)(i:Nat)(bad:Aq)(wr mx:Int)(ts:Ap)(us:As)(zs:Ay)(tv u:Ax)(p:Int)(w':Aw):Prop:=
 Rep w' X br bz B s i bad (zF p wr) mx ts us zs tv u/\zT w w' br bz tv u tv u
def qa{w:Aw}{X:Az}{br bz B:Nat}{s:BA}{bad:Aq}{zs:Ay}{tv u:Ax}{p:Int}(R:Rep w X br bz B s i bad wr mx ts us zs tv u):Calls prog 21 #[P_ br,Z_ p] w λe w'=>e=.returned (.tuple #[])/\Gp w X br bz B s i bad wr mx ts us zs tv u p w':=by
 apply(Vc R.here).mono;rintro e w' ⟨rfl,ha,hf⟩;refine⟨rfl,?_⟩;refine R.move hf ?_ l_ R.il;unfold RV.wrong at ha;unfold zF;simp only at ha;split at ha
 .rename_i h;rw[i_ h];exact ha
 .rename_i h;rw[n_ h];exact ha
def ac{w:Aw}{X:Az}{br bz B:Nat}{s:BA}{zs:Ay}{tv u:Ax}(R:Rep w X br bz B s i true wr mx ts us zs tv u):Calls prog 35 #[P_ br] w λe w'=>e=.returned (.int .u8 0)/\zq w w':=by
 have h1:=R.il;have a:=R.sl;apply(wN R.here R.sl z1_).mono;rintro e w' ⟨rfl,hw⟩;exact⟨by simp[pk],hw⟩
def iL(s:BA)(f:PF)(num:Nat):List Value:=
 [U_ f.letter,I_ num,.bool f.dflt.isSome,Z_ ((f.dflt.map Prod.fst).getD 0:Nat),.string (match f.dflt with|none=>⟨#[]⟩|some (a,b)=>s.extract a b),
  .int .u8 0,O_,.string ⟨#[]⟩,L_,L_]
def yC(s:BA)(b:Nat)(ds:An):List Value:=(List.zipWith (iL s) ds (jN b (ds.map PF.ty))).flatten
def dV(s:BA)(b:Nat)(ds:An)(f:PF):yC s b (ds++[f])=yC s b ds++iL s f (b+(zN b (ds.map PF.ty)).length+(flat (b+(zN b (ds.map PF.ty)).length) f.ty).length-1):=by
 unfold yC;rw[bf_];simp only[a0_,bn_];rw[tC,List.zipWith_append (by rw[mJ,bu_]),List.flatten_append];simp
def wrF(seen:Ao):List PF->Int->Int
 | [],m=>m
 |f::r,m=>wrF (seen++[f.letter]) r (if f.letter∈seen then zF f.place m else m)
def QW(a:Ao)(ds:An)(f:PF)(m:Int):wrF a (ds++[f]) m=if f.letter∈a++ds.map PF.letter then zF f.place (wrF a ds m) else wrF a ds m:=by
 induction ds generalizing a m with
 |nil=>simp[wrF]
 |cons d r ih=>simp[wrF,ih]
def kW(ds:An)(m:Int):Int:=ds.foldl (λm f=>mix f.ty m) m
def Jf(ds:An)(f:PF)(m:Int):kW (ds++[f]) m=mix f.ty (kW ds m):=by simp[kW]
def mE(s:BA)(ds:An)(j:Nat):Except Nat (List PF×Nat):=
 if bt s j=41 then .ok (ds,j+1) else if bt s j=44 then vK ds (xr s (j+1)) else .error j
def fF(s:BA)(ds:An)(i:Nat)(hi:i<=s.size):vK ds (xr s i) =
 match zR s i with
 | .error k=>.error k
 | .ok (f,j)=>mE s (ds++[f]) j:=by
 rw[bj s i hi];cases zR s i with
 |error k=>rfl
 |ok r=>
  obtain⟨f,j⟩:=r;simp only[mE];split
  .rfl
  .split
   .rw[fP]
   .rfl
def zy{p:Prop}(h:p):H_ p:=h
def zS:List Value:=[.int .u8 0,L_,.string ⟨#[]⟩,O_,O_]
def jJ(fv:Ax):List Value:=[.int .u8 114,fv,.string ⟨#[]⟩,Z_ (-1),O_]
def RX(w:Aw)(X:Az)(fv:Ax)(Y:Az):Nat->Prop:=λg=>X g\/g=w.heap.size\/g=w.heap.size+1\/fv.ownBlock=some g\/Y g
structure RM(w:Aw)(X:Az)(br bz B:Nat)(s:BA)(j:Nat)(bad:Aq)(wg MX:Int)(TS:Ap)(US:As)(zs:Ay)(tv u tv2 u2 fv:Ax)(n:Nat)(xs:Ay)(Y:Az)(W:Aw):Prop where
 R:Rep W (RX w X fv Y) br bz B s j bad wg MX TS US zs tv2 u2
 b2:Blk W w.heap.size zS 62
 b3:Blk W (w.heap.size+1) (jJ fv) 62
 own:W.ownsRow B 110 10 fv n xs
 sn:∀g,fv.ownBlock=some g->w.heap.size+2<=g
 yn:∀g,Y g->w.heap.size+2<=g/\fv.ownBlock≠some g
 st:zT w W br bz tv u tv2 u2
section
variable {w W W':Aw} {X Y:Az} {br bz B:Nat} {s:BA} {j:Nat} {bad:Aq} {wg MX:Int} {TS:Ap} {US:As} {zs:Ay} {tv u tv2 u2 fv:Ax} {n:Nat} {xs:Ay}
def RM.call(M:RM w X br bz B s j bad wg MX TS US zs tv u tv2 u2 fv n xs Y W){j':Nat}{f:Aq}{g c:Int}{d:Ap}{e:As}{a:Ax}(h:Rep W' (RX w X fv Y) br bz B s j' f g c d e zs a u3)(st:zT W W' br bz tv2 u2 a u3):RM w X br bz B s j' f g c d e zs tv u a u3 fv n xs Y W':=
 ⟨h,st.fr.bl M.b2 (M.R.offS (.inr (.inl rfl))),st.fr.bl M.b3 (M.R.offS (.inr (.inr (.inl rfl)))),zj M.own st.fr (λ_ hg=>M.R.offS (.inr (.inr (.inr (.inl hg))))),M.sn,M.yn,M.st.trans st⟩
def RM.ke(M:RM w X br bz B s j bad wg MX TS US zs tv u tv2 u2 fv n xs Y W){a:Ax}(st:zT W W' br bz tv2 u2 a u3){g:Nat}{cs:Ay}(hg:Y g)(hb:Blk W g cs t):Blk W' g cs t:=
 st.fr.bl hb (M.R.offS (.inr (.inr (.inr (.inr hg)))))
def RM.si(M:RM w X br bz B s j bad wg MX TS US zs tv u tv2 u2 fv n xs Y W)(h:zq W W'):RM w X br bz B s j bad wg MX TS US zs tv u tv2 u2 fv n xs Y W':=M.call (M.R.si h) (zT.oS h)
def RM.inc(M:RM w X br bz B s j bad wg MX TS US zs tv u tv2 u2 fv n xs Y W)(h:j<s.size):RM w X br bz B s (j+1) bad wg MX TS US zs tv u tv2 u2 fv n xs Y (W.setCell ⟨br,1,none⟩ (Z_ ((j:Int)+1))):=M.call (M.R.inc h).1 (M.R.inc h).2
def RM.o(M:RM w X br bz B s j bad wg MX TS US zs tv u tv2 u2 fv n xs Y W)(hf:Fr W W' Y):RM w X br bz B s j bad wg MX TS US zs tv u tv2 u2 fv n xs (λg=>Y g\/(W.heap.size<=g/\g<W'.heap.size)) W':=by
 have a:=M.b3.lt;have hX:Fr W W' (RX w X fv Y):=hf.mono (λ_ _ h=>.inr (.inr (.inr (.inr h))));refine⟨(M.R.o hX).fe (λg hg=>?_),hf.bl M.b2 (λh=>o1_ (M.yn _ h)),hf.bl M.b3 (λh=>o1_ (M.yn _ h)),zj M.own hf (λg hg h=>(M.yn g h).2 hg),M.sn,λg hg=>?_,M.st.o hf (λg hg=>o1_ (M.yn g hg))⟩
 .rcases hg with h|h|h|h|h|h
  .exact .inl (.inl h)
  .exact .inl (.inr (.inl h))
  .exact .inl (.inr (.inr (.inl h)))
  .exact .inl (.inr (.inr (.inr (.inl h))))
  .exact .inl (.inr (.inr (.inr (.inr h))))
  .exact .inr h
 .rcases hg with h|h
  .exact M.yn g h
  .exact⟨M_,λe=>o1_ (M.own.lt g e)⟩
def RM.ls(M:RM w X br bz B s j bad wg MX TS US zs tv u tv2 u2 fv n xs Y W){Z:Az}(a:∀g,Z g->Y g):RM w X br bz B s j bad wg MX TS US zs tv u tv2 u2 fv n xs Z W:=
 ⟨M.R.fe (λg hg=>by
  rcases hg with h|h|h|h|h
  .exact .inl h
  .exact .inr (.inl h)
  .exact .inr (.inr (.inl h))
  .exact .inr (.inr (.inr (.inl h)))
  .exact .inr (.inr (.inr (.inr (a g h))))),M.b2,M.b3,M.own,M.sn,λg hg=>M.yn g (a g hg),M.st⟩
def RM.alloc(M:RM w X br bz B s j bad wg MX TS US zs tv u tv2 u2 fv n xs Y W)(o:Obj):RM w X br bz B s j bad wg MX TS US zs tv u tv2 u2 fv n xs Y (W.alloc o):=(M.o ((A_ W Y).alloc o)).ls (λ_ h=>.inl h)
def RM.mine(M:RM w X br bz B s j bad wg MX TS US zs tv u tv2 u2 fv n xs N_ W)(o:Obj):RM w X br bz B s j bad wg MX TS US zs tv u tv2 u2 fv n xs (λg=>g=W.heap.size) (W.alloc o):=
 (M.o ((A_ W _).alloc o)).ls (λg h=>.inr ⟨M_,by simp;omega⟩)
def RM.put(M:RM w X br bz B s j bad wg MX TS US zs tv u tv2 u2 fv n xs Y W)(g o:Nat)(v:Ax)(hg:Y g):RM w X br bz B s j bad wg MX TS US zs tv u tv2 u2 fv n xs Y (W.setCell ⟨g,o,none⟩ v):=
 (M.o ((A_ W Y).setCell ⟨g,o,none⟩ v (λ_=>hg))).ls (λ_ h=>.inl h)
def RM.grow(M:RM w X br bz B s j bad wg MX TS US zs tv u tv2 u2 fv n xs Y W){b:Obj}{c:Aw}{ys:Ay}(hg:(W.alloc b).grownBy c fv.ownBlock)(ho:c.ownsRow B 110 10 v5 (n+1) ys)(hl:v5.ownBlock=fv.ownBlock\/v5.ownBlock=some (W.alloc b).heap.size):RM w X br bz B s j bad wg MX TS US zs tv u tv2 u2 v5 (n+1) ys N_ (c.setCell ⟨w.heap.size+1,1,none⟩ v5):=by
 have d:Fr W c (λg=>fv.ownBlock=some g):=Y_ ((A_ W _).alloc b) hg (λk e _=>e);have l2:=M.b2.lt;have a:=M.b3.lt;have hv:∀g,v5.ownBlock=some g->w.heap.size+2<=g/\(fv.ownBlock=some g\/W.heap.size<=g):=λg a=>by
  rcases hl with e|e
  .exact⟨M.sn g (e▸a),.inl (e▸a)⟩
  .rw[e]at a;simp only[af_]at a;have:(W.alloc b).heap.size=W.heap.size+1:=x6_
   exact⟨M_,.inr M_⟩
 have h:=d.bl M.b2 (λe=>o1_ (M.sn _ e));have r:=d.bl M.b3 (λe=>o1_ (M.sn _ e));have f:Fr c (c.setCell ⟨w.heap.size+1,1,none⟩ v5) (λg=>g=w.heap.size+1):=(A_ c (λg=>g=w.heap.size+1)).setCell ⟨w.heap.size+1,1,none⟩ v5 (λ_=>rfl);have m:=f.bl h M_;have v:Blk (c.setCell ⟨w.heap.size+1,1,none⟩ v5) (w.heap.size+1) (jJ v5) 62:=r.set 1 v5;have h:=zj ho f (λg a e=>o1_ (hv g a));have r:Fr W (c.setCell ⟨w.heap.size+1,1,none⟩ v5) (RX w X fv Y):=(d.mono (λ_ _ e=>.inr (.inr (.inr (.inl e))))).trans f (λ_ _ e=>.inr (.inr (.inl e)));have x:Fr W (c.setCell ⟨w.heap.size+1,1,none⟩ v5) (λg=>fv.ownBlock=some g\/g=w.heap.size+1):=(d.mono (λ_ _ e=>.inl e)).trans f (λ_ _ e=>.inr e);refine⟨(M.R.o r).fe (λg a=>?_),m,v,h,λg a=>(hv g a).1,λg a=>a.elim,M.st.o x (λg a=>?_)⟩
 .rcases a with e|e|e|e|e
  .exact .inl (.inl e)
  .exact .inl (.inr (.inl e))
  .exact .inl (.inr (.inr (.inl e)))
  .rcases(hv g e).2 with q|q
   .exact .inl (.inr (.inr (.inr (.inl q))))
   .exact .inr ⟨q,(h.lt g e).2⟩
  .exact e.elim
 .rcases a with e|e
  .have:=M.sn g e;omega
  .omega
def RM.gC(M:RM w X br bz B s j bad wg MX TS US zs tv u tv2 u2 fv n xs Y W){b:Obj}{a:Aw}(hg:(W.alloc b).grownBy a fv.ownBlock):a.cell? ⟨w.heap.size+1,1,none⟩=some fv/\a.frozen? ⟨w.heap.size+1,1,none⟩=false:=by
 have c:Fr W a (λg=>fv.ownBlock=some g):=Y_ ((A_ W _).alloc b) hg (λk e _=>e);have a:=c.bl M.b3 (λe=>o1_ (M.sn _ e));exact⟨a.cell 1,a.th 1⟩
end
def Fc(l num:Int)(h:Aq)(a:Int)(t:BA):List Value:=
 [.int .u8 l,Z_ num,.bool h,Z_ a,.string t,.int .u8 0,O_,.string ⟨#[]⟩,L_,L_]
def uw.any{w:Aw}{X:Az}{br bz B:Nat}{s:BA}{zs:Ay}{tv u:Ax}{w':Aw}(h:uw w X br bz B s i wr mx ts us zs tv u w'):∃j bad,Rep w' X br bz B s j bad wr mx ts us zs tv u/\zT w w' br bz tv u tv u/\H_ ((zl (bt s i)=true/\j=i+1/\bad=false)\/(zl (bt s i)=false/\j=i/\bad=true)):=by
 obtain⟨h1,a⟩:=h;cases hs:zl (bt s i) with
 |true=>rw[i_ hs]at h1;exact⟨_,_,h1,a,.inl ⟨rfl,rfl,rfl⟩⟩
 |false=>rw[n_ (by rw[hs];decide)]at h1;exact⟨_,_,h1,a,.inr ⟨rfl,rfl,rfl⟩⟩
def Fb{w:Aw}{X:Az}{br bz B:Nat}{s:BA}{bad:Aq}{zs:Ay}{tv u:Ax}(R:Rep w X br bz B s i bad wr mx ts us zs tv u):Calls prog 35 #[P_ br] w λe w'=>e=.returned (.int .u8 (pk s i bad))/\zq w w':=by
 have h1:=R.il;have a:=R.sl;exact wN R.here R.sl z1_
def Qs(s:BA)(p j:Nat)(bad:Aq):Prop:=
 (bad=true/\zR s p=.error j)\/(bad=false/\zl (bt s p)=true/\bt s (p+1)=58/\j=p+2)
def Gt(s:BA)(p:Nat)(MX0:Int)(TS0:Ap)(US0:As)(j:Nat)(bad:Aq)(MX:Int)(TS:Ap)(US:As)(num:Int):Prop:=
 (bad=true/\zR s p=.error j)\/
 (bad=false/\zl (bt s p)=true/\bt s (p+1)=58/\∃ty,pT s (p+2)=.ok (ty,j)/\MX=mix ty MX0/\TS=TS0++flat TS0.length ty/\US=US0++zZ ty/\num=((TS0.length+(flat TS0.length ty).length-1:Nat):Int))
def Qn(s:BA)(p:Nat)(MX0:Int)(TS0:Ap)(US0:As)(l:Nat)(j:Nat)(bad:Aq)(MX:Int)(TS:Ap)(US:As)(num:Int)(h:Aq)(a:Int)(t:BA):Prop:=
 (bad=true/\zR s p=.error j)\/
 (bad=false/\∃f,zR s p=.ok (f,j)/\f.letter=bt s p/\f.place=p/\l=bt s p/\MX=mix f.ty MX0/\TS=TS0++flat TS0.length f.ty/\US=US0++zZ f.ty/\Fc (bt s p) num h a t=iL s f (TS0.length+(flat TS0.length f.ty).length-1))
def KC{s:BA}{j:Nat}{bad:Aq}(h:(zl (bt s p)=true/\j=p+1/\bad=false)\/(zl (bt s p)=false/\j=p/\bad=true))(hb:bad=true):Qs s p j true:=by
 rcases h with⟨_,_,h⟩|⟨h1,rfl,_⟩
 .rw[hb]at h;cases h
 .exact .inl ⟨rfl,by unfold zR;rw[n_ (by rw[h1];decide)]⟩
def VI{s:BA}{j:Nat}{bad:Aq}(h:(zl (bt s p)=true/\j=p+1/\bad=false)\/(zl (bt s p)=false/\j=p/\bad=true))(hb:bad=false):(bt s j=58->Qs s p (j+1) false)/\(bt s j≠58->Qs s p j true):=by
 rcases h with⟨h1,rfl,_⟩|⟨_,_,h⟩
 .exact⟨λa=>.inr ⟨rfl,h1,a,rfl⟩,λa=>.inl ⟨rfl,by unfold zR;rw[i_ h1,n_ a]⟩⟩
 .rw[hb]at h;cases h
def KM{s:BA}{j:Nat}{MX:Int}{TS:Ap}{US:As}(h:Qs s p j true):Gt s p MX0 TS0 US0 j true MX TS US num:=by
 rcases h with h|⟨h,_⟩
 .exact .inl h
 .cases h
def VS{s:BA}{j:Nat}(h:Qs s p j false):j=p+2/\zl (bt s p)=true/\bt s (p+1)=58:=by
 rcases h with⟨h,_⟩|⟨_,h1,a,c⟩
 .cases h
 .exact⟨c,h1,a⟩
def ZR{s:BA}{k:Nat}(h1:zl (bt s p)=true)(a:bt s (p+1)=58)(h:pT s (p+2)=.error k):zR s p=.error k:=by
 unfold zR;rw[i_ h1,i_ a,h]
def iw{s:BA}{j:Nat}(h1:zl (bt s p)=true)(a:bt s (p+1)=58)(h:pT s (p+2)=.ok (ty,j))(c:bt s j≠61):zR s p=.ok (⟨bt s p,p,ty,none⟩,j):=by
 unfold zR;rw[i_ h1,i_ a,h];simp only;rw[n_ c]
def aW{s:BA}{j e:Nat}(h1:zl (bt s p)=true)(a:bt s (p+1)=58)(h:pT s (p+2)=.ok (ty,j))(c:bt s j=61)(d:pD s (j+1) 0=some e):zR s p=.ok (⟨bt s p,p,ty,some (j+1,e)⟩,e):=by
 unfold zR;rw[i_ h1,i_ a,h];simp only;rw[i_ c,d]
def aK{s:BA}{j:Nat}(h1:zl (bt s p)=true)(a:bt s (p+1)=58)(h:pT s (p+2)=.ok (ty,j))(c:bt s j=61)(d:pD s (j+1) 0=none):zR s p=.error s.size:=by
 unfold zR;rw[i_ h1,i_ a,h];simp only;rw[i_ c,d]
def li(s:BA)(i:Nat):Except Nat (List PF×Nat):=if bt s i=41 then .ok ([],i+1) else xr s i
def eh(w:Aw)(X:Az)(br bz B:Nat)(s:BA)(i:Nat)(wr mx:Int)(ts:Ap)(us:As)(zs:Ay)(tv u:Ax)(e:Ak)(w':Aw):Prop:=
 ∃fv n xs tv' u',e=.returned (.agg (jJ fv).toArray)/\zT w w' br bz tv u tv' u'/\w'.ownsRow B 110 10 fv n xs/\(∀g,fv.ownBlock=some g->w.heap.size<=g/\tv'.ownBlock≠some g/\u'.ownBlock≠some g)/\
 match yf s i with
 | .ok (ds,j)=>n=ds.length/\xs=yC s ts.length ds/\Rep w' (λg=>X g\/fv.ownBlock=some g) br bz B s j false (wrF [] ds wr) (kW ds mx) (ts++zN ts.length (ds.map PF.ty)) (us++zX (ds.map PF.ty)) zs tv' u'
 | .error k=>∃wr' mx' ts' us',Rep w' (λg=>X g\/fv.ownBlock=some g) br bz B s k true wr' mx' ts' us' zs tv' u'
def ei(R_:Except Nat (List PF×Nat))(w:Aw)(X:Az)(br bz B:Nat)(s:BA)(i:Nat)(wr mx:Int)(ts:Ap)(us:As)(zs:Ay)(tv u:Ax)(m:Nat)(kv:Ax)(W:Aw):Prop:=
 ∃(kb:BA) (fv tv' u':Value),kv=.string kb/\kb.size<=300/\
  ((∃(ds:List PF) (j:Nat),RM w X br bz B s j false (wrF [] ds wr) (kW ds mx) (ts++zN ts.length (ds.map PF.ty)) (us++zX (ds.map PF.ty)) zs tv u tv' u' fv ds.length (yC s ts.length ds) N_ W/\
   kb.data.toList.map UInt8.toNat=ds.map PF.letter/\i+ds.length<=j/\s.size+2-j<=m/\((ds=[]/\j=i/\R_=li s i)\/(ds≠[]/\R_=mE s ds j)))\/
   (∃k n xs wg MX TS US,RM w X br bz B s k true wg MX TS US zs tv u tv' u' fv n xs N_ W/\R_=.error k))
def iq{s:BA}{f:PF}{j:Nat}(h:zR s p=.ok (f,j)):zl (bt s p)=true:=by
 unfold zR at h;split at h
 .assumption
 .cases h
def MB{s:BA}{j:Nat}{bad:Aq}(h:pk s j bad=61):bad=false/\bt s j=61:=by
 cases bad with
 |true=>simp[pk]at h
 |false=>rw[ag]at h;exact⟨rfl,M_⟩
def Blk.si{w w':Aw}{cs:Ay}(h:Blk w b cs t)(hw:zq w w'):Blk w' b cs t:=by
 obtain⟨n,rfl⟩:=hw;exact h
def ZS{s:BA}{j:Nat}{bad:Aq}{MX:Int}{TS:Ap}{US:As}(h:Gt s p MX0 TS0 US0 j bad MX TS US num)(hl:l=if zl (bt s p)=true then bt s p else 0)(g:pk s j bad≠61):Qn s p MX0 TS0 US0 l j bad MX TS US num false 0 ⟨#[]⟩:=by
 rcases h with h|⟨rfl,h1,a,ty,c,d,e,f,k⟩
 .exact .inl h
 .rw[ag]at g;rw[i_ h1]at hl;exact .inr ⟨rfl,_,iw h1 a c M_,rfl,rfl,hl,d,e,f,by rw[k];rfl⟩
def VT{s:BA}{j:Nat}{MX:Int}{TS:Ap}{US:As}(h:Gt s p MX0 TS0 US0 j false MX TS US num)(e:bt s j=61)(hd:pD s (j+1) 0=none)(b:Aq)(a:Int)(t:BA):Qn s p MX0 TS0 US0 l s.size true MX TS US num b a t:=by
 rcases h with⟨h,_⟩|⟨_,h1,c,ty,d,_⟩
 .cases h
 .exact .inl ⟨rfl,aK h1 c d e hd⟩
def VN{s:BA}{j e:Nat}{MX:Int}{TS:Ap}{US:As}(h:Gt s p MX0 TS0 US0 j false MX TS US num)(hl:l=if zl (bt s p)=true then bt s p else 0)(k:bt s j=61)(hd:pD s (j+1) 0=some e):Qn s p MX0 TS0 US0 l e false MX TS US num true ((j:Int)+1) (s.extract (j+1) e):=by
 rcases h with⟨h,_⟩|⟨_,h1,a,ty,c,d,f,g,m⟩
 .cases h
 .rw[i_ h1]at hl;exact .inr ⟨rfl,_,aW h1 a c k hd,rfl,rfl,hl,d,f,g,by rw[m];rfl⟩
def Kl{w W:Aw}{X:Az}{br bz B:Nat}{s:BA}{q c:Nat}{d D:Aq}{wg k MX a:Int}{TS:Ap}{US:As}{zs:Ay}{tv u r v:Ax}{t:BA}{h:Aq}(n:Nat)(G:R_=vK ds (xr s p))(hp:p<=s.size)(hs:s.size<=300)(y:i+ds.length<=p)(g:kb.data.toList.map UInt8.toNat=ds.map PF.letter)(o:Qn s p (kW ds mx) (ts++zN ts.length (ds.map PF.ty)) (us++zX (ds.map PF.ty)) l c false MX TS US num h a t)(I:k=if D=true then zF p (wrF [] ds wg) else wrF [] ds wg)(z:D=(decide (0<=plc kb l) && !d))(y:(zl (bt s p)=true/\q=p+1/\d=false)\/(zl (bt s p)=false/\q=p/\d=true))(M:RM w X br bz B s c false k MX TS US zs tv u r v v5 (ds.length+1) (yC s ts.length ds++Fc l num h a t) N_ W)(hn:s.size+2-c<=n):ei R_ w X br bz B s i wg mx ts us zs tv u n (.string (kb++⟨#[UInt8.ofNat l]⟩)) W:=by
 rcases o with⟨h0,_⟩|⟨_,f,hf,hl,F,e,A,m,C,hc⟩
 .cases h0
 .have H:=iq hf;have q:d=false:=by
   rcases y with⟨_,_,h⟩|⟨h,_⟩
   .exact h
   .rw[H]at h;cases h
  have d:=(vu hp).1 f c hf;have E:l<256:=by rw[e];exact rG _ _
  have J:wrF [] (ds++[f]) wg=k:=by
   rw[QW,I,z,q,F];have hm:f.letter∈[]++ds.map PF.letter↔0<=plc kb l:=by rw[kA,g,hl,e];simp
   by_cases d:0<=plc kb l
   .rw[i_ (hm.2 d),i_ (by simp[d])]
   .rw[n_ (λx=>d (hm.1 x)),n_ (by simp[d])]
  have d:=congrArg List.length g;simp only[bu_,Array.length_toList]at d;have d:kb.size=kb.data.size:=rfl;refine⟨_,v5,r,v,rfl,?_,.inl ⟨ds++[f],c,?_,?_,?_,hn,.inr ⟨by simp,?_⟩⟩⟩
  .rw[ah_];have:(⟨#[UInt8.ofNat l]⟩:BA).size=1:=rfl;omega
  .rw[J,Jf,bf_,a0_,bn_,rf,pM,dV,<- bx_,<- bx_,ag_,au_,av_];rw[ag_]at m hc;rw[<- A,<- m,<- C,<- hc,<- e];exact M
  .rw[iX g E,bf_,e,<- hl];rfl
  .rw[ag_,au_,av_];omega
  .rw[G,fF s ds p hp,hf]
def FC(h:kb.data.toList.map UInt8.toNat=ds.map PF.letter)(x:UInt8):(kb++⟨#[x]⟩:BA).size=ds.length+1:=by
 have a:=congrArg List.length h;simp only[bu_,Array.length_toList]at a;have a:kb.size=kb.data.size:=rfl;rw[ah_];have:(⟨#[x]⟩:BA).size=1:=rfl;omega
def Fj{w W:Aw}{X:Az}{br bz B:Nat}{s:BA}{c:Nat}{wg k MX a:Int}{TS:Ap}{US:As}{zs:Ay}{tv u d e:Ax}{t:BA}{h:Aq}{m:Nat}{xs:Ay}(n:Nat)(g:R_=vK ds (xr s p))(hp:p<=s.size)(f:(kb++⟨#[UInt8.ofNat l]⟩:BA).size<=300)(o:Qn s p MX0 TS0 US0 l c true MX TS US num h a t)(M:RM w X br bz B s c true k MX TS US zs tv u d e v5 m xs N_ W):ei R_ w X br bz B s i wg mx ts us zs tv u n (.string (kb++⟨#[UInt8.ofNat l]⟩)) W:=by
 rcases o with⟨_,he⟩|⟨h0,_⟩
 .refine⟨_,v5,d,e,rfl,f,.inr ⟨c,_,_,_,_,_,_,M,?_⟩⟩;rw[g,fF s ds p hp,he]
 .cases h0
def VK{w:Aw}{X:Az}{br bz B:Nat}{s:BA}{wg:Int}{zs:Ay}{tv u:Ax}(R:Rep w X br bz B s i false wg mx ts us zs tv u):RM w X br bz B s i false wg mx ts us zs tv u tv u (L_) 0 [] N_ ((w.alloc (.cells zS.toArray 62)).alloc (.cells (jJ (L_)).toArray 62)):=by
 have h1:=R.o (((A_ w X).alloc (.cells zS.toArray 62)).alloc (.cells (jJ (L_)).toArray 62));refine⟨h1.fe (λg hg=>?_),(B_ w _ _).alloc _,?_,World.ownsRow_nil _ _ _ _,λg hg=>by simp[Value.ownBlock]at hg,λg hg=>hg.elim,⟨((A_ w _).alloc _).alloc _,.inl rfl,.inl rfl⟩⟩
 .rcases hg with hg|hg|hg|hg|hg
  .exact .inl hg
  .exact .inr x1_
  .exact .inr x1_
  .simp[Value.ownBlock]at hg
  .exact hg.elim
 .have:=B_ (w.alloc (.cells zS.toArray 62)) (jJ (L_)).toArray 62;simpa using this
def kI{w W W':Aw}{X:Az}{br bz B:Nat}{s:BA}{j:Nat}{bad:Aq}{wg MX:Int}{TS:Ap}{US:As}{zs:Ay}{tv u tv2 u2 fv:Ax}{n:Nat}{xs:Ay}(M:RM w X br bz B s j bad wg MX TS US zs tv u tv2 u2 fv n xs N_ W)(a:Fr W W' (λg=>g=w.heap.size))(h:match yf s i with
  | .ok (ds,j')=>j=j'/\bad=false/\n=ds.length/\xs=yC s ts.length ds/\wg=wrF [] ds wr/\MX=kW ds mx/\TS=ts++zN ts.length (ds.map PF.ty)/\US=us++zX (ds.map PF.ty)
  | .error k=>j=k/\bad=true):eh w X br bz B s i wr mx ts us zs tv u (.returned (.agg (jJ fv).toArray)) W':=by
 have c:=(M.R.o (a.mono (λ_ _ e=>.inr (.inl e)))).fe (Y:=λg=>X g\/fv.ownBlock=some g) (λg hg=>by
  rcases hg with e|e
  .exact .inl (.inl e)
  .exact .inl (.inr (.inr (.inr (.inl e)))))
 refine⟨fv,n,xs,tv2,u2,rfl,M.st.o a (λg hg=>M_),zj M.own a (λg hg e=>o1_ (M.sn g hg)),λg hg=>?_,?_⟩
 .have:=M.sn g hg;have a:=M.R.av g (.inr (.inr (.inr (.inl hg))));exact⟨M_,a.2.2.2.1,a.2.2.2.2⟩
 .cases hp:yf s i with
  |error k=>
   rw[hp]at h;obtain⟨rfl,rfl⟩:=h;exact⟨_,_,_,_,c⟩
  |ok q=>
   obtain⟨ds,j'⟩:=q;rw[hp]at h;obtain⟨rfl,rfl,rfl,rfl,rfl,rfl,rfl,rfl⟩:=h;exact⟨rfl,rfl,c⟩
def Fr.fi(w:Aw)(b:Nat)(a c d e f:Ax):Fr w (((((w.setCell ⟨b,0,none⟩ a).setCell ⟨b,1,none⟩ c).setCell ⟨b,2,none⟩ d).setCell ⟨b,3,none⟩ e).setCell ⟨b,4,none⟩ f) (λg=>g=b):=
 (((((A_ w (λg=>g=b)).setCell ⟨b,0,none⟩ a (λ_=>rfl)).setCell ⟨b,1,none⟩ c (λ_=>rfl)).setCell ⟨b,2,none⟩ d (λ_=>rfl)).setCell ⟨b,3,none⟩ e (λ_=>rfl)).setCell ⟨b,4,none⟩ f (λ_=>rfl)
def Blk.fi{w:Aw}{u0 a u2 c:Ax}(h:Blk w b [u0,a,u2,u3,c] t)(a c d e f:Ax):Blk (((((w.setCell ⟨b,0,none⟩ a).setCell ⟨b,1,none⟩ c).setCell ⟨b,2,none⟩ d).setCell ⟨b,3,none⟩ e).setCell ⟨b,4,none⟩ f) b [a,c,d,e,f] t:=
 ((((h.set 0 a).set 1 c).set 2 d).set 3 e).set 4 f
def zU{P:Ey}{fn:Func}{R:Bt}{a:Act}{w:Aw}{u0 o u2 q c d f k m:Ax}{r}(e:fn.results=r)(h:Blk w b [u0,o,u2,u3,q] t)(o:∀W,Fr w W (λg=>g=b)->Blk W b [c,d,f,k,m] t->R (.returned (.agg #[c,d,f,k,m])) W)(hr:∀W,fn.results=r->Blk W b [c,d,f,k,m] t->(results fn a.tmps).run P W=.ok (.agg #[c,d,f,k,m]) W:=by
  intro W e h
  obtain⟨q,v,x,q3,y⟩:=h.d5
  simp[results,e,go_sem,q,v,x,q3,y])(hd:a.defers=[]:=by rfl):bodyPost P fn R .ret a (((((w.setCell ⟨b,0,none⟩ c).setCell ⟨b,1,none⟩ d).setCell ⟨b,2,none⟩ f).setCell ⟨b,3,none⟩ k).setCell ⟨b,4,none⟩ m):=
 bodyPost_ret (hr _ e (h.fi c d f k m)) hd (o _ (Fr.fi w b c d f k m) (h.fi c d f k m))
def Mk(R_:Except Nat (List PF×Nat))(w:Aw)(X:Az)(br bz B:Nat)(s:BA)(i:Nat)(wr mx:Int)(ts:Ap)(us:As)(zs:Ay)(tv u tv2 u2 fv:Ax)(ds:An)(j:Nat)(W:Aw):Prop:=
 ∃p,RM w X br bz B s p false (wrF [] ds wr) (kW ds mx) (ts++zN ts.length (ds.map PF.ty)) (us++zX (ds.map PF.ty)) zs tv u tv2 u2 fv ds.length (yC s ts.length ds) N_ W/\
  j<=p/\i+ds.length<=p/\R_=vK ds (xr s p)
def Fv{s:BA}{j:Nat}(h:(ds=[]/\j=i/\R_=li s i)\/(ds≠[]/\R_=mE s ds j))(a:bt s j=41):R_=.ok (ds,j+1):=by
 rcases h with⟨rfl,rfl,rfl⟩|⟨_,rfl⟩
 .unfold li;rw[i_ a]
 .unfold mE;rw[i_ a]
def Kc{s:BA}{j:Nat}(h:(ds=[]/\j=i/\R_=li s i)\/(ds≠[]/\R_=mE s ds j))(a:bt s j≠41):(ds=[]->R_=vK ds (xr s j))/\(ds≠[]->bt s j=44->R_=vK ds (xr s (j+1)))/\(ds≠[]->bt s j≠44->R_=.error j):=by
 rcases h with⟨rfl,rfl,rfl⟩|⟨h,rfl⟩
 .exact⟨λ_=>by unfold li;rw[n_ a,rR],λh=>(h rfl).elim,λh=>(h rfl).elim⟩
 .exact⟨λe=>(h e).elim,λ_ c=>by unfold mE;rw[n_ a,i_ c],λ_ c=>by unfold mE;rw[n_ a,n_ c]⟩
def QN:Tryz.prog.underlying 60=some (.slice 110):=K_
def FH:(Tryz.prog.info? 110).map (λi=>(i.zero,i.size,i.bytes))=some (some (.agg (Fc 0 0 false 0 ⟨#[]⟩).toArray),10,128):=K_
def cwZa1_{p:Prop}(h:p:=by
 (first|(have:=cc1;have hO:=zy (VN oD.o hl.o hbt hd))|(have hO:=zy (VT (l:=l) oD.o hbt hd true ((j5:Int)+1) ⟨#[]⟩)));replace hd:=zy hd;go_wp2_with (go_at_call 97;apply hP.o.mono;(first|(have:=cc1;rintro e' w13 ⟨st13,hh⟩)|(rintro e w13 ⟨st13,hh⟩));rw[hd.o]at hh;obtain⟨rfl,R13⟩:=hh;have M13:=M12.o.call R13 st13;have F13:=M12.o.ke st13 rfl F12.o;have k4:=F13.cell 4;have m4:=F13.th 4;simp only[Fc,an_,ap_,aa_,ab_]at k4;replace M13:=zy M13;replace F13:=zy F13);go_meet;case rel=>exact⟨_,_,_,_,_,M13.o.put bf 4 _ rfl,G_ F13.o 4 _,hO.o⟩):p:=h
def cwZa2_{p:Prop}(h:p:=by
 (first|(have:=cc1;obtain⟨ty,j5⟩:=q)|(have hOut:=zy (ZR hsm hcol hp)));replace hp:=zy hp;(first|(have:=cc1;replace hsm:=zy hsm;replace hcol:=zy hcol)|(clear hsm hcol));go_wp2_with (go_at_call 38;apply hT.o.mono;intro e w8 hh;unfold yp at hh;rw[hp.o]at hh;(first|(have:=cc1;obtain⟨rfl,tv8,u8,R8,st8⟩:=hh)|(obtain⟨⟨v,rfl⟩,mx8,ts8,us8,tv8,u8,R8,hl8,st8⟩:=hh));have M8:=M7.o.call R8 st8;have F8:=M7.o.ke st8 rfl F7.o;have k1:=F8.cell 1;have m1:=F8.th 1;simp only[Fc,aa_,ab_]at k1;replace M8:=zy M8;replace F8:=zy F8);go_meet;case rel=>(first|(have:=cc1;exact⟨_,_,_,_,_,_,_,_,M8.o.put bf 1 _ rfl,G_ F8.o 1 _,.inr ⟨rfl,hsm.o,hcol.o,ty,hp.o,rfl,rfl,rfl,by simp⟩⟩)|(exact⟨_,_,_,_,_,_,_,_,M8.o.put bf 1 _ rfl,G_ F8.o 1 _,.inl ⟨rfl,hOut.o⟩⟩))):p:=h
def Za{w:Aw}{X:Az}{br bz B:Nat}{s:BA}{wg:Int}{zs:Ay}{tv u:Ax}(R:Rep w X br bz B s i false wg mx ts us zs tv u):Calls prog 62 #[P_ br] w (eh w X br bz B s i wg mx ts us zs tv u):=by
 have f8:=R.sl;have g7:=R.il;have M0:=zy (VK R);obtain⟨g6,Q_⟩:=y_ (eh w X br bz B s i wg mx ts us zs tv u);rw[<- Q_.o];go_in;go_wp2_with (go_at_call 36;apply(yL 40 M0.o.R rfl D_).mono;rintro e w1 ⟨rfl,y,f0⟩);have start:ei (yf s i) w X br bz B s (i+1) wg mx ts us zs tv u (s.size+3) (.string ⟨#[]⟩) w1:=by
  refine⟨⟨#[]⟩,L_,tv,u,rfl,D_,?_⟩;unfold yf;by_cases e2:bt s i=40
  .rw[i_ e2]at y⊢;refine .inl ⟨[],i+1,?_,rfl,by simp,M_,.inl ⟨rfl,rfl,rfl⟩⟩;have:=M0.o.call y f0;simpa[wrF,kW,zN,zX,yC] using this
  .rw[n_ e2]at y⊢;exact .inr ⟨i,_,_,_,_,_,_,M0.o.call y f0,rfl⟩
 replace start:=zy start;go_loopg [4] (s.size+3) (λm kv W=>ei (yf s i) w X br bz B s (i+1) wg mx ts us zs tv u m kv W);case atStart=>exact start
 case round=>
  obtain⟨kb,fv,tv',u',rfl,g9,hA|hC⟩:=hrel
  .obtain⟨ds,j,M,a7,e6,hm,a5⟩:=hA;obtain⟨L,sn,N,rfl⟩:=yE M.own;have g8:=M.R.il;have c2:=M.R.here.c2;have c1:=M.R.here.c1;have f1:=M.R.here.th 1;have a8:ds=[]/\kb.size=0\/ds≠[]/\0<kb.size:=by
    have h1:=congrArg List.length a7;simp only[bu_,Array.length_toList]at h1;have h2:kb.size=kb.data.size:=rfl;cases ds with
    |nil=>exact .inl ⟨rfl,by simp only[av_]at h1;omega⟩
    |cons d r=>exact .inr ⟨by simp,by simp only[au_]at h1;omega⟩
   replace a7:=zy a7;replace M:=zy M;replace a5:=zy a5;by_cases U:bt s j=41
   .have e7:j<s.size:=zp M_;have hres:=zy (Fv a5 U);rcases a8 with⟨E,d2⟩|⟨E,d2⟩
    .have e8:decide ((0:Int)<(kb.size:Int))=false:=decide_eq_false M_;go_wp2_with (first
      |(go_at_call 35;apply(zC M.o.R U).mono;rintro e w2 ⟨rfl,a9⟩;have z:=M.o.si a9;have x:=z.R.here.c2;replace z:=zy z)
      |(go_at_call 36;apply(yL 41 z.o.R rfl D_).mono;rintro e w3 ⟨rfl,y,b8⟩;rw[i_ U]at y;have a:=z.o.call y b8;obtain⟨O,F,Q,t3,t4⟩:=a.b3.f5;obtain⟨r0,r1,I,J,K⟩:=a.b2.f5;obtain⟨g0,g1,g2,g3,g4⟩:=a.b2.t5;simp only[jJ,zS,aa_,ab_]at O F Q t3 t4 r0 r1 I J K;replace a:=zy a))
     refine zU results62 a.o.b2 (λW5 H _=>?_);rw[Q_.o];exact kI a H yi_
    .have e8:(0:Int)<(kb.size:Int):=M_;go_wp2_with (first
      |(go_at_call 35;apply(zC M.o.R U).mono;rintro e w2 ⟨rfl,a9⟩;have z:=M.o.si a9;replace M:=z;have c2:=z.R.here.c2;have c1:=z.R.here.c1;have f1:=z.R.here.th 1;have c1:=z.R.here.c1;have a:=z.inc e7;obtain⟨O,F,Q,t3,t4⟩:=a.b3.f5;obtain⟨r0,r1,I,J,K⟩:=a.b2.f5;obtain⟨g0,g1,g2,g3,g4⟩:=a.b2.t5;simp only[jJ,zS,aa_,ab_]at O F Q t3 t4 r0 r1 I J K;replace a:=zy a;replace M:=zy M))
     refine zU results62 a.o.b2 (λW5 H _=>?_);rw[Q_.o];exact kI a H yi_
   .obtain⟨cj,V⟩:=x_ (bt s j);have Z:=Kc a5 U;have g5:((cj:Int) != 41)=true:=x1_
    have f9:((cj:Int)==41)=false:=x1_
    replace Z:=zy Z;replace V:=zy V;replace a8:=zy a8;go_upto_if 27 with(go_at_call 35;apply(zC M.o.R V).mono;rintro e w2 ⟨rfl,a9⟩;have z:=zy (M.o.si a9));go_cut [] (λW=>Mk (yf s i) w X br bz B s (i+1) wg mx ts us zs tv u tv' u' (.slice L sn N) ds j W);case first=>
     rcases a8.o with⟨E,d2⟩|⟨E,d2⟩
     .have e8:decide (0<kb.size)=false:=decide_eq_false M_;have hd:H_ (yf s i=vK ds (xr s j)):=Z.o.1 E;go_wp2;go_meet;case rel=>exact⟨j,z,l_,e6,hd⟩
     .by_cases A:bt s j=44
      .have e7:j<s.size:=zp M_;have hd:H_ (yf s i=vK ds (xr s (j+1))):=Z.o.2.1 E A;go_wp2_with (first
        |(go_at_call 35;apply(zC z.o.R V).mono;rintro e w3 ⟨rfl,C⟩;have a:=zy (z.o.si C))
        |(go_at_call 36;apply(yL 44 a.o.R rfl D_).mono;rintro e T ⟨rfl,y,G⟩;rw[i_ A]at y;have x:=a.o.call y G;have S:=x.R.here.c2;replace x:=zy x))
       go_meet;case rel=>exact⟨j+1,x,M_,M_,hd⟩
      .have hd:H_ (yf s i=.error j):=Z.o.2.2 E A;go_wp2_with (first
        |(go_at_call 35;apply(zC z.o.R V).mono;rintro e w3 ⟨rfl,C⟩;have a:=zy (z.o.si C))
        |(go_at_call 36;apply(yL 44 a.o.R rfl D_).mono;rintro e T ⟨rfl,y,G⟩;rw[n_ A]at y;have x:=a.o.call y G;have S:=x.R.here.c2;obtain⟨O,F,Q,t3,t4⟩:=x.b3.f5;obtain⟨r0,r1,I,J,K⟩:=x.b2.f5;obtain⟨g0,g1,g2,g3,g4⟩:=x.b2.t5;simp only[jJ,zS,aa_,ab_]at O F Q t3 t4 r0 r1 I J K;replace x:=zy x))
       refine zU results62 x.o.b2 (λW5 H _=>?_);rw[Q_.o];exact kI x H (by rw[hd.o];exact⟨rfl,rfl⟩)
    case rest=>
     obtain⟨p,M,z,f6,hres⟩:=hcut;have d7:=M.R.il;have c1:=M.R.here.c1;obtain⟨l,hl⟩:∃l:Nat,H_ (l=if zl (bt s p)=true then bt s p else 0):=⟨_,rfl⟩;replace M:=zy M;replace hres:=zy hres;go_upto_region 15 with(go_at_call 95;apply(jw (M.o.mine (.cells (Fc 0 0 false 0 ⟨#[]⟩).toArray 110)).R).mono;rintro e w3 ⟨rfl,E⟩;rw[<- hl.o];obtain⟨j3,b4,z,b8,h3⟩:=E.any;have a:=(M.o.mine (.cells (Fc 0 0 false 0 ⟨#[]⟩).toArray 110)).call z b8;have z:=(M.o.mine (.cells (Fc 0 0 false 0 ⟨#[]⟩).toArray 110)).ke b8 rfl (B_ wc _ _);have k0:=z.cell 0;have E:=z.th 0;simp only[Fc,aa_]at k0;replace a:=zy a;replace z:=zy z);have x:=a.o.put wc.heap.size 0 (U_ l) rfl;have S:Blk (w3.setCell ⟨wc.heap.size,0,none⟩ (U_ l)) wc.heap.size (Fc l 0 false 0 ⟨#[]⟩) 110:=G_ z 0 (U_ l);generalize w3.setCell ⟨wc.heap.size,0,none⟩ (U_ l)=W4 at *;generalize wc.heap.size=bf at *;have k0:=S.cell 0;have c2:=x.R.here.c2;simp only[Fc,aa_]at k0;replace x:=zy x;replace S:=zy S;go_cut [64] (λa W=>a=.bool (decide (0<=plc kb l) && !b4)/\W=W4);case first=>
      cases hh:decide (0<=plc kb l);all_goals
       go_wp2_with (go_at_call 96;apply(fp kb l _ M_).mono;rintro e w' ⟨rfl,rfl⟩;rw[hh]);go_meet;case rel=>exact⟨by rw[hh];rfl,rfl⟩
     case rest=>
      obtain⟨rfl,rfl⟩:=hcut;obtain⟨D,hD⟩:=e_ ((decide (0<=plc kb l) && !b4));rw[<- hD];replace hD:=zy hD;go_upto_if 64 with fail;go_cut [] (λW=>∃e0,RM w X br bz B s j3 b4 e0 (kW ds mx) (ts++zN ts.length (ds.map PF.ty)) (us++zX (ds.map PF.ty)) zs tv u tv' u' (.slice L sn N) ds.length (yC s ts.length ds) (λg=>g=bf) W/\Blk W bf (Fc l 0 false 0 ⟨#[]⟩) 110/\e0=if D=true then zF p (wrF [] ds wg) else wrF [] ds wg);case first=>
       cases D
       .go_wp2;go_meet;case rel=>exact⟨_,x,S,rfl⟩
       .go_wp2_with (go_at_call 21;apply(qa x.o.R).mono;rintro e w5 ⟨rfl,z,a⟩);go_meet;case rel=>exact⟨_,x.o.call z a,x.o.ke a rfl S,rfl⟩
      case rest=>
       obtain⟨e1,z,a,d8⟩:=hcut;have k0:=a.cell 0;simp only[Fc,aa_]at k0;have C:=z.alloc (.cells #[U_ l] 5);have T:=a.alloc (.cells #[U_ l] 5);have c2:=C.R.here.c2;have E:=λ(W:World) (g:Nat) (c:Int) (h:W.heap.size=g)=>rQ W g c h;revert d8 C T;refine h_ λd8 C T=>?_;go_upto_if 78 with fail;generalize wc.alloc (.cells #[U_ l] 5)=W6 at *;go_cut [] (λW=>∃j4 b5,RM w X br bz B s j4 b5 e1 (kW ds mx) (ts++zN ts.length (ds.map PF.ty)) (us++zX (ds.map PF.ty)) zs tv u tv' u' (.slice L sn N) ds.length (yC s ts.length ds) (λg=>g=bf) W/\Blk W bf (Fc l 0 false 0 ⟨#[]⟩) 110/\Qs s p j4 b5);case first=>
        cases e3:b4
        .subst e3;have hO:=zy (VI h3 rfl);by_cases G:bt s j3=58
         .go_wp2_with (go_at_call 36;apply(yL 58 C.o.R rfl D_).mono;rintro e w7 ⟨rfl,y,A⟩;rw[i_ G]at y);go_meet;case rel=>exact⟨_,_,C.o.call y A,C.o.ke A rfl T,hO.o.1 G⟩
         .go_wp2_with (go_at_call 36;apply(yL 58 C.o.R rfl D_).mono;rintro e w7 ⟨rfl,y,A⟩;rw[n_ G]at y);go_meet;case rel=>exact⟨_,_,C.o.call y A,C.o.ke A rfl T,hO.o.2 G⟩
        .subst e3;have hO:=zy (KC h3 rfl);go_wp2;go_meet;case rel=>exact⟨_,_,C,T,hO⟩
       case rest=>
        obtain⟨j4,b5,M7,F7,oC⟩:=hcut;have c2:=M7.R.here.c2;revert M7 F7 oC;refine h_ λM7 F7 oC=>?_;go_upto_if 85 with fail;go_cut [] (λW=>∃j5 a4 a1 a2 a3 d9 u5 num,RM w X br bz B s j5 a4 e1 a1 a2 a3 zs tv u d9 u5 (.slice L sn N) ds.length (yC s ts.length ds) (λg=>g=bf) W/\Blk W bf (Fc l num false 0 ⟨#[]⟩) 110/\Gt s p (kW ds mx) (ts++zN ts.length (ds.map PF.ty)) (us++zX (ds.map PF.ty)) j5 a4 a1 a2 a3 num);case first=>
         cases e4:b5
         .subst e4;obtain⟨A,hsm,hcol⟩:=VS oC;subst A;have hT:=zy (QE M7.o.R.il _ _ _ _ _ _ _ _ _ _ _ _ M7.o.R);cases hp:pT s (p+2) with
          |error k=>
           exact cwZa2_
          |ok q=>
           have cc1:=Nat;exact cwZa2_
         .subst e4;have a:=zy (KM (MX0:=kW ds mx) (MX:=kW ds mx) (TS0:=ts++zN ts.length (ds.map PF.ty)) (TS:=ts++zN ts.length (ds.map PF.ty)) (US0:=us++zX (ds.map PF.ty)) (US:=us++zX (ds.map PF.ty)) (num:=0) oC);go_wp2;go_meet;case rel=>exact⟨_,_,_,_,_,_,_,_,M7,F7,a⟩
        case rest=>
         obtain⟨j5,a4,a1,a2,a3,d9,u5,num,M9,F9,oD⟩:=hcut;revert M9 F9 oD;refine h_ λM9 F9 oD=>?_;go_upto_if 91 with(go_at_call 35;apply(Fb M9.o.R).mono;rintro e a ⟨rfl,a⟩);have A:=M9.o.si a;have G:=Blk.si F9 a;go_cut [] (λW=>∃j6 b6 h6 a6 t6,RM w X br bz B s j6 b6 e1 a1 a2 a3 zs tv u d9 u5 (.slice L sn N) ds.length (yC s ts.length ds) (λg=>g=bf) W/\Blk W bf (Fc l num h6 a6 t6) 110/\Qn s p (kW ds mx) (ts++zN ts.length (ds.map PF.ty)) (us++zX (ds.map PF.ty)) l j6 b6 a1 a2 a3 num h6 a6 t6);case first=>
          by_cases b7:pk s j5 a4=61
          .obtain⟨f2,hbt⟩:=MB b7;subst f2;have x:j5<s.size:=zp M_;have c1:=A.R.here.c1;have f1:=A.R.here.th 1;have z:=A.inc x;have a:=A.ke (A.R.inc x).2 rfl G;have x:=a.cell 2;have y:=a.th 2;have y:=a.cell 3;have C:=a.th 3;simp only[Fc,aa_,ab_]at x y;have M12:=(z.put bf 2 (.bool true) rfl).put bf 3 (Z_ ((j5:Int)+1)) rfl;have F12:=zy ((a.set 2 (.bool true)).set 3 (Z_ ((j5:Int)+1)));have hP:=zy (ZW M12.R);replace M12:=zy M12;replace A:=zy A;replace G:=zy G;cases hd:pD s (j5+1) 0 with
           |none=>
            exact cwZa1_
           |some e=>
            have cc1:=Nat;exact cwZa1_
          .have a:(pk s j5 a4==61)=false:=by simpa using b7
           have hO:=zy (ZS oD hl b7);replace A:=zy A;replace G:=zy G;go_wp2;go_meet;case rel=>exact⟨_,_,_,_,_,A,G,hO⟩
         case rest=>
          obtain⟨j6,b6,h6,a6,t6,a,z,oE⟩:=hcut;have F:=a.b3.cell 1;obtain⟨k0,k1,x,y,k4,A,C,E,G,S⟩:=z.f10;simp only[Fc,jJ,aa_,ab_]at F k0 k1 x y k4 A C E G S;obtain⟨ti,x,y,A,C⟩:=info_parts FH;have E:ds.length<=300:=M_;have E:=a.R.hB;replace a:=zy a;replace oE:=zy oE;go_wp2_with (first
           |(at_builtin;go_must (refine wpList_append_own_at _ rfl _ _ 60 rfl B 110 ti _ 10 128 QN x y A C rfl D_ (.slice L sn N) ds.length (yC s ts.length ds) rfl ?hown _ 1 1 (Fc l num h6 a6 t6) rfl rfl (zK _ (Fc l num h6 a6 t6).toArray _ _ ?nn) ?one ?b1 ?b2 ?b3 ?_)
             case hown=>exact World.ownsRow.alloc a.o.own _
             case nn=>simp
             case one=>simp[Fc,Value.oneCell']
             case b1=>unfold maxLen;omega
             case b2=>omega
             case b3=>simp;omega
             intro v5 w5 d6 b9 f7 e9
             have a0:=a.o.grow b9 d6 e9
             obtain⟨x,f5⟩:=a.o.gC b9
             obtain⟨a,a,rfl⟩:=zg d6 M_
             replace a0:=zy a0))
          have a:=a0.o.R.il;cases e5:b6
          .subst e5;have a:p<j6:=by
            rcases oE.o with⟨h,_⟩|⟨_,f,hf,_⟩
            .cases h
            .have:=(vu d7).1 f j6 hf;omega
           go_roundg (s.size+2-j6);case measure=>omega
           case rel=>exact Kl _ hres d7 f8 f6 a7 oE d8 hD h3 a0 l_
          .subst e5;go_roundg 0;case measure=>omega
           case rel=>exact Fj _ hres d7 (by rw[FC a7.o];omega) oE a0
  .obtain⟨k,n,xs,e0,MX,TS,US,M,hres⟩:=hC;obtain⟨L,sn,N,rfl⟩:=yE M.own;have c2:=M.R.here.c2;obtain⟨O,F,Q,t3,t4⟩:=M.b3.f5;obtain⟨r0,r1,I,J,K⟩:=M.b2.f5;obtain⟨g0,g1,g2,g3,g4⟩:=M.b2.t5;simp only[jJ,zS,aa_,ab_]at O F Q t3 t4 r0 r1 I J K;replace M:=zy M;replace hres:=zy hres;go_wp2;refine zU results62 M.o.b2 (λW5 H _=>?_);rw[Q_.o];exact kI M H (by rw[hres.o];exact⟨rfl,rfl⟩)
end Go.Proofs.YtokgeopihcopeaaGreatDoor
