import Derived.Test.YtiifagiebikmdaaGreatDoorW02
import Derived.Test.YtiifagiebikmdaaGreatDoorW00
import Derived.Test.YtiifagiebikmdaaGreatDoorA00
set_option maxHeartbeats 16000000
set_option maxRecDepth 100000
set_option linter.unusedSimpArgs false
open Go.Proofs.Tryz
namespace Go.Proofs.YtiifagiebikmdaaGreatDoor
open Go.RowKit
variable {p i l:Nat}{mx num wr MX0:Int}{ts TS0:List TR}{us US0:List (Nat×Nat)}{v5:Value}{ty:PT}{ds:List PF}{kb:BA}
theorem zu3 {s:BA}(hT:∀ j,i<=j->j<=s.size->zit s j):zvv s i:=by
 intro w X br bz B wg mx ts us zs tv u R;have h6:=R.sl;have b7:=zsw R;replace b7:H_ _:=b7;replace hT:H_ _:=hT;obtain⟨g7,Q_⟩:∃ P,H_ (P=ze4 w X br bz B s i wg mx ts us zs tv u):=⟨_,rfl⟩;rw[<- Q_.o]
 go_in
 go_wp2_with fail
 go_loopg [4,5] (s.size+1) (λ n kv mv W=>zs4 w X br bz B s i wg mx ts us zs tv u n kv mv W)
 case atStart=>exact b7.o
 case round=>
  clear b7;obtain⟨ds,i',more,kb,sv,tv',u',rfl,rfl,f,G,Q,M,hg,b8,b9⟩:=hrel;obtain⟨O,a6,a7,a4,b6,e6⟩:=id M;replace M:H_ _:=M;obtain⟨a,sn,b,rfl⟩:=zn_ a4.1
  have f9:i<=i':=by omega
  replace G:H_ _:=G;replace f:H_ _:=f;replace a6:H_ _:=a6;replace a7:H_ _:=a7;replace a4:H_ _:=a4;replace b6:H_ _:=b6;have c2:=O.here.c2;have o2:=O.offS (g:=w.heap.size) (.inr (.inl rfl));have o3:=O.offS (g:=w.heap.size+1) (.inr (.inr (.inl rfl)));replace o2:H_ _:=o2;replace o3:H_ _:=o3
  cases more with
  | false=>
   have A:=b9 rfl;replace A:H_ _:=A;clear b8 b9
   go_wp2_with (first
    |(go_at_call 40;refine(y4_ 41 O rfl (by decide)).mono ?_;rintro e r ⟨rfl,hE,J⟩;have B3:=J.fr.blk a7.o o3.o;have E:=J.fr.blk a6.o o2.o;have d3:=B3.c0;have e3:=B3.c1;have d2:=E.c0;have e2:=E.c1;have f2:=E.thaw 0;have g2:=E.thaw 1))
   have q0:((r.setCell ⟨w.heap.size,0,none⟩ (.int .u8 40)).setCell ⟨w.heap.size,1,none⟩ (.slice a sn b)).cell? ⟨w.heap.size,0,none⟩=some (.int .u8 40):=((E.set 0 (.int .u8 40)).set 1 (.slice a sn b)).cell 0;have q1:((r.setCell ⟨w.heap.size,0,none⟩ (.int .u8 40)).setCell ⟨w.heap.size,1,none⟩ (.slice a sn b)).cell? ⟨w.heap.size,1,none⟩=some (.slice a sn b):=((E.set 0 (.int .u8 40)).set 1 (.slice a sn b)).cell 1;have hF:Fr r ((r.setCell ⟨w.heap.size,0,none⟩ (.int .u8 40)).setCell ⟨w.heap.size,1,none⟩ (.slice a sn b)) (λ g=>g=w.heap.size):=Fr.two r w.heap.size 0 1 _ _;generalize (r.setCell ⟨w.heap.size,0,none⟩ (.int .u8 40)).setCell ⟨w.heap.size,1,none⟩ (.slice a sn b)=w4 at *;refine bodyPost_ret (v:=.agg #[.int .u8 40,.slice a sn b]) (by simp[results,results71,go_sem,q0,q1]) rfl ?_;rw[Q_.o];exact zxr R A.o hE e6 J a4.o b6.o hF
  | true=>
   have A:=b8 rfl;clear b8 b9;have I:=O.il;have a2:=zl3 s i' I;have a5:=hT.o i' f9 I;have c1:=O.here.c1
   cases z:pT s i' with
   | error k=>
    rw[z] at a2;rw[a2] at A;replace A:H_ (pA s i=.error k):=A
    have a1:H_ (Calls prog 42 #[.pointer (some ⟨br,0,none⟩)] wr λ e w'=>(∃ v:Nat,e=.returned (.int .i64 (v:Int)))/\H_ (∃ g4 e7 g6 tv2 u2,Rep w' (λ g=>X g\/g=w.heap.size\/g=w.heap.size+1\/(Value.slice a sn b).ownBlock=some g) br bz B s k true wg g4 e7 g6 zs tv2 u2/\e7.length+i'<=k+(ts++yl_ ts.length ds).length/\Step wr w' br bz tv' u' tv2 u2)):=by
     refine(a5 wr _ br bz B wg _ _ _ zs tv' u' O).mono ?_;intro e w' S;unfold ym_ at S;rw[z] at S;exact S
    clear a5 a2 z
    go_wp2_with (first
     |(go_at_call 42;refine a1.o.mono ?_;rintro e r ⟨⟨v,rfl⟩,a3⟩;obtain⟨h7,h8,h9,tv2,u2,y,g1,J⟩:=a3.o;have d6:=y.here.c2;have B3:=J.fr.blk a7.o o3.o;have E:=J.fr.blk a6.o o2.o;have d3:=B3.c0;have e3:=B3.c1;have d2:=E.c0;have e2:=E.c1;have f2:=E.thaw 0;have g2:=E.thaw 1))
    have q0:((r.setCell ⟨w.heap.size,0,none⟩ (.int .u8 40)).setCell ⟨w.heap.size,1,none⟩ (.slice a sn b)).cell? ⟨w.heap.size,0,none⟩=some (.int .u8 40):=((E.set 0 (.int .u8 40)).set 1 (.slice a sn b)).cell 0;have q1:((r.setCell ⟨w.heap.size,0,none⟩ (.int .u8 40)).setCell ⟨w.heap.size,1,none⟩ (.slice a sn b)).cell? ⟨w.heap.size,1,none⟩=some (.slice a sn b):=((E.set 0 (.int .u8 40)).set 1 (.slice a sn b)).cell 1;have hF:Fr r ((r.setCell ⟨w.heap.size,0,none⟩ (.int .u8 40)).setCell ⟨w.heap.size,1,none⟩ (.slice a sn b)) (λ g=>g=w.heap.size):=Fr.two r w.heap.size 0 1 _ _;generalize (r.setCell ⟨w.heap.size,0,none⟩ (.int .u8 40)).setCell ⟨w.heap.size,1,none⟩ (.slice a sn b)=w4 at *;refine bodyPost_ret (v:=.agg #[.int .u8 40,.slice a sn b]) (by simp[results,results71,go_sem,q0,q1]) rfl ?_;rw[Q_.o];exact zxq R A.o y (by have:=G.o;rw[ah_] at g1;omega) e6 J a4.o b6.o hF
   | ok q=>
    obtain⟨t,j⟩:=q;rw[z] at a2;have d7:=zhx z (ts++yl_ ts.length ds).length;have h3:=(xz_ I).1 t j z;have L:=zt2 z
    have a1:H_ (Calls prog 42 #[.pointer (some ⟨br,0,none⟩)] wr λ e w'=>e=.returned (.int .i64 (((ts++yl_ ts.length ds).length+(flat (ts++yl_ ts.length ds).length t).length-1:Nat):Int))/\H_ (∃ tv2 u2,Rep w' (λ g=>X g\/g=w.heap.size\/g=w.heap.size+1\/(Value.slice a sn b).ownBlock=some g) br bz B s j false wg (mix t (mixs [] ds mx)) ((ts++yl_ ts.length ds)++flat (ts++yl_ ts.length ds).length t) ((us++zs_ ds)++zr_ t) zs tv2 u2/\Step wr w' br bz tv' u' tv2 u2)):=by
     refine(a5 wr _ br bz B wg _ _ _ zs tv' u' O).mono ?_;intro e w' S;unfold ym_ at S;rw[z] at S;exact S
    have b4:=zrz (ts++yl_ ts.length ds).length t;have b5:=znn (ts++yl_ ts.length ds).length t;have D:∃ N,N=(ts++yl_ ts.length ds).length+(flat (ts++yl_ ts.length ds).length t).length-1:=⟨_,rfl⟩;obtain⟨N,D⟩:=D;rw[<- D] at a1;generalize K:mix t (mixs [] ds mx)=MX at a1;replace A:H_ _:=A;replace a2:H_ _:=a2;replace z:H_ _:=z;replace d7:H_ _:=d7;replace L:H_ _:=L;replace b4:H_ _:=b4;replace b5:H_ _:=b5;replace D:H_ _:=D;replace K:H_ _:=K;clear a5
    have h4:kb.size<=300:=by
     have h1:=congrArg List.length f.o;simp only[bf_,Array.length_toList] at h1;have h2:kb.size=kb.data.size:=rfl;omega
    have g8:=λ (W:World) (g:Nat) (c:Int) (h:W.heap.size=g)=>zin W g c h;obtain⟨ti,d8,d9,e0,e1⟩:=info_parts zz3
    have h5:(nums ts.length ds).length<=300:=by rw[zfr];omega
    by_cases T:bt s j=44
    ·have a9:j<s.size:=zj_ (by omega)
     go_wp2_with (first
      |(go_at_call 42;refine a1.o.mono ?_;rintro e r ⟨rfl,a3⟩;obtain⟨tv2,u2,y,J⟩:=a3.o;have d6:=y.here.c2;have e9:=y.here.c3;have f0:=y.here.c6;have f6:=y.here.thaw 6;have d:=M.o.call y J;have e3:∀ x,(r.alloc x).cell? ⟨w.heap.size+1,1,none⟩=some (.slice a sn b):=λ x=>d.b3.cellAlloc 1 x;have e4:∀ m x,((r.setCell ⟨br,6,none⟩ (.int .i64 m)).alloc x).cell? ⟨w.heap.size+1,1,none⟩=some (.slice a sn b):=λ m x=>(d.setMx m).b3.cellAlloc 1 x;have Z:=d.ss.1;have a0:=λ m=>(d.setMx m).ss.1;replace Z:H_ _:=Z;replace a0:H_ _:=a0;replace d:H_ _:=d;obtain⟨g,f1,f7,g0,g3⟩:=zke y D.o b5.o b4.o)
      |(go_at_call 99;refine(zdq kb t.kind _ (by omega)).mono ?_;rintro e w' ⟨rfl,rfl⟩)
      |(at_builtin;refine wpList_append_own_at _ rfl _ _ 75 rfl B 3 ti (.int .i64 0) 1 8 zu8 d8 d9 e0 e1 rfl (by decide) (.slice a sn b) (nums ts.length ds).length ((nums ts.length ds).map λ (n:Nat)=>Value.int .i64 (n:Int)) rfl ?hown _ 1 1 [.int .i64 (N:Int)] rfl rfl (z7_ _ #[.int .i64 (N:Int)] _ _ ?nn) (ints_oneCell .i64 [(N:Int)]) ?b1 ?b2 ?b3 ?_
        case hown=>first|exact World.ownsRow.alloc (World.ownsRow.alloc Z.o _) _|exact World.ownsRow.alloc (World.ownsRow.alloc (a0.o _) _) _
        case nn=>simp
        case b1=>unfold maxLen;omega
        case b2=>omega
        case b3=>have:=y.hB;simp;omega
        intro v5 w5 V H d0 U
        first|have F:=d.o.grow H V U|have F:=(d.o.setMx _).grow H V U
        first|have E5:=d.o.growCell H|have E5:=(d.o.setMx _).growCell H
        obtain⟨e5,f5⟩:=E5
        obtain⟨g5,f3,rfl⟩:=zh_ V (by omega)
        clear H U d0
        replace F:H_ _:=F)
      |(go_at_call 39;refine(z3_ F.o.R T).mono ?_;rintro e w6 ⟨rfl,d1⟩;have C:=F.o.still d1;have e8:=C.R.here.c1;have f4:=C.R.here.thaw 1;replace C:H_ _:=C))
     all_goals
      go_roundg (s.size+1-(j+1))
      case measure=>omega
      case rel=>
       first
        | exact j2_ (s.size+1-(j+1)) true (j+1) z.o I f.o G.o Q A.o D.o (zh4 f.o L.o K.o (by omega)) (C.o.inc a9) l_ (.inl ⟨rfl,rfl,T⟩)
        | exact j2_ (s.size+1-(j+1)) true (j+1) z.o I f.o G.o Q A.o D.o (zew f.o L.o K.o (by omega)) (C.o.inc a9) l_ (.inl ⟨rfl,rfl,T⟩)
        |(have hk:t.kind=40:=by omega
          have q:=j2_ (s.size+1-(j+1)) true (j+1) z.o I f.o G.o Q A.o D.o (zh4 f.o L.o K.o (by omega)) (C.o.inc a9) l_ (.inl ⟨rfl,rfl,T⟩)
          rw[hk] at q
          exact q)
        |(have hk:t.kind=40:=by omega
          have q:=j2_ (s.size+1-(j+1)) true (j+1) z.o I f.o G.o Q A.o D.o (zew f.o L.o K.o (by omega)) (C.o.inc a9) l_ (.inl ⟨rfl,rfl,T⟩)
          rw[hk] at q
          exact q)
    ·obtain⟨cj,f8⟩:∃ c,bt s j=c:=⟨_,rfl⟩
     have g9:((cj:Int)==44)=false:=by simp;omega
     have a8:H_ (bt s j≠44):=T;clear T
     go_wp2_with (first
      |(go_at_call 42;refine a1.o.mono ?_;rintro e r ⟨rfl,a3⟩;obtain⟨tv2,u2,y,J⟩:=a3.o;have d6:=y.here.c2;have e9:=y.here.c3;have f0:=y.here.c6;have f6:=y.here.thaw 6;have d:=M.o.call y J;have e3:∀ x,(r.alloc x).cell? ⟨w.heap.size+1,1,none⟩=some (.slice a sn b):=λ x=>d.b3.cellAlloc 1 x;have e4:∀ m x,((r.setCell ⟨br,6,none⟩ (.int .i64 m)).alloc x).cell? ⟨w.heap.size+1,1,none⟩=some (.slice a sn b):=λ m x=>(d.setMx m).b3.cellAlloc 1 x;have Z:=d.ss.1;have a0:=λ m=>(d.setMx m).ss.1;replace Z:H_ _:=Z;replace a0:H_ _:=a0;replace d:H_ _:=d;obtain⟨g,f1,f7,g0,g3⟩:=zke y D.o b5.o b4.o)
      |(go_at_call 99;refine(zdq kb t.kind _ (by omega)).mono ?_;rintro e w' ⟨rfl,rfl⟩)
      |(at_builtin;refine wpList_append_own_at _ rfl _ _ 75 rfl B 3 ti (.int .i64 0) 1 8 zu8 d8 d9 e0 e1 rfl (by decide) (.slice a sn b) (nums ts.length ds).length ((nums ts.length ds).map λ (n:Nat)=>Value.int .i64 (n:Int)) rfl ?hown _ 1 1 [.int .i64 (N:Int)] rfl rfl (z7_ _ #[.int .i64 (N:Int)] _ _ ?nn) (ints_oneCell .i64 [(N:Int)]) ?b1 ?b2 ?b3 ?_
        case hown=>first|exact World.ownsRow.alloc (World.ownsRow.alloc Z.o _) _|exact World.ownsRow.alloc (World.ownsRow.alloc (a0.o _) _) _
        case nn=>simp
        case b1=>unfold maxLen;omega
        case b2=>omega
        case b3=>have:=y.hB;simp;omega
        intro v5 w5 V H d0 U
        first|have F:=d.o.grow H V U|have F:=(d.o.setMx _).grow H V U
        first|have E5:=d.o.growCell H|have E5:=(d.o.setMx _).growCell H
        obtain⟨e5,f5⟩:=E5
        obtain⟨g5,f3,rfl⟩:=zh_ V (by omega)
        clear H U d0
        replace F:H_ _:=F)
      |(go_at_call 39;refine(z3_ F.o.R f8).mono ?_;rintro e w6 ⟨rfl,d1⟩;have C:=F.o.still d1;have e8:=C.R.here.c1;have f4:=C.R.here.thaw 1;replace C:H_ _:=C))
     all_goals
      go_roundg (s.size+1-j)
      case measure=>omega
      case rel=>
       first
        | exact j2_ (s.size+1-j) false (j) z.o I f.o G.o Q A.o D.o (zh4 f.o L.o K.o (by omega)) C.o l_ (.inr ⟨rfl,rfl,a8.o⟩)
        | exact j2_ (s.size+1-j) false (j) z.o I f.o G.o Q A.o D.o (zew f.o L.o K.o (by omega)) C.o l_ (.inr ⟨rfl,rfl,a8.o⟩)
        |(have hk:t.kind=40:=by omega
          have q:=j2_ (s.size+1-j) false (j) z.o I f.o G.o Q A.o D.o (zh4 f.o L.o K.o (by omega)) C.o l_ (.inr ⟨rfl,rfl,a8.o⟩)
          rw[hk] at q
          exact q)
        |(have hk:t.kind=40:=by omega
          have q:=j2_ (s.size+1-j) false (j) z.o I f.o G.o Q A.o D.o (zew f.o L.o K.o (by omega)) C.o l_ (.inr ⟨rfl,rfl,a8.o⟩)
          rw[hk] at q
          exact q)
open Go.RowKit
theorem zv0 (s:BA) (n:Nat):∀ i,i<=s.size->s.size-i<=n->zit s i:=by
 induction n with
 | zero=>
  intro i d hn;have hb:bt s i=0:=zf5 (by omega);exact zqf (by rw[hb];decide) (by omega) (by omega) (by omega)
 | succ n ih=>
  intro i d hn
  by_cases h1:yc_ (bt s i)=true
  ·exact ztj h1
  ·by_cases a:bt s i=91\/bt s i=123
   ·have:=zj_ (s:=s) (i:=i) (by omega);exact zth a (ih (i+1) (by omega) (by omega))
   ·by_cases b:bt s i=40
    ·have:=zj_ (s:=s) (i:=i) (by omega);exact zqe b (zu3 (λ j f e=>ih j e (by omega)))
    ·by_cases c:65<=bt s i/\bt s i<=70
     ·exact zti c
     ·exact zqf h1 a b c
theorem zva {s:BA}(a:i<=s.size):zit s i:=zv0 s (s.size-i) i a l_
open Go.RowKit
theorem znl (c:Nat):decide (0<=plc ⟨#[40,91,123,60]⟩ c)=zcv c:=by
 rw[Bool.eq_iff_iff];simp only[decide_eq_true_eq,zb7,zcv,ax_,beq_iff_eq]
 simp
 omega
theorem zkk (c:Nat):decide (0<=plc ⟨#[41,93,125,62]⟩ c)=zae c:=by
 rw[Bool.eq_iff_iff];simp only[decide_eq_true_eq,zb7,zae,ax_,beq_iff_eq]
 simp
 omega
theorem zh1 {c:Nat}(h:zcv c=true) (a:zae c=true):False:=by
 simp only[zcv,zae,ax_,beq_iff_eq] at h a;omega
def zd4 (w:World) (X:Nat->Prop) (br bz B:Nat) (s:BA) (i:Nat) (wr mx:Int) (ts:List TR) (us:List (Nat×Nat)) (zs:List Value) (tv u:Value) (e:Ending) (w':World):Prop:=
 Step w w' br bz tv u tv u/\
 match pD s i 0 with
 | some k=>e=.returned (.string (s.extract i k))/\Rep w' X br bz B s k false wr mx ts us zs tv u
 | none=>e=.returned (.string ⟨#[]⟩)/\Rep w' X br bz B s s.size true wr mx ts us zs tv u
def zhg (w:World) (X:Nat->Prop) (br bz B:Nat) (s:BA) (i:Nat) (wr mx:Int) (ts:List TR) (us:List (Nat×Nat)) (zs:List Value) (tv u:Value) (n:Nat) (ov:Value) (W:World):Prop:=
 ∃ k o:Nat,ov=.int .i64 (o:Int)/\pD s i 0=pD s k o/\i<=k/\o<=k/\Rep W X br bz B s k false wr mx ts us zs tv u/\Step w W br bz tv u tv u/\s.size-k<=n
theorem zog {w:World}{X:Nat->Prop}{br bz B:Nat}{s:BA}{wg:Int}{zs:List Value}{tv u:Value}(R:Rep w X br bz B s i false wg mx ts us zs tv u) :
 Calls prog 100 #[.pointer (some ⟨br,0,none⟩)] w (zd4 w X br bz B s i wg mx ts us zs tv u):=by
 have a5:=R.sl;have a1:=R.il;have c1:=R.here.c1;have z:zhg w X br bz B s i wg mx ts us zs tv u (s.size-i) (.int .i64 0) w:=⟨i,0,rfl,rfl,l_,ak_ _,R,Step.refl _ _ _ _ _,l_⟩;replace z:H_ _:=z;obtain⟨S,A⟩:∃ P,H_ (P=zd4 w X br bz B s i wg mx ts us zs tv u):=⟨_,rfl⟩;rw[<- A.o]
 go_in
 go_wp2_with fail
 clear c1
 go_loopg [4] (s.size-i) (λ n Q W=>zhg w X br bz B s i wg mx ts us zs tv u n Q W)
 case atStart=>exact z.o
 case round=>
  clear z;obtain⟨k,o,rfl,x,a0,a4,a,E,hn⟩:=hrel;have a2:=a.il;have c0:=a.here.c0;have c1:=a.here.c1;replace x:H_ _:=x
  by_cases hk:k<s.size
  ·have K:(k:Int)<(s.size:Int):=by omega
   obtain⟨c,hc⟩:∃ c,bt s k=c:=⟨_,rfl⟩
   have Z:((s[k]'hk).toNat:Int)=(c:Int):=by rw[<- hc,j5_ s k hk]
   have b:=zq0 o hk;rw[hc,<- x.o] at b;replace hc:H_ _:=hc;have T:=a.here.thaw 1
   by_cases v:o=0/\(c=44\/c=41)
   ·rw[if_pos v] at b;replace b:H_ (pD s i 0=some k):=b
    have key:H_ (∀ W,zd_ wr W->zd4 w X br bz B s i wg mx ts us zs tv u (.returned (.string (s.extract i k))) W):=by
     intro W r;refine⟨E.still r,?_⟩;rw[b.o];exact⟨rfl,a.still r⟩
    obtain⟨rfl,J⟩:=v
    rcases J with rfl|rfl
    all_goals
     go_wp2_with fail
     go_quiet (fail)
     go_wp2_with fail
     go_quiet (fail)
     go_wp2_with fail
     go_quiet (fail)
     go_wp2_with fail
     try go_ret
     rw[A.o];exact key.o _ (by first|exact zd_.drewN _ _|exact(zd_.drewN _ _).trans (zd_.drewN _ _)|exact((zd_.drewN _ _).trans (zd_.drewN _ _)).trans (zd_.drewN _ _))
   ·rw[if_neg v] at b;replace b:H_ _:=b
    have D:H_ (∀ (y:Nat) (W:World),y=zbz c o->zd_ wr W->zhg w X br bz B s i wg mx ts us zs tv u (s.size-(k+1)) (.int .i64 (y:Int)) (W.setCell ⟨br,1,none⟩ (.int .i64 ((k:Int)+1)))):=by
     intro y W H d;have m:=a.still d;exact⟨k+1,y,rfl,by rw[H];exact b.o,by omega,by rw[H];unfold zbz;split<;>(try split)<;>omega,(m.inc hk).1,(E.still d).trans (m.inc hk).2,l_⟩
    have F:H_ (zcv c=true->∀ W,zd_ wr W->zhg w X br bz B s i wg mx ts us zs tv u (s.size-(k+1)) (.int .i64 ((o:Int)+1)) (W.setCell ⟨br,1,none⟩ (.int .i64 ((k:Int)+1)))):=λ h W d=>D.o (o+1) W (by simp[zbz,h]) d
    have I:H_ (zcv c=false->zae c=true->0<o->∀ W,zd_ wr W->zhg w X br bz B s i wg mx ts us zs tv u (s.size-(k+1)) (.int .i64 ((o:Int)-1)) (W.setCell ⟨br,1,none⟩ (.int .i64 ((k:Int)+1)))):=λ h f V W d=>by
     have q:=D.o (o-1) W (by simp[zbz,h,f]) d;rw[show((o-1:Nat):Int)=(o:Int)-1 by omega] at q;exact q
    have C:H_ (zcv c=false->(zae c=false\/o=0)->∀ W,zd_ wr W->zhg w X br bz B s i wg mx ts us zs tv u (s.size-(k+1)) (.int .i64 (o:Int)) (W.setCell ⟨br,1,none⟩ (.int .i64 ((k:Int)+1)))):=λ h f W d=>D.o o W (by rcases f with f|f<;>simp[zbz,h,f]) d;have G:H_ (¬ (o=0/\(c=44\/c=41))):=v;clear v
    by_cases t:o=0
    ·have O:((o:Int)==0)=true:=by simp;omega
     have N:(o:Int)<=0:=by omega
     replace t:H_ _:=t
     have n1:((c:Int)==44)=false:=by have:=G.o;have:=t.o;simp;omega
     have n2:((c:Int)==41)=false:=by have:=G.o;have:=t.o;simp;omega
     cases ho:zcv c<;>cases g:zae c
     case true.true=>exact(zh1 ho g).elim
     all_goals
      go_wp2_with fail
      go_quiet (fail)
      go_wp2_with fail
      go_quiet (fail)
      go_wp2_with (go_at_call 99;refine(zdq _ c _ (by decide)).mono ?_;rintro e w' ⟨rfl,rfl⟩;first|rw[znl]|rw[zkk])
      go_roundg (s.size-(k+1))
      case measure=>omega
      case rel=>first|exact F.o ho _ (by first|exact zd_.drewN _ _|exact(zd_.drewN _ _).trans (zd_.drewN _ _)|exact((zd_.drewN _ _).trans (zd_.drewN _ _)).trans (zd_.drewN _ _))|exact C.o ho (.inl g) _ (by first|exact zd_.drewN _ _|exact(zd_.drewN _ _).trans (zd_.drewN _ _)|exact((zd_.drewN _ _).trans (zd_.drewN _ _)).trans (zd_.drewN _ _))|exact C.o ho (.inr t.o) _ (by first|exact zd_.drewN _ _|exact(zd_.drewN _ _).trans (zd_.drewN _ _)|exact((zd_.drewN _ _).trans (zd_.drewN _ _)).trans (zd_.drewN _ _))
    ·have N:(0:Int)<(o:Int):=by omega
     have M:H_ (0<o):=by show 0<o;omega
     have O:((o:Int)==0)=false:=by simp;omega
     have a3:(o:Int)<=300:=by omega
     cases ho:zcv c<;>cases g:zae c
     case true.true=>exact(zh1 ho g).elim
     all_goals
      go_wp2_with fail
      go_quiet (fail)
      go_wp2_with fail
      go_quiet (fail)
      go_wp2_with (go_at_call 99;refine(zdq _ c _ (by decide)).mono ?_;rintro e w' ⟨rfl,rfl⟩;first|rw[znl]|rw[zkk])
      go_roundg (s.size-(k+1))
      case measure=>omega
      case rel=>first|exact F.o ho _ (by first|exact zd_.drewN _ _|exact(zd_.drewN _ _).trans (zd_.drewN _ _)|exact((zd_.drewN _ _).trans (zd_.drewN _ _)).trans (zd_.drewN _ _))|exact I.o ho g M.o _ (by first|exact zd_.drewN _ _|exact(zd_.drewN _ _).trans (zd_.drewN _ _)|exact((zd_.drewN _ _).trans (zd_.drewN _ _)).trans (zd_.drewN _ _))|exact C.o ho (.inl g) _ (by first|exact zd_.drewN _ _|exact(zd_.drewN _ _).trans (zd_.drewN _ _)|exact((zd_.drewN _ _).trans (zd_.drewN _ _)).trans (zd_.drewN _ _))
  ·have K:¬ (k:Int)<(s.size:Int):=by omega
   have U:=a.here.thaw 2;have c2:=a.here.c2
   go_wp2_with fail
   go_quiet (fail)
   go_wp2_with fail
   try go_ret
   rw[A.o];have r:=zd_.drewN wr nq
   have L:k=s.size:=by omega
   have m:=a.still r;refine⟨(E.still r).trans m.spoil.2,?_⟩;rw[x.o,zvh (by omega)];exact⟨rfl,by rw[<- L];exact m.spoil.1⟩
open Go.RowKit
def ze2 (w:World) (X:Nat->Prop) (br bz B:Nat) (s:BA) (i:Nat) (wr mx:Int) (ts:List TR) (us:List (Nat×Nat)) (zs:List Value) (tv u:Value) (w':World):Prop:=
 (if zi_ (bt s i)=true then Rep w' X br bz B s (i+1) false wr mx ts us zs tv u else Rep w' X br bz B s i true wr mx ts us zs tv u)/\Step w w' br bz tv u tv u
theorem vx_ {w:World}{X:Nat->Prop}{br bz B:Nat}{s:BA}{zs:List Value}{tv u:Value}(R:Rep w X br bz B s i false wr mx ts us zs tv u) :
 Calls prog 98 #[.pointer (some ⟨br,0,none⟩)] w λ e w'=>e=.returned (.int .u8 ((if zi_ (bt s i)=true then bt s i else 0:Nat):Int))/\ze2 w X br bz B s i wr mx ts us zs tv u w':=by
 have h1:=R.il;have d:=R.sl;refine(zqi R.here R.sl (by simp only;omega)).mono ?_;rintro e w' ⟨rfl,a,c⟩;unfold ze2;unfold RV.small at a;unfold RV.smallR;simp only[zqt] at a⊢
 by_cases hb:zi_ (bt s i)=true
 ·have b:97<=(bt s i:Int)/\(bt s i:Int)<=122:=by simp only[zi_,a1_,decide_eq_true_eq] at hb;omega
  rw[if_pos b] at a⊢;rw[if_pos hb,if_pos hb];exact⟨rfl,R.move c a (by omega) (zj_ (xc_ hb))⟩
 ·have b:¬ (97<=(bt s i:Int)/\(bt s i:Int)<=122):=by simp only[zi_,a1_,decide_eq_true_eq] at hb;omega
  rw[if_neg b] at a⊢;rw[if_neg hb,if_neg hb];exact⟨rfl,R.move c a (by omega) h1⟩
def zz_ (a:Int) (m:Int):Int:=if m<0\/a<m then a else m
def zu5 (w:World) (X:Nat->Prop) (br bz B:Nat) (s:BA) (i:Nat) (bad:Bool) (wr mx:Int) (ts:List TR) (us:List (Nat×Nat)) (zs:List Value) (tv u:Value) (p:Int) (w':World):Prop:=
 Rep w' X br bz B s i bad (zz_ p wr) mx ts us zs tv u/\Step w w' br bz tv u tv u
theorem zaa {w:World}{X:Nat->Prop}{br bz B:Nat}{s:BA}{bad:Bool}{zs:List Value}{tv u:Value}{p:Int}(R:Rep w X br bz B s i bad wr mx ts us zs tv u) :
 Calls prog 24 #[.pointer (some ⟨br,0,none⟩),.int .i64 p] w λ e w'=>e=.returned (.tuple #[])/\zu5 w X br bz B s i bad wr mx ts us zs tv u p w':=by
 refine(zp2 R.here).mono ?_;rintro e w' ⟨rfl,a,b⟩;refine⟨rfl,?_⟩;refine R.move b ?_ l_ R.il;unfold RV.wrong at a;unfold zz_;simp only at a;split at a
 ·rename_i h;rw[if_pos h];exact a
 ·rename_i h;rw[if_neg h];exact a
theorem zlr {w:World}{X:Nat->Prop}{br bz B:Nat}{s:BA}{zs:List Value}{tv u:Value}(R:Rep w X br bz B s i true wr mx ts us zs tv u) :
 Calls prog 39 #[.pointer (some ⟨br,0,none⟩)] w λ e w'=>e=.returned (.int .u8 0)/\zd_ w w':=by
 have h1:=R.il;have b:=R.sl;refine(zcs R.here R.sl (by simp only;omega)).mono ?_;rintro e w' ⟨rfl,a⟩;exact⟨by simp[pk],a⟩
def zno (s:BA) (f:PF) (num:Nat):List Value:=
 [.int .u8 (f.letter:Int),.int .i64 (num:Int),.bool f.dflt.isSome,.int .i64 ((f.dflt.map Prod.fst).getD 0:Nat),.string (match f.dflt with|none=>⟨#[]⟩|some (a,b)=>s.extract a b),
  .int .u8 0,.int .i64 0,.string ⟨#[]⟩,.slice none 0 0,.slice none 0 0]
def y3_ (s:BA) (b:Nat) (ds:List PF):List Value:=(List.zipWith (zno s) ds (nums b (ds.map PF.ty))).flatten
theorem zhs (s:BA) (b:Nat) (ds:List PF) (f:PF):y3_ s b (ds++[f])=y3_ s b ds++zno s f (b+(yl_ b (ds.map PF.ty)).length+(flat (b+(yl_ b (ds.map PF.ty)).length) f.ty).length-1):=by
 unfold y3_;rw[be_];simp only[ay_,a6_];rw[zj0,List.zipWith_append (by rw[zfr,bf_]),List.flatten_append]
 simp
def wrF (seen:List Nat):List PF->Int->Int
 | [],m=>m
 | f::r,m=>wrF (seen++[f.letter]) r (if f.letter∈seen then zz_ f.place m else m)
theorem zta (a:List Nat) (ds:List PF) (f:PF) (m:Int):wrF a (ds++[f]) m=if f.letter∈a++ds.map PF.letter then zz_ f.place (wrF a ds m) else wrF a ds m:=by
 induction ds generalizing a m with
 | nil=>simp[wrF]
 | cons d r ih=>simp[wrF,ih]
def mixF (ds:List PF) (m:Int):Int:=ds.foldl (λ m f=>mix f.ty m) m
theorem zrl (ds:List PF) (f:PF) (m:Int):mixF (ds++[f]) m=mix f.ty (mixF ds m):=by simp[mixF]
def zkx (s:BA) (ds:List PF) (j:Nat):Except Nat (List PF×Nat):=
 if bt s j=41 then .ok (ds,j+1) else if bt s j=44 then v1_ ds (xn_ s (j+1)) else .error j
theorem zdc (s:BA) (ds:List PF) (i:Nat) (a:i<=s.size):v1_ ds (xn_ s i) =
 match ye_ s i with
 | .error k=>.error k
 | .ok (f,j)=>zkx s (ds++[f]) j:=by
 rw[zea s i a]
 cases ye_ s i with
 | error k=>rfl
 | ok r=>
  obtain⟨f,j⟩:=r;simp only[zkx];split
  ·rfl
  ·split
   ·rw[zdd]
   ·rfl
open Go.RowKit
def yb_:List Value:=[.int .u8 0,.slice none 0 0,.string ⟨#[]⟩,.int .i64 0,.int .i64 0]
def x6_ (fv:Value):List Value:=[.int .u8 114,fv,.string ⟨#[]⟩,.int .i64 (-1),.int .i64 0]
def RX (w:World) (X:Nat->Prop) (fv:Value) (Y:Nat->Prop):Nat->Prop:=λ g=>X g\/g=w.heap.size\/g=w.heap.size+1\/fv.ownBlock=some g\/Y g
structure RM (w:World) (X:Nat->Prop) (br bz B:Nat) (s:BA) (j:Nat) (bad:Bool) (wg MX:Int) (TS:List TR) (US:List (Nat×Nat)) (zs:List Value) (tv u tv2 u2 fv:Value) (n:Nat) (xs:List Value) (Y:Nat->Prop) (W:World):Prop where
 R:Rep W (RX w X fv Y) br bz B s j bad wg MX TS US zs tv2 u2
 b2:Blk W w.heap.size yb_ 44
 b3:Blk W (w.heap.size+1) (x6_ fv) 44
 own:W.ownsRow B 80 10 fv n xs
 sn:∀ g,fv.ownBlock=some g->w.heap.size+2<=g
 yn:∀ g,Y g->w.heap.size+2<=g/\fv.ownBlock≠some g
 st:Step w W br bz tv u tv2 u2
section
variable {w W W':World} {X Y:Nat->Prop} {br bz B:Nat} {s:BA} {j:Nat} {bad:Bool} {wg MX:Int} {TS:List TR} {US:List (Nat×Nat)} {zs:List Value} {tv u tv2 u2 fv:Value} {n:Nat} {xs:List Value}
theorem RM.call (M:RM w X br bz B s j bad wg MX TS US zs tv u tv2 u2 fv n xs Y W){j':Nat}{f:Bool}{g c:Int}{d:List TR}{e:List (Nat×Nat)}{a b:Value}
 (h:Rep W' (RX w X fv Y) br bz B s j' f g c d e zs a b) (st:Step W W' br bz tv2 u2 a b):RM w X br bz B s j' f g c d e zs tv u a b fv n xs Y W':=
 ⟨h,st.fr.blk M.b2 (M.R.offS (.inr (.inl rfl))),st.fr.blk M.b3 (M.R.offS (.inr (.inr (.inl rfl)))),za_ M.own st.fr (λ _ hg=>M.R.offS (.inr (.inr (.inr (.inl hg))))),M.sn,M.yn,M.st.trans st⟩
theorem RM.keep (M:RM w X br bz B s j bad wg MX TS US zs tv u tv2 u2 fv n xs Y W){a b:Value}(st:Step W W' br bz tv2 u2 a b){g t:Nat}{cs:List Value}(hg:Y g) (hb:Blk W g cs t):Blk W' g cs t:=
 st.fr.blk hb (M.R.offS (.inr (.inr (.inr (.inr hg)))))
theorem RM.still (M:RM w X br bz B s j bad wg MX TS US zs tv u tv2 u2 fv n xs Y W) (h:zd_ W W'):RM w X br bz B s j bad wg MX TS US zs tv u tv2 u2 fv n xs Y W':=M.call (M.R.still h) (Step.ofStill h)
theorem RM.inc (M:RM w X br bz B s j bad wg MX TS US zs tv u tv2 u2 fv n xs Y W) (h:j<s.size):RM w X br bz B s (j+1) bad wg MX TS US zs tv u tv2 u2 fv n xs Y (W.setCell ⟨br,1,none⟩ (.int .i64 ((j:Int)+1))):=M.call (M.R.inc h).1 (M.R.inc h).2
theorem RM.o (M:RM w X br bz B s j bad wg MX TS US zs tv u tv2 u2 fv n xs Y W) (a:Fr W W' Y):RM w X br bz B s j bad wg MX TS US zs tv u tv2 u2 fv n xs (λ g=>Y g\/(W.heap.size<=g/\g<W'.heap.size)) W':=by
 have c:=M.b3.lt;have b:Fr W W' (RX w X fv Y):=a.mono (λ _ _ h=>.inr (.inr (.inr (.inr h))));refine⟨(M.R.o b).fewer (λ g hg=>?_),a.blk M.b2 (λ h=>by have:=M.yn _ h;omega),a.blk M.b3 (λ h=>by have:=M.yn _ h;omega),za_ M.own a (λ g hg h=>(M.yn g h).2 hg),M.sn,λ g hg=>?_,M.st.o a (λ g hg=>by have:=M.yn g hg;omega)⟩
 ·rcases hg with h|h|h|h|h|h
  ·exact .inl (.inl h)
  ·exact .inl (.inr (.inl h))
  ·exact .inl (.inr (.inr (.inl h)))
  ·exact .inl (.inr (.inr (.inr (.inl h))))
  ·exact .inl (.inr (.inr (.inr (.inr h))))
  ·exact .inr h
 ·rcases hg with h|h
  ·exact M.yn g h
  ·exact⟨by omega,λ e=>by have:=M.own.lt g e;omega⟩
theorem RM.less (M:RM w X br bz B s j bad wg MX TS US zs tv u tv2 u2 fv n xs Y W){Z:Nat->Prop}(a:∀ g,Z g->Y g):RM w X br bz B s j bad wg MX TS US zs tv u tv2 u2 fv n xs Z W:=
 ⟨M.R.fewer (λ g hg=>by
  rcases hg with h|h|h|h|h
  ·exact .inl h
  ·exact .inr (.inl h)
  ·exact .inr (.inr (.inl h))
  ·exact .inr (.inr (.inr (.inl h)))
  ·exact .inr (.inr (.inr (.inr (a g h))))),M.b2,M.b3,M.own,M.sn,λ g hg=>M.yn g (a g hg),M.st⟩
theorem RM.alloc (M:RM w X br bz B s j bad wg MX TS US zs tv u tv2 u2 fv n xs Y W) (o:Obj):RM w X br bz B s j bad wg MX TS US zs tv u tv2 u2 fv n xs Y (W.alloc o):=(M.o ((Fr.refl W Y).alloc o)).less (λ _ h=>.inl h)
theorem RM.mine (M:RM w X br bz B s j bad wg MX TS US zs tv u tv2 u2 fv n xs (λ _=>False) W) (o:Obj):RM w X br bz B s j bad wg MX TS US zs tv u tv2 u2 fv n xs (λ g=>g=W.heap.size) (W.alloc o):=
 (M.o ((Fr.refl W _).alloc o)).less (λ g h=>.inr ⟨by omega,by simp;omega⟩)
theorem RM.put (M:RM w X br bz B s j bad wg MX TS US zs tv u tv2 u2 fv n xs Y W) (g o:Nat) (v:Value) (hg:Y g):RM w X br bz B s j bad wg MX TS US zs tv u tv2 u2 fv n xs Y (W.setCell ⟨g,o,none⟩ v):=
 (M.o ((Fr.refl W Y).setCell ⟨g,o,none⟩ v (λ _=>hg))).less (λ _ h=>.inl h)
theorem RM.grow (M:RM w X br bz B s j bad wg MX TS US zs tv u tv2 u2 fv n xs Y W){b:Obj}{c:World}{ys:List Value}(hg:(W.alloc b).grownBy c fv.ownBlock)
 (ho:c.ownsRow B 80 10 v5 (n+1) ys) (hl:v5.ownBlock=fv.ownBlock\/v5.ownBlock=some (W.alloc b).heap.size) :
 RM w X br bz B s j bad wg MX TS US zs tv u tv2 u2 v5 (n+1) ys (λ _=>False) (c.setCell ⟨w.heap.size+1,1,none⟩ v5):=by
 have d:Fr W c (λ g=>fv.ownBlock=some g):=Fr.grown ((Fr.refl W _).alloc b) hg (λ k e _=>e);have l2:=M.b2.lt;have A:=M.b3.lt
 have h:∀ g,v5.ownBlock=some g->w.heap.size+2<=g/\(fv.ownBlock=some g\/W.heap.size<=g):=λ g a=>by
  rcases hl with e|e
  ·exact⟨M.sn g (e▸a),.inl (e▸a)⟩
  ·rw[e] at a;simp only[ag_] at a
   have:(W.alloc b).heap.size=W.heap.size+1:=by simp
   exact⟨by omega,.inr (by omega)⟩
 have r:=d.blk M.b2 (λ e=>by have:=M.sn _ e;omega);have v:=d.blk M.b3 (λ e=>by have:=M.sn _ e;omega);have f:Fr c (c.setCell ⟨w.heap.size+1,1,none⟩ v5) (λ g=>g=w.heap.size+1):=(Fr.refl c (λ g=>g=w.heap.size+1)).setCell ⟨w.heap.size+1,1,none⟩ v5 (λ _=>rfl);have t:=f.blk r (by omega);have x:Blk (c.setCell ⟨w.heap.size+1,1,none⟩ v5) (w.heap.size+1) (x6_ v5) 44:=v.set 1 v5;have m:=za_ ho f (λ g a e=>by have:=h g a;omega);have y:Fr W (c.setCell ⟨w.heap.size+1,1,none⟩ v5) (RX w X fv Y):=(d.mono (λ _ _ e=>.inr (.inr (.inr (.inl e))))).trans f (λ _ _ e=>.inr (.inr (.inl e)));have z:Fr W (c.setCell ⟨w.heap.size+1,1,none⟩ v5) (λ g=>fv.ownBlock=some g\/g=w.heap.size+1):=(d.mono (λ _ _ e=>.inl e)).trans f (λ _ _ e=>.inr e);refine⟨(M.R.o y).fewer (λ g a=>?_),t,x,m,λ g a=>(h g a).1,λ g a=>a.elim,M.st.o z (λ g a=>?_)⟩
 ·rcases a with e|e|e|e|e
  ·exact .inl (.inl e)
  ·exact .inl (.inr (.inl e))
  ·exact .inl (.inr (.inr (.inl e)))
  ·rcases(h g e).2 with q|q
   ·exact .inl (.inr (.inr (.inr (.inl q))))
   ·exact .inr ⟨q,(m.lt g e).2⟩
  ·exact e.elim
 ·rcases a with e|e
  ·have:=M.sn g e;omega
  ·omega
theorem RM.growCell (M:RM w X br bz B s j bad wg MX TS US zs tv u tv2 u2 fv n xs Y W){b:Obj}{a:World}(hg:(W.alloc b).grownBy a fv.ownBlock):a.cell? ⟨w.heap.size+1,1,none⟩=some fv/\a.frozen? ⟨w.heap.size+1,1,none⟩=false:=by
 have d:Fr W a (λ g=>fv.ownBlock=some g):=Fr.grown ((Fr.refl W _).alloc b) hg (λ k e _=>e);have c:=d.blk M.b3 (λ e=>by have:=M.sn _ e;omega);exact⟨c.cell 1,c.thaw 1⟩
end
def Fc (l num:Int) (h:Bool) (a:Int) (t:BA):List Value:=
 [.int .u8 l,.int .i64 num,.bool h,.int .i64 a,.string t,.int .u8 0,.int .i64 0,.string ⟨#[]⟩,.slice none 0 0,.slice none 0 0]
theorem ze2.any {w:World}{X:Nat->Prop}{br bz B:Nat}{s:BA}{zs:List Value}{tv u:Value}{w':World}(h:ze2 w X br bz B s i wr mx ts us zs tv u w') :
 ∃ j bad,Rep w' X br bz B s j bad wr mx ts us zs tv u/\Step w w' br bz tv u tv u/\H_ ((zi_ (bt s i)=true/\j=i+1/\bad=false)\/(zi_ (bt s i)=false/\j=i/\bad=true)):=by
 obtain⟨h1,a⟩:=h
 cases hs:zi_ (bt s i) with
 | true=>rw[if_pos hs] at h1;exact⟨_,_,h1,a,.inl ⟨rfl,rfl,rfl⟩⟩
 | false=>rw[if_neg (by rw[hs];decide)] at h1;exact⟨_,_,h1,a,.inr ⟨rfl,rfl,rfl⟩⟩
theorem zwd {w:World}{X:Nat->Prop}{br bz B:Nat}{s:BA}{bad:Bool}{zs:List Value}{tv u:Value}(R:Rep w X br bz B s i bad wr mx ts us zs tv u) :
 Calls prog 39 #[.pointer (some ⟨br,0,none⟩)] w λ e w'=>e=.returned (.int .u8 (pk s i bad))/\zd_ w w':=by
 have h1:=R.il;have a:=R.sl;exact zcs R.here R.sl (by simp only;omega)
def OutC (s:BA) (p j:Nat) (bad:Bool):Prop:=
 (bad=true/\ye_ s p=.error j)\/(bad=false/\zi_ (bt s p)=true/\bt s (p+1)=58/\j=p+2)
def OutD (s:BA) (p:Nat) (MX0:Int) (TS0:List TR) (US0:List (Nat×Nat)) (j:Nat) (bad:Bool) (MX:Int) (TS:List TR) (US:List (Nat×Nat)) (num:Int):Prop:=
 (bad=true/\ye_ s p=.error j)\/
 (bad=false/\zi_ (bt s p)=true/\bt s (p+1)=58/\∃ ty,pT s (p+2)=.ok (ty,j)/\MX=mix ty MX0/\TS=TS0++flat TS0.length ty/\US=US0++zr_ ty/\num=((TS0.length+(flat TS0.length ty).length-1:Nat):Int))
def OutE (s:BA) (p:Nat) (MX0:Int) (TS0:List TR) (US0:List (Nat×Nat)) (l:Nat) (j:Nat) (bad:Bool) (MX:Int) (TS:List TR) (US:List (Nat×Nat)) (num:Int) (h:Bool) (a:Int) (t:BA):Prop:=
 (bad=true/\ye_ s p=.error j)\/
 (bad=false/\∃ f,ye_ s p=.ok (f,j)/\f.letter=bt s p/\f.place=p/\l=bt s p/\MX=mix f.ty MX0/\TS=TS0++flat TS0.length f.ty/\US=US0++zr_ f.ty/\Fc (bt s p) num h a t=zno s f (TS0.length+(flat TS0.length f.ty).length-1))
theorem zt4 {s:BA}{j:Nat}{bad:Bool}(h:(zi_ (bt s p)=true/\j=p+1/\bad=false)\/(zi_ (bt s p)=false/\j=p/\bad=true)) (hb:bad=true):OutC s p j true:=by
 rcases h with⟨_,_,h⟩|⟨h1,rfl,_⟩
 ·rw[hb] at h;cases h
 ·exact .inl ⟨rfl,by unfold ye_;rw[if_neg (by rw[h1];decide)]⟩
theorem zq4 {s:BA}{j:Nat}{bad:Bool}(h:(zi_ (bt s p)=true/\j=p+1/\bad=false)\/(zi_ (bt s p)=false/\j=p/\bad=true)) (hb:bad=false) :
 (bt s j=58->OutC s p (j+1) false)/\(bt s j≠58->OutC s p j true):=by
 rcases h with⟨h1,rfl,_⟩|⟨_,_,h⟩
 ·exact⟨λ a=>.inr ⟨rfl,h1,a,rfl⟩,λ a=>.inl ⟨rfl,by unfold ye_;rw[if_pos h1,if_neg a]⟩⟩
 ·rw[hb] at h;cases h
theorem zt3 {s:BA}{j:Nat}{MX:Int}{TS:List TR}{US:List (Nat×Nat)}(h:OutC s p j true):OutD s p MX0 TS0 US0 j true MX TS US num:=by
 rcases h with h|⟨h,_⟩
 ·exact .inl h
 ·cases h
theorem zq3 {s:BA}{j:Nat}(h:OutC s p j false):j=p+2/\zi_ (bt s p)=true/\bt s (p+1)=58:=by
 rcases h with⟨h,_⟩|⟨_,h1,a,b⟩
 ·cases h
 ·exact⟨b,h1,a⟩
theorem zom {s:BA}{k:Nat}(h1:zi_ (bt s p)=true) (a:bt s (p+1)=58) (h:pT s (p+2)=.error k):ye_ s p=.error k:=by
 unfold ye_;rw[if_pos h1,if_pos a,h]
theorem zjt {s:BA}{j:Nat}(h1:zi_ (bt s p)=true) (a:bt s (p+1)=58) (h:pT s (p+2)=.ok (ty,j)) (b:bt s j≠61):ye_ s p=.ok (⟨bt s p,p,ty,none⟩,j):=by
 unfold ye_;rw[if_pos h1,if_pos a,h];simp only;rw[if_neg b]
theorem zl0 {s:BA}{j e:Nat}(h1:zi_ (bt s p)=true) (a:bt s (p+1)=58) (h:pT s (p+2)=.ok (ty,j)) (b:bt s j=61) (c:pD s (j+1) 0=some e):ye_ s p=.ok (⟨bt s p,p,ty,some (j+1,e)⟩,e):=by
 unfold ye_;rw[if_pos h1,if_pos a,h];simp only;rw[if_pos b,c]
theorem zlz {s:BA}{j:Nat}(h1:zi_ (bt s p)=true) (a:bt s (p+1)=58) (h:pT s (p+2)=.ok (ty,j)) (b:bt s j=61) (c:pD s (j+1) 0=none):ye_ s p=.error s.size:=by
 unfold ye_;rw[if_pos h1,if_pos a,h];simp only;rw[if_pos b,c]
def zje (s:BA) (i:Nat):Except Nat (List PF×Nat):=if bt s i=41 then .ok ([],i+1) else xn_ s i
def zmx (w:World) (X:Nat->Prop) (br bz B:Nat) (s:BA) (i:Nat) (wr mx:Int) (ts:List TR) (us:List (Nat×Nat)) (zs:List Value) (tv u:Value) (e:Ending) (w':World):Prop:=
 ∃ fv n xs tv' u',e=.returned (.agg (x6_ fv).toArray)/\Step w w' br bz tv u tv' u'/\w'.ownsRow B 80 10 fv n xs/\(∀ g,fv.ownBlock=some g->w.heap.size<=g/\tv'.ownBlock≠some g/\u'.ownBlock≠some g)/\
 match ys_ s i with
 | .ok (ds,j)=>n=ds.length/\xs=y3_ s ts.length ds/\Rep w' (λ g=>X g\/fv.ownBlock=some g) br bz B s j false (wrF [] ds wr) (mixF ds mx) (ts++yl_ ts.length (ds.map PF.ty)) (us++zs_ (ds.map PF.ty)) zs tv' u'
 | .error k=>∃ wr' mx' ts' us',Rep w' (λ g=>X g\/fv.ownBlock=some g) br bz B s k true wr' mx' ts' us' zs tv' u'
def znx (R_:Except Nat (List PF×Nat)) (w:World) (X:Nat->Prop) (br bz B:Nat) (s:BA) (i:Nat) (wr mx:Int) (ts:List TR) (us:List (Nat×Nat)) (zs:List Value) (tv u:Value) (m:Nat) (kv:Value) (W:World):Prop:=
 ∃ (kb:BA) (fv tv' u':Value),kv=.string kb/\kb.size<=300/\
  ((∃ (ds:List PF) (j:Nat),RM w X br bz B s j false (wrF [] ds wr) (mixF ds mx) (ts++yl_ ts.length (ds.map PF.ty)) (us++zs_ (ds.map PF.ty)) zs tv u tv' u' fv ds.length (y3_ s ts.length ds) (λ _=>False) W/\
   kb.data.toList.map UInt8.toNat=ds.map PF.letter/\i+ds.length<=j/\s.size+2-j<=m/\((ds=[]/\j=i/\R_=zje s i)\/(ds≠[]/\R_=zkx s ds j)))\/
   (∃ k n xs wg MX TS US,RM w X br bz B s k true wg MX TS US zs tv u tv' u' fv n xs (λ _=>False) W/\R_=.error k))
theorem zjr {s:BA}{f:PF}{j:Nat}(h:ye_ s p=.ok (f,j)):zi_ (bt s p)=true:=by
 unfold ye_ at h;split at h
 ·assumption
 ·cases h
theorem zzw {s:BA}{j:Nat}{bad:Bool}(h:pk s j bad=61):bad=false/\bt s j=61:=by
 cases bad with
 | true=>simp[pk] at h
 | false=>rw[zqt] at h;exact⟨rfl,by omega⟩
theorem Blk.still {w w':World}{b t:Nat}{cs:List Value}(h:Blk w b cs t) (a:zd_ w w'):Blk w' b cs t:=by
 obtain⟨n,rfl⟩:=a;exact h
theorem zoq {s:BA}{j:Nat}{bad:Bool}{MX:Int}{TS:List TR}{US:List (Nat×Nat)}(h:OutD s p MX0 TS0 US0 j bad MX TS US num) (hl:l=if zi_ (bt s p)=true then bt s p else 0) (f:pk s j bad≠61):OutE s p MX0 TS0 US0 l j bad MX TS US num false 0 ⟨#[]⟩:=by
 rcases h with h|⟨rfl,h1,a,ty,b,c,d,e,g⟩
 ·exact .inl h
 ·rw[zqt] at f;rw[if_pos h1] at hl;exact .inr ⟨rfl,_,zjt h1 a b (by omega),rfl,rfl,hl,c,d,e,by rw[g];rfl⟩
theorem zq1 {s:BA}{j:Nat}{MX:Int}{TS:List TR}{US:List (Nat×Nat)}(h:OutD s p MX0 TS0 US0 j false MX TS US num) (e:bt s j=61) (hd:pD s (j+1) 0=none) (b:Bool) (a:Int) (t:BA):OutE s p MX0 TS0 US0 l s.size true MX TS US num b a t:=by
 rcases h with⟨h,_⟩|⟨_,h1,c,ty,d,_⟩
 ·cases h
 ·exact .inl ⟨rfl,zlz h1 c d e hd⟩
theorem zq2 {s:BA}{j e:Nat}{MX:Int}{TS:List TR}{US:List (Nat×Nat)}(h:OutD s p MX0 TS0 US0 j false MX TS US num) (hl:l=if zi_ (bt s p)=true then bt s p else 0) (g:bt s j=61) (hd:pD s (j+1) 0=some e):OutE s p MX0 TS0 US0 l e false MX TS US num true ((j:Int)+1) (s.extract (j+1) e):=by
 rcases h with⟨h,_⟩|⟨_,h1,a,ty,b,c,d,f,k⟩
 ·cases h
 ·rw[if_pos h1] at hl;exact .inr ⟨rfl,_,zl0 h1 a b g hd,rfl,rfl,hl,c,d,f,by rw[k];rfl⟩
theorem ztp {q:Except Nat (List PF×Nat)}{w W:World}{X:Nat->Prop}{br bz B:Nat}{s:BA}{z b:Nat}{c D:Bool}{wg m MX a:Int}{TS:List TR}{US:List (Nat×Nat)}{zs:List Value}{tv u A C:Value}{t:BA}{h:Bool}(n:Nat)
 (L:q=v1_ ds (xn_ s p)) (y:p<=s.size) (hs:s.size<=300) (S:i+ds.length<=p) (k:kb.data.toList.map UInt8.toNat=ds.map PF.letter)
 (o:OutE s p (mixF ds mx) (ts++yl_ ts.length (ds.map PF.ty)) (us++zs_ (ds.map PF.ty)) l b false MX TS US num h a t)
 (P:m=if D=true then zz_ p (wrF [] ds wg) else wrF [] ds wg) (F:D=(decide (0<=plc kb l) && !c))
 (E:(zi_ (bt s p)=true/\z=p+1/\c=false)\/(zi_ (bt s p)=false/\z=p/\c=true))
 (M:RM w X br bz B s b false m MX TS US zs tv u A C v5 (ds.length+1) (y3_ s ts.length ds++Fc l num h a t) (λ _=>False) W) (hn:s.size+2-b<=n) :
 znx q w X br bz B s i wg mx ts us zs tv u n (.string (kb++⟨#[UInt8.ofNat l]⟩)) W:=by
 rcases o with⟨h0,_⟩|⟨_,f,g,hl,K,d,G,r,H,hc⟩
 ·cases h0
 ·have N:=zjr g
  have I:c=false:=by
   rcases E with⟨_,_,h⟩|⟨h,_⟩
   ·exact h
   ·rw[N] at h;cases h
  have R:=(x4_ y).1 f b g
  have J:l<256:=by rw[d];exact zf4 _ _
  have Q:wrF [] (ds++[f]) wg=m:=by
   rw[zta,P,F,I,K]
   have v:f.letter∈[]++ds.map PF.letter↔0<=plc kb l:=by rw[zb7,k,hl,d];simp
   by_cases e:0<=plc kb l
   ·rw[if_pos (v.2 e),if_pos (by simp[e])]
   ·rw[if_neg (λ x=>e (v.1 x)),if_neg (by simp[e])]
  have O:=congrArg List.length k;simp only[bf_,Array.length_toList] at O;have T:kb.size=kb.data.size:=rfl;refine⟨_,v5,A,C,rfl,?_,.inl ⟨ds++[f],b,?_,?_,?_,hn,.inr ⟨by simp,?_⟩⟩⟩
  ·rw[av_];have:(⟨#[UInt8.ofNat l]⟩:BA).size=1:=rfl;omega
  ·rw[Q,zrl,be_,ay_,a6_,zg8,zd9,zhs,<- bo_,<- bo_,ah_,aq_,ao_];rw[ah_] at r hc;rw[<- G,<- r,<- H,<- hc,<- d];exact M
  ·rw[zmd k J,be_,d,<- hl];rfl
  ·rw[ah_,aq_,ao_];omega
  ·rw[L,zdc s ds p y,g]
theorem zwx (h:kb.data.toList.map UInt8.toNat=ds.map PF.letter) (x:UInt8):(kb++⟨#[x]⟩:BA).size=ds.length+1:=by
 have a:=congrArg List.length h;simp only[bf_,Array.length_toList] at a;have b:kb.size=kb.data.size:=rfl;rw[av_];have:(⟨#[x]⟩:BA).size=1:=rfl;omega
theorem zv8 {c:Except Nat (List PF×Nat)}{w W:World}{X:Nat->Prop}{br bz B:Nat}{s:BA}{b:Nat}{wg q MX a:Int}{TS:List TR}{US:List (Nat×Nat)}{zs:List Value}{tv u d e:Value}{t:BA}{h:Bool}{m:Nat}{xs:List Value}(n:Nat)
 (k:c=v1_ ds (xn_ s p)) (g:p<=s.size) (f:(kb++⟨#[UInt8.ofNat l]⟩:BA).size<=300)
 (o:OutE s p MX0 TS0 US0 l b true MX TS US num h a t) (M:RM w X br bz B s b true q MX TS US zs tv u d e v5 m xs (λ _=>False) W) :
 znx c w X br bz B s i wg mx ts us zs tv u n (.string (kb++⟨#[UInt8.ofNat l]⟩)) W:=by
 rcases o with⟨_,he⟩|⟨h0,_⟩
 ·refine⟨_,v5,d,e,rfl,f,.inr ⟨b,_,_,_,_,_,_,M,?_⟩⟩;rw[k,zdc s ds p g,he]
 ·cases h0
end Go.Proofs.YtiifagiebikmdaaGreatDoor
