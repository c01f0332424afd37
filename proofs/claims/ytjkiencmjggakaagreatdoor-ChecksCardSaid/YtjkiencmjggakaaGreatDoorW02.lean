import Derived.Test.YtjkiencmjggakaaGreatDoorW01
import Derived.Deep.DeepCutAuto
set_option maxHeartbeats 16000000
set_option maxRecDepth 100000
set_option linter.defProp false
set_option linter.unusedSimpArgs false
open Go.Proofs.Tryz
namespace Go.Proofs.YtjkiencmjggakaaGreatDoor
open Go.RowKit
variable {i p l t:Nat}{mx wr num MX0:Int}{ts TS0:List TR}{us US0:List (Nat×Nat)}{ds:List PF}{R_:Except Nat (List PF×Nat)}{u3 v5:Value}{ty:PT}{kb:BA}
def QF{s:BA}(C:∀j,i<=j->j<=s.size->pj s j):Kk s i:=by
 intro w X br bz B wg mx ts us zs tv u R;have a:=R.sl;have start:=Vp R;replace start:H_ _:=start;replace C:H_ _:=C;obtain⟨a,T⟩:=y_ (pn w X br bz B s i wg mx ts us zs tv u);rw[<- T.o];go_in;go_wp2;go_loopg [4,5] (s.size+1) (λn kv a W=>Zu w X br bz B s i wg mx ts us zs tv u n kv a W);case atStart=>exact start
 case round=>
  obtain⟨ds,y,more,kb,sv,tv',u',rfl,rfl,f,E,K,M,hg,D,G⟩:=hrel;obtain⟨A,J,O,I,Q,b5⟩:=id M;replace M:H_ _:=M;obtain⟨a,sn,b,rfl⟩:=yG I.1;have U:i<=y:=M_;replace E:H_ _:=E;replace f:H_ _:=f;replace J:H_ _:=J;replace O:H_ _:=O;replace I:H_ _:=I;replace Q:H_ _:=Q;have c2:=A.here.c2;have o2:=A.offS (g:=w.heap.size) (.inr (.inl rfl));have S:=A.offS (g:=w.heap.size+1) (.inr (.inr (.inl rfl)));replace o2:H_ _:=o2;replace S:H_ _:=S;cases more with
  |false=>
   have z:=G rfl;replace z:H_ _:=z;go_wp2_with (first
    |(go_at_call 37;apply(yY 41 A rfl D_).mono;rintro e r ⟨rfl,L,H⟩;have F:=H.fr.bl O S;have d:=H.fr.bl J o2;have d3:=F.c0;have e3:=F.c1;have d2:=d.c0;have e2:=d.c1;have f2:=d.th 0;have g2:=d.th 1))
   have q0:((r.setCell ⟨w.heap.size,0,none⟩ (.int .u8 40)).setCell ⟨w.heap.size,1,none⟩ (.slice a sn b)).cell? ⟨w.heap.size,0,none⟩=some (.int .u8 40):=((d.set 0 (.int .u8 40)).set 1 (.slice a sn b)).cell 0;have q1:((r.setCell ⟨w.heap.size,0,none⟩ (.int .u8 40)).setCell ⟨w.heap.size,1,none⟩ (.slice a sn b)).cell? ⟨w.heap.size,1,none⟩=some (.slice a sn b):=((d.set 0 (.int .u8 40)).set 1 (.slice a sn b)).cell 1;have V:Fr r ((r.setCell ⟨w.heap.size,0,none⟩ (.int .u8 40)).setCell ⟨w.heap.size,1,none⟩ (.slice a sn b)) (λg=>g=w.heap.size):=V_ r w.heap.size 0 1 _ _;generalize (r.setCell ⟨w.heap.size,0,none⟩ (.int .u8 40)).setCell ⟨w.heap.size,1,none⟩ (.slice a sn b)=w4 at *;refine bodyPost_ret (v:=.agg #[.int .u8 40,.slice a sn b]) (by simp[results,results63,go_sem,q0,q1]) rfl ?_;rw[T.o];exact WU R z L b5 H I Q V
  |true=>
   have z:=D rfl;have G:=A.il;have D:=tg s y G;have L:=C.o y U G;have c1:=A.here.c1;cases hp:pT s y with
   |error k=>
    rw[hp]at D;rw[D]at z;replace z:H_ (pA s i=.error k):=z;have U:H_ (Calls prog 39 #[P_ br] wr λe w'=>(∃v:Nat,e=.returned (I_ v))/\H_ (∃Z C e7 tv2 u2,Rep w' (λg=>X g\/g=w.heap.size\/g=w.heap.size+1\/(Value.slice a sn b).ownBlock=some g) br bz B s k true wg Z C e7 zs tv2 u2/\C.length+y<=k+(ts++zJ ts.length ds).length/\zC wr w' br bz tv' u' tv2 u2)):=by
     apply(L wr _ br bz B wg _ _ _ zs tv' u' A).mono;intro e w' C;unfold yy at C;rw[hp]at C;exact C
    go_wp2_with (first
     |(go_at_call 39;apply U.o.mono;rintro e r ⟨⟨v,rfl⟩,Z⟩;obtain⟨y,y,y,tv2,u2,y,e1,H⟩:=Z.o;have a6:=y.here.c2;have F:=H.fr.bl O S;have d:=H.fr.bl J o2;have d3:=F.c0;have e3:=F.c1;have d2:=d.c0;have e2:=d.c1;have f2:=d.th 0;have g2:=d.th 1))
    have q0:((r.setCell ⟨w.heap.size,0,none⟩ (.int .u8 40)).setCell ⟨w.heap.size,1,none⟩ (.slice a sn b)).cell? ⟨w.heap.size,0,none⟩=some (.int .u8 40):=((d.set 0 (.int .u8 40)).set 1 (.slice a sn b)).cell 0;have q1:((r.setCell ⟨w.heap.size,0,none⟩ (.int .u8 40)).setCell ⟨w.heap.size,1,none⟩ (.slice a sn b)).cell? ⟨w.heap.size,1,none⟩=some (.slice a sn b):=((d.set 0 (.int .u8 40)).set 1 (.slice a sn b)).cell 1;have V:Fr r ((r.setCell ⟨w.heap.size,0,none⟩ (.int .u8 40)).setCell ⟨w.heap.size,1,none⟩ (.slice a sn b)) (λg=>g=w.heap.size):=V_ r w.heap.size 0 1 _ _;generalize (r.setCell ⟨w.heap.size,0,none⟩ (.int .u8 40)).setCell ⟨w.heap.size,1,none⟩ (.slice a sn b)=w4 at *;refine bodyPost_ret (v:=.agg #[.int .u8 40,.slice a sn b]) (by simp[results,results63,go_sem,q0,q1]) rfl ?_;rw[T.o];exact WB R z y (by have:=E.o;rw[ai_]at e1;omega) b5 H I Q V
   |ok q=>
    obtain⟨t,j⟩:=q;rw[hp]at D;have d:=mg hp (ts++zJ ts.length ds).length;have F:=(xx G).1 t j hp;have J:=sR hp;have U:H_ (Calls prog 39 #[P_ br] wr λe w'=>e=.returned (z_ (((ts++zJ ts.length ds).length+(flat (ts++zJ ts.length ds).length t).length-1:Nat):Int))/\H_ (∃tv2 u2,Rep w' (λg=>X g\/g=w.heap.size\/g=w.heap.size+1\/(Value.slice a sn b).ownBlock=some g) br bz B s j false wg (mix t (jL [] ds mx)) ((ts++zJ ts.length ds)++flat (ts++zJ ts.length ds).length t) ((us++zY ds)++zZ t) zs tv2 u2/\zC wr w' br bz tv' u' tv2 u2)):=by
     apply(L wr _ br bz B wg _ _ _ zs tv' u' A).mono;intro e w' C;unfold yy at C;rw[hp]at C;exact C
    have a2:=XF (ts++zJ ts.length ds).length t;have a3:=mI (ts++zJ ts.length ds).length t;have C:∃N,N=(ts++zJ ts.length ds).length+(flat (ts++zJ ts.length ds).length t).length-1:=⟨_,rfl⟩;obtain⟨N,C⟩:=C;rw[<- C]at U;generalize I:mix t (jL [] ds mx)=MX at U;replace z:H_ _:=z;replace D:H_ _:=D;replace hp:H_ _:=hp;replace d:H_ _:=d;replace J:H_ _:=J;replace a2:H_ _:=a2;replace a3:H_ _:=a3;replace C:H_ _:=C;replace I:H_ _:=I;have d:kb.size<=300:=by
     have h1:=congrArg List.length f;simp only[bo_,Array.length_toList]at h1;have d:kb.size=kb.data.size:=rfl;omega
    have d:=λ(W:World) (g:Nat) (c:Int) (h:W.heap.size=g)=>cw W g c h;obtain⟨ti,a7,a8,a9,b4⟩:=info_parts Qz;have d:(jw ts.length ds).length<=300:=by rw[wu];omega
    by_cases L:bt s j=44
    .have a1:j<s.size:=zc M_;go_wp2_with (first
      |(go_at_call 39;apply U.o.mono;rintro e r ⟨rfl,Z⟩;obtain⟨tv2,u2,y,H⟩:=Z.o;have a6:=y.here.c2;have b7:=y.here.c3;have b8:=y.here.c6;have d7:=y.here.th 6;have d:=M.o.call y H;have e3:∀x,(r.alloc x).cell? ⟨w.heap.size+1,1,none⟩=some (.slice a sn b):=λx=>d.b3.ce 1 x;have e4:∀m x,((r.setCell ⟨br,6,none⟩ (z_ m)).alloc x).cell? ⟨w.heap.size+1,1,none⟩=some (.slice a sn b):=λm x=>(d.setMx m).b3.ce 1 x;have S:=d.ss.1;have T:=λm=>(d.setMx m).ss.1;replace S:H_ _:=S;replace T:H_ _:=T;replace d:H_ _:=d;obtain⟨g,cap,d8,e0,e6⟩:=ru y C a3 a2)
      |(go_at_call 86;apply(wH kb t.kind _ M_).mono;rintro e w' ⟨rfl,rfl⟩)
      |(at_builtin;refine wpList_append_own_at _ rfl _ _ 38 rfl B 3 ti (O_) 1 8 dX a7 a8 a9 b4 rfl D_ (.slice a sn b) (jw ts.length ds).length ((jw ts.length ds).map λ(n:Nat)=>Value.int .i64 (n:Int)) rfl ?hown _ 1 1 [I_ N] rfl rfl (zN _ #[I_ N] _ _ ?nn) (ints_oneCell .i64 [(N:Int)]) ?b1 ?b2 ?b3 ?_
        case hown=>first|exact World.ownsRow.alloc (World.ownsRow.alloc S _) _|exact World.ownsRow.alloc (World.ownsRow.alloc (T.o _) _) _
        case nn=>simp
        case b1=>unfold maxLen;omega
        case b2=>omega
        case b3=>have:=y.hB;simp;omega
        intro v5 w5 Q F a4 O
        first|have D:=d.o.grow F Q O|have D:=(d.o.setMx _).grow F Q O
        first|have V:=d.o.gC F|have V:=(d.o.setMx _).gC F
        obtain⟨e5,f5⟩:=V
        obtain⟨g5,b9,rfl⟩:=zm Q M_
        replace D:H_ _:=D)
      |(go_at_call 36;apply(zK D.o.R L).mono;rintro e w6 ⟨rfl,a5⟩;have A:=D.o.si a5;have b6:=A.R.here.c1;have d6:=A.R.here.th 1;replace A:H_ _:=A))
     all_goals
      go_roundg (s.size+1-(j+1));case measure=>omega
      case rel=>
       first
        |exact jQ (s.size+1-(j+1)) true (j+1) hp G f E K z C (uY f J I M_) (A.o.inc a1) l_ (.inl ⟨rfl,rfl,L⟩)
        |exact jQ (s.size+1-(j+1)) true (j+1) hp G f E K z C (fG f J I M_) (A.o.inc a1) l_ (.inl ⟨rfl,rfl,L⟩)
        |(have hk:t.kind=40:=by omega
          have q:=jQ (s.size+1-(j+1)) true (j+1) hp G f E K z C (uY f J I M_) (A.o.inc a1) l_ (.inl ⟨rfl,rfl,L⟩)
          rw[hk]at q
          exact q)
        |(have hk:t.kind=40:=by omega
          have q:=jQ (s.size+1-(j+1)) true (j+1) hp G f E K z C (fG f J I M_) (A.o.inc a1) l_ (.inl ⟨rfl,rfl,L⟩)
          rw[hk]at q
          exact q)
    .obtain⟨cj,d9⟩:=x_ (bt s j);have e8:((cj:Int)==44)=false:=by simp;omega
     have a0:H_ (bt s j≠44):=L;go_wp2_with (first
      |(go_at_call 39;apply U.o.mono;rintro e r ⟨rfl,Z⟩;obtain⟨tv2,u2,y,H⟩:=Z.o;have a6:=y.here.c2;have b7:=y.here.c3;have b8:=y.here.c6;have d7:=y.here.th 6;have d:=M.o.call y H;have e3:∀x,(r.alloc x).cell? ⟨w.heap.size+1,1,none⟩=some (.slice a sn b):=λx=>d.b3.ce 1 x;have e4:∀m x,((r.setCell ⟨br,6,none⟩ (z_ m)).alloc x).cell? ⟨w.heap.size+1,1,none⟩=some (.slice a sn b):=λm x=>(d.setMx m).b3.ce 1 x;have S:=d.ss.1;have T:=λm=>(d.setMx m).ss.1;replace S:H_ _:=S;replace T:H_ _:=T;replace d:H_ _:=d;obtain⟨g,cap,d8,e0,e6⟩:=ru y C a3 a2)
      |(go_at_call 86;apply(wH kb t.kind _ M_).mono;rintro e w' ⟨rfl,rfl⟩)
      |(at_builtin;refine wpList_append_own_at _ rfl _ _ 38 rfl B 3 ti (O_) 1 8 dX a7 a8 a9 b4 rfl D_ (.slice a sn b) (jw ts.length ds).length ((jw ts.length ds).map λ(n:Nat)=>Value.int .i64 (n:Int)) rfl ?hown _ 1 1 [I_ N] rfl rfl (zN _ #[I_ N] _ _ ?nn) (ints_oneCell .i64 [(N:Int)]) ?b1 ?b2 ?b3 ?_
        case hown=>first|exact World.ownsRow.alloc (World.ownsRow.alloc S _) _|exact World.ownsRow.alloc (World.ownsRow.alloc (T.o _) _) _
        case nn=>simp
        case b1=>unfold maxLen;omega
        case b2=>omega
        case b3=>have:=y.hB;simp;omega
        intro v5 w5 Q F a4 O
        first|have D:=d.o.grow F Q O|have D:=(d.o.setMx _).grow F Q O
        first|have V:=d.o.gC F|have V:=(d.o.setMx _).gC F
        obtain⟨e5,f5⟩:=V
        obtain⟨g5,b9,rfl⟩:=zm Q M_
        replace D:H_ _:=D)
      |(go_at_call 36;apply(zK D.o.R d9).mono;rintro e w6 ⟨rfl,a5⟩;have A:=D.o.si a5;replace A:H_ _:=A))
     all_goals
      go_roundg (s.size+1-j);case measure=>omega
      case rel=>
       first
        |exact jQ (s.size+1-j) false (j) hp G f E K z C (uY f J I M_) A l_ (.inr ⟨rfl,rfl,a0⟩)
        |exact jQ (s.size+1-j) false (j) hp G f E K z C (fG f J I M_) A l_ (.inr ⟨rfl,rfl,a0⟩)
        |(have hk:t.kind=40:=by omega
          have q:=jQ (s.size+1-j) false (j) hp G f E K z C (uY f J I M_) A l_ (.inr ⟨rfl,rfl,a0⟩)
          rw[hk]at q
          exact q)
        |(have hk:t.kind=40:=by omega
          have q:=jQ (s.size+1-j) false (j) hp G f E K z C (fG f J I M_) A l_ (.inr ⟨rfl,rfl,a0⟩)
          rw[hk]at q
          exact q)
def Kr(s:BA)(n:Nat):∀i,i<=s.size->s.size-i<=n->pj s i:=by
 induction n with
 |zero=>
  intro i hi hn;have hb:bt s i=0:=kK M_;exact Zd (by rw[hb];decide) M_ M_ M_
 |succ n ih=>
  intro i hi hn;by_cases h1:zu (bt s i)=true
  .exact VM h1
  .by_cases a:bt s i=91\/bt s i=123
   .have:=zc (s:=s) (i:=i) M_;exact VP a (ih (i+1) M_ M_)
   .by_cases b:bt s i=40
    .have:=zc (s:=s) (i:=i) M_;exact Yt b (QF (λj c c=>ih j c M_))
    .by_cases c:65<=bt s i/\bt s i<=70
     .exact VU c
     .exact Zd h1 a b c
def VB{s:BA}(hi:i<=s.size):pj s i:=Kr s (s.size-i) i hi l_
def iN(c:Nat):decide (0<=plc ⟨#[40,91,123,60]⟩ c)=qa c:=by
 rw[Bool.eq_iff_iff];simp only[decide_eq_true_eq,kw,qa,au_,beq_iff_eq];simp;omega
def rZ(c:Nat):decide (0<=plc ⟨#[41,93,125,62]⟩ c)=jr c:=by
 rw[Bool.eq_iff_iff];simp only[decide_eq_true_eq,kw,jr,au_,beq_iff_eq];simp;omega
def mi{c:Nat}(h:qa c=true)(a:jr c=true):False:=by
 simp only[qa,jr,au_,beq_iff_eq]at h a;omega
def gS(w:World)(X:Nat->Prop)(br bz B:Nat)(s:BA)(i:Nat)(wr mx:Int)(ts:List TR)(us:List (Nat×Nat))(zs:List Value)(tv u:Value)(e:Ending)(w':World):Prop:=
 zC w w' br bz tv u tv u/\
 match pD s i 0 with
 |some k=>e=.returned (.string (s.extract i k))/\Rep w' X br bz B s k false wr mx ts us zs tv u
 |none=>e=.returned (.string ⟨#[]⟩)/\Rep w' X br bz B s s.size true wr mx ts us zs tv u
def bj(w:World)(X:Nat->Prop)(br bz B:Nat)(s:BA)(i:Nat)(wr mx:Int)(ts:List TR)(us:List (Nat×Nat))(zs:List Value)(tv u:Value)(n:Nat)(ov:Value)(W:World):Prop:=
 ∃k o:Nat,ov=I_ o/\pD s i 0=pD s k o/\i<=k/\o<=k/\Rep W X br bz B s k false wr mx ts us zs tv u/\zC w W br bz tv u tv u/\s.size-k<=n
def au{w:World}{X:Nat->Prop}{br bz B:Nat}{s:BA}{wg:Int}{zs:List Value}{tv u:Value}(R:Rep w X br bz B s i false wg mx ts us zs tv u):Calls prog 87 #[P_ br] w (gS w X br bz B s i wg mx ts us zs tv u):=by
 have a:=R.sl;have c1:=R.here.c1;have start:bj w X br bz B s i wg mx ts us zs tv u (s.size-i) (O_) w:=⟨i,0,rfl,rfl,l_,al_ _,R,zC.refl _ _ _ _ _,l_⟩;replace start:H_ _:=start;obtain⟨a,x⟩:=y_ (gS w X br bz B s i wg mx ts us zs tv u);rw[<- x.o];go_in;go_wp2;go_loopg [4] (s.size-i) (λn ov W=>bj w X br bz B s i wg mx ts us zs tv u n ov W);case atStart=>exact start
 case round=>
  obtain⟨k,o,rfl,r,a,a,a,z,hn⟩:=hrel;have b:=a.il;have c0:=a.here.c0;have c1:=a.here.c1;replace r:H_ _:=r;by_cases hk:k<s.size
  .have D:(k:Int)<(s.size:Int):=M_;obtain⟨c,hc⟩:=x_ (bt s k);have b:((s[k]'hk).toNat:Int)=(c:Int):=by rw[<- hc,vR s k hk]
   have b:=ZZ o hk;rw[hc,<- r.o]at b;replace hc:H_ _:=hc;have d:=a.here.th 1;by_cases m:o=0/\(c=44\/c=41)
   .rw[i_ m]at b;replace b:H_ (pD s i 0=some k):=b;have key:H_ (∀W,zq wr W->gS w X br bz B s i wg mx ts us zs tv u (.returned (.string (s.extract i k))) W):=by
     intro W g;refine⟨z.si g,?_⟩;rw[b.o];exact⟨rfl,a.si g⟩
    obtain⟨rfl,d⟩:=m;rcases d with rfl|rfl;all_goals
     go_wp2;go_quiet (fail);go_wp2;go_quiet (fail);go_wp2;go_quiet (fail);go_wp2;try go_ret
     rw[x.o];exact key.o _ (by first|exact zq.drewN _ _|exact(zq.drewN _ _).trans (zq.drewN _ _)|exact((zq.drewN _ _).trans (zq.drewN _ _)).trans (zq.drewN _ _))
   .rw[n_ m]at b;replace b:H_ _:=b;have y:H_ (∀(v:Nat) (W:World),v=jB c o->zq wr W->bj w X br bz B s i wg mx ts us zs tv u (s.size-(k+1)) (z_ (v:Int)) (W.setCell ⟨br,1,none⟩ (z_ ((k:Int)+1)))):=by
     intro v W A d;have f:=a.si d;exact⟨k+1,v,rfl,by rw[A];exact b,M_,by rw[A];unfold jB;split<;>(try split)<;>omega,(f.inc hk).1,(z.si d).trans (f.inc hk).2,l_⟩
    have A:H_ (qa c=true->∀W,zq wr W->bj w X br bz B s i wg mx ts us zs tv u (s.size-(k+1)) (z_ ((o:Int)+1)) (W.setCell ⟨br,1,none⟩ (z_ ((k:Int)+1)))):=λh W d=>y.o (o+1) W (by simp[jB,h]) d;have C:H_ (qa c=false->jr c=true->0<o->∀W,zq wr W->bj w X br bz B s i wg mx ts us zs tv u (s.size-(k+1)) (z_ ((o:Int)-1)) (W.setCell ⟨br,1,none⟩ (z_ ((k:Int)+1)))):=λh b v W d=>by
     have q:=y.o (o-1) W (by simp[jB,h,b]) d;rw[show((o-1:Nat):Int)=(o:Int)-1 by omega]at q;exact q
    have v:H_ (qa c=false->(jr c=false\/o=0)->∀W,zq wr W->bj w X br bz B s i wg mx ts us zs tv u (s.size-(k+1)) (z_ (o:Int)) (W.setCell ⟨br,1,none⟩ (z_ ((k:Int)+1)))):=λh b W d=>y.o o W (by rcases b with b|b<;>simp[jB,h,b]) d;have b:H_ (¬(o=0/\(c=44\/c=41))):=m;by_cases d:o=0
    .have y:((o:Int)==0)=true:=by simp;omega
     have m:(o:Int)<=0:=M_;replace d:H_ _:=d;have E:((c:Int)==44)=false:=by have:=b.o;have:=d.o;simp;omega
     have E:((c:Int)==41)=false:=by have:=b.o;have:=d.o;simp;omega
     cases ho:qa c<;>cases b:jr c
     case true.true=>exact(mi ho b).elim
     all_goals
      go_wp2;go_quiet (fail);go_wp2;go_quiet (fail);go_wp2_with (go_at_call 86;apply(wH _ c _ D_).mono;rintro e w' ⟨rfl,rfl⟩;first|rw[iN]|rw[rZ]);go_roundg (s.size-(k+1));case measure=>omega
      case rel=>first|exact A.o ho _ (by first|exact zq.drewN _ _|exact(zq.drewN _ _).trans (zq.drewN _ _)|exact((zq.drewN _ _).trans (zq.drewN _ _)).trans (zq.drewN _ _))|exact v.o ho (.inl b) _ (by first|exact zq.drewN _ _|exact(zq.drewN _ _).trans (zq.drewN _ _)|exact((zq.drewN _ _).trans (zq.drewN _ _)).trans (zq.drewN _ _))|exact v.o ho (.inr d) _ (by first|exact zq.drewN _ _|exact(zq.drewN _ _).trans (zq.drewN _ _)|exact((zq.drewN _ _).trans (zq.drewN _ _)).trans (zq.drewN _ _))
    .have m:(0:Int)<(o:Int):=M_;have d:H_ (0<o):=by show 0<o;omega
     have y:((o:Int)==0)=false:=by simp;omega
     have m:(o:Int)<=300:=M_;cases ho:qa c<;>cases b:jr c
     case true.true=>exact(mi ho b).elim
     all_goals
      go_wp2;go_quiet (fail);go_wp2;go_quiet (fail);go_wp2_with (go_at_call 86;apply(wH _ c _ D_).mono;rintro e w' ⟨rfl,rfl⟩;first|rw[iN]|rw[rZ]);go_roundg (s.size-(k+1));case measure=>omega
      case rel=>first|exact A.o ho _ (by first|exact zq.drewN _ _|exact(zq.drewN _ _).trans (zq.drewN _ _)|exact((zq.drewN _ _).trans (zq.drewN _ _)).trans (zq.drewN _ _))|exact C.o ho b d _ (by first|exact zq.drewN _ _|exact(zq.drewN _ _).trans (zq.drewN _ _)|exact((zq.drewN _ _).trans (zq.drewN _ _)).trans (zq.drewN _ _))|exact v.o ho (.inl b) _ (by first|exact zq.drewN _ _|exact(zq.drewN _ _).trans (zq.drewN _ _)|exact((zq.drewN _ _).trans (zq.drewN _ _)).trans (zq.drewN _ _))
  .have D:¬(k:Int)<(s.size:Int):=M_;have b:=a.here.th 2;have c2:=a.here.c2;go_wp2;go_quiet (fail);go_wp2;try go_ret
   rw[x.o];have g:=zq.drewN wr nq;have b:k=s.size:=M_;have f:=a.si g;refine⟨(z.si g).trans f.sp.2,?_⟩;rw[r.o,Jt M_];exact⟨rfl,by rw[<- b];exact f.sp.1⟩
def pg(w:World)(X:Nat->Prop)(br bz B:Nat)(s:BA)(i:Nat)(wr mx:Int)(ts:List TR)(us:List (Nat×Nat))(zs:List Value)(tv u:Value)(w':World):Prop:=
 (if zh (bt s i)=true then Rep w' X br bz B s (i+1) false wr mx ts us zs tv u else Rep w' X br bz B s i true wr mx ts us zs tv u)/\zC w w' br bz tv u tv u
def vB{w:World}{X:Nat->Prop}{br bz B:Nat}{s:BA}{zs:List Value}{tv u:Value}(R:Rep w X br bz B s i false wr mx ts us zs tv u):Calls prog 85 #[P_ br] w λe w'=>e=.returned (.int .u8 ((if zh (bt s i)=true then bt s i else 0:Nat):Int))/\pg w X br bz B s i wr mx ts us zs tv u w':=by
 have h1:=R.il;have a:=R.sl;apply(Ya R.here R.sl (by simp only;omega)).mono;rintro e w' ⟨rfl,ha,hf⟩;unfold pg;unfold RV.small at ha;unfold RV.smallR;simp only[sF]at ha⊢;by_cases hb:zh (bt s i)=true
 .have a:97<=(bt s i:Int)/\(bt s i:Int)<=122:=by simp only[zh,ax_,decide_eq_true_eq]at hb;omega
  rw[i_ a]at ha⊢;rw[i_ hb,i_ hb];exact⟨rfl,R.move hf ha M_ (zc (xy hb))⟩
 .have a:¬(97<=(bt s i:Int)/\(bt s i:Int)<=122):=by simp only[zh,ax_,decide_eq_true_eq]at hb;omega
  rw[n_ a]at ha⊢;rw[n_ hb,n_ hb];exact⟨rfl,R.move hf ha M_ h1⟩
def zX(a:Int)(m:Int):Int:=if m<0\/a<m then a else m
def QB(w:World)(X:Nat->Prop)(br bz B:Nat)(s:BA)(i:Nat)(bad:Bool)(wr mx:Int)(ts:List TR)(us:List (Nat×Nat))(zs:List Value)(tv u:Value)(p:Int)(w':World):Prop:=
 Rep w' X br bz B s i bad (zX p wr) mx ts us zs tv u/\zC w w' br bz tv u tv u
def jS{w:World}{X:Nat->Prop}{br bz B:Nat}{s:BA}{bad:Bool}{zs:List Value}{tv u:Value}{p:Int}(R:Rep w X br bz B s i bad wr mx ts us zs tv u):Calls prog 20 #[P_ br,z_ p] w λe w'=>e=.returned (.tuple #[])/\QB w X br bz B s i bad wr mx ts us zs tv u p w':=by
 apply(Yp R.here).mono;rintro e w' ⟨rfl,ha,hf⟩;refine⟨rfl,?_⟩;refine R.move hf ?_ l_ R.il;unfold RV.wrong at ha;unfold zX;simp only at ha;split at ha
 .rename_i h;rw[i_ h];exact ha
 .rename_i h;rw[n_ h];exact ha
def sU{w:World}{X:Nat->Prop}{br bz B:Nat}{s:BA}{zs:List Value}{tv u:Value}(R:Rep w X br bz B s i true wr mx ts us zs tv u):Calls prog 36 #[P_ br] w λe w'=>e=.returned (.int .u8 0)/\zq w w':=by
 have h1:=R.il;have a:=R.sl;apply(wy R.here R.sl (by simp only;omega)).mono;rintro e w' ⟨rfl,hw⟩;exact⟨by simp[pk],hw⟩
def tE(s:BA)(f:PF)(num:Nat):List Value:=
 [U_ f.letter,I_ num,.bool f.dflt.isSome,z_ ((f.dflt.map Prod.fst).getD 0:Nat),.string (match f.dflt with|none=>⟨#[]⟩|some (a,b)=>s.extract a b),
  .int .u8 0,O_,.string ⟨#[]⟩,L_,L_]
def yo(s:BA)(b:Nat)(ds:List PF):List Value:=(List.zipWith (tE s) ds (jw b (ds.map PF.ty))).flatten
def cR(s:BA)(b:Nat)(ds:List PF)(f:PF):yo s b (ds++[f])=yo s b ds++tE s f (b+(zJ b (ds.map PF.ty)).length+(flat (b+(zJ b (ds.map PF.ty)).length) f.ty).length-1):=by
 unfold yo;rw[bj_];simp only[aw_,bd_];rw[lN,List.zipWith_append (by rw[wu,bo_]),List.flatten_append];simp
def wrF(seen:List Nat):List PF->Int->Int
 | [],m=>m
 |f::r,m=>wrF (seen++[f.letter]) r (if f.letter∈seen then zX f.place m else m)
def Va(a:List Nat)(ds:List PF)(f:PF)(m:Int):wrF a (ds++[f]) m=if f.letter∈a++ds.map PF.letter then zX f.place (wrF a ds m) else wrF a ds m:=by
 induction ds generalizing a m with
 |nil=>simp[wrF]
 |cons d r ih=>simp[wrF,ih]
def qM(ds:List PF)(m:Int):Int:=ds.foldl (λm f=>mix f.ty m) m
def Xy(ds:List PF)(f:PF)(m:Int):qM (ds++[f]) m=mix f.ty (qM ds m):=by simp[qM]
def bI(s:BA)(ds:List PF)(j:Nat):Except Nat (List PF×Nat):=
 if bt s j=41 then .ok (ds,j+1) else if bt s j=44 then vj ds (yI s (j+1)) else .error j
def gh(s:BA)(ds:List PF)(i:Nat)(hi:i<=s.size):vj ds (yI s i) =
 match zH s i with
 | .error k=>.error k
 | .ok (f,j)=>bI s (ds++[f]) j:=by
 rw[fh s i hi];cases zH s i with
 |error k=>rfl
 |ok r=>
  obtain⟨f,j⟩:=r;simp only[bI];split
  .rfl
  .split
   .rw[gn]
   .rfl
def zy{p:Prop}(h:p):H_ p:=h
def zR:List Value:=[.int .u8 0,L_,.string ⟨#[]⟩,O_,O_]
def xr(fv:Value):List Value:=[.int .u8 114,fv,.string ⟨#[]⟩,z_ (-1),O_]
def RX(w:World)(X:Nat->Prop)(fv:Value)(Y:Nat->Prop):Nat->Prop:=λg=>X g\/g=w.heap.size\/g=w.heap.size+1\/fv.ownBlock=some g\/Y g
structure RM(w:World)(X:Nat->Prop)(br bz B:Nat)(s:BA)(j:Nat)(bad:Bool)(wg MX:Int)(TS:List TR)(US:List (Nat×Nat))(zs:List Value)(tv u tv2 u2 fv:Value)(n:Nat)(xs:List Value)(Y:Nat->Prop)(W:World):Prop where
 R:Rep W (RX w X fv Y) br bz B s j bad wg MX TS US zs tv2 u2
 b2:Blk W w.heap.size zR 44
 b3:Blk W (w.heap.size+1) (xr fv) 44
 own:W.ownsRow B 113 10 fv n xs
 sn:∀g,fv.ownBlock=some g->w.heap.size+2<=g
 yn:∀g,Y g->w.heap.size+2<=g/\fv.ownBlock≠some g
 st:zC w W br bz tv u tv2 u2
section
variable {w W W':World} {X Y:Nat->Prop} {br bz B:Nat} {s:BA} {j:Nat} {bad:Bool} {wg MX:Int} {TS:List TR} {US:List (Nat×Nat)} {zs:List Value} {tv u tv2 u2 fv:Value} {n:Nat} {xs:List Value}
def RM.call(M:RM w X br bz B s j bad wg MX TS US zs tv u tv2 u2 fv n xs Y W){j':Nat}{e:Bool}{f b:Int}{c:List TR}{d:List (Nat×Nat)}{a:Value}(g:Rep W' (RX w X fv Y) br bz B s j' e f b c d zs a u3)(st:zC W W' br bz tv2 u2 a u3):RM w X br bz B s j' e f b c d zs tv u a u3 fv n xs Y W':=
 ⟨g,st.fr.bl M.b2 (M.R.offS (.inr (.inl rfl))),st.fr.bl M.b3 (M.R.offS (.inr (.inr (.inl rfl)))),zj M.own st.fr (λ_ hg=>M.R.offS (.inr (.inr (.inr (.inl hg))))),M.sn,M.yn,M.st.trans st⟩
def RM.ke(M:RM w X br bz B s j bad wg MX TS US zs tv u tv2 u2 fv n xs Y W){a:Value}(st:zC W W' br bz tv2 u2 a u3){g:Nat}{cs:List Value}(hg:Y g)(hb:Blk W g cs t):Blk W' g cs t:=
 st.fr.bl hb (M.R.offS (.inr (.inr (.inr (.inr hg)))))
def RM.si(M:RM w X br bz B s j bad wg MX TS US zs tv u tv2 u2 fv n xs Y W)(h:zq W W'):RM w X br bz B s j bad wg MX TS US zs tv u tv2 u2 fv n xs Y W':=M.call (M.R.si h) (zC.oS h)
def RM.inc(M:RM w X br bz B s j bad wg MX TS US zs tv u tv2 u2 fv n xs Y W)(h:j<s.size):RM w X br bz B s (j+1) bad wg MX TS US zs tv u tv2 u2 fv n xs Y (W.setCell ⟨br,1,none⟩ (z_ ((j:Int)+1))):=M.call (M.R.inc h).1 (M.R.inc h).2
def RM.o(M:RM w X br bz B s j bad wg MX TS US zs tv u tv2 u2 fv n xs Y W)(hf:Fr W W' Y):RM w X br bz B s j bad wg MX TS US zs tv u tv2 u2 fv n xs (λg=>Y g\/(W.heap.size<=g/\g<W'.heap.size)) W':=by
 have a:=M.b3.lt;have hX:Fr W W' (RX w X fv Y):=hf.mono (λ_ _ h=>.inr (.inr (.inr (.inr h))));refine⟨(M.R.o hX).fe (λg hg=>?_),hf.bl M.b2 (λh=>by have:=M.yn _ h;omega),hf.bl M.b3 (λh=>by have:=M.yn _ h;omega),zj M.own hf (λg hg h=>(M.yn g h).2 hg),M.sn,λg hg=>?_,M.st.o hf (λg hg=>by have:=M.yn g hg;omega)⟩
 .rcases hg with h|h|h|h|h|h
  .exact .inl (.inl h)
  .exact .inl (.inr (.inl h))
  .exact .inl (.inr (.inr (.inl h)))
  .exact .inl (.inr (.inr (.inr (.inl h))))
  .exact .inl (.inr (.inr (.inr (.inr h))))
  .exact .inr h
 .rcases hg with h|h
  .exact M.yn g h
  .exact⟨M_,λe=>by have:=M.own.lt g e;omega⟩
def RM.ls(M:RM w X br bz B s j bad wg MX TS US zs tv u tv2 u2 fv n xs Y W){Z:Nat->Prop}(a:∀g,Z g->Y g):RM w X br bz B s j bad wg MX TS US zs tv u tv2 u2 fv n xs Z W:=
 ⟨M.R.fe (λg hg=>by
  rcases hg with h|h|h|h|h
  .exact .inl h
  .exact .inr (.inl h)
  .exact .inr (.inr (.inl h))
  .exact .inr (.inr (.inr (.inl h)))
  .exact .inr (.inr (.inr (.inr (a g h))))),M.b2,M.b3,M.own,M.sn,λg hg=>M.yn g (a g hg),M.st⟩
def RM.alloc(M:RM w X br bz B s j bad wg MX TS US zs tv u tv2 u2 fv n xs Y W)(o:Obj):RM w X br bz B s j bad wg MX TS US zs tv u tv2 u2 fv n xs Y (W.alloc o):=(M.o ((A_ W Y).alloc o)).ls (λ_ h=>.inl h)
def RM.mine(M:RM w X br bz B s j bad wg MX TS US zs tv u tv2 u2 fv n xs N_ W)(o:Obj):RM w X br bz B s j bad wg MX TS US zs tv u tv2 u2 fv n xs (λg=>g=W.heap.size) (W.alloc o):=
 (M.o ((A_ W _).alloc o)).ls (λg h=>.inr ⟨M_,by simp;omega⟩)
def RM.put(M:RM w X br bz B s j bad wg MX TS US zs tv u tv2 u2 fv n xs Y W)(g o:Nat)(v:Value)(hg:Y g):RM w X br bz B s j bad wg MX TS US zs tv u tv2 u2 fv n xs Y (W.setCell ⟨g,o,none⟩ v):=
 (M.o ((A_ W Y).setCell ⟨g,o,none⟩ v (λ_=>hg))).ls (λ_ h=>.inl h)
def RM.grow(M:RM w X br bz B s j bad wg MX TS US zs tv u tv2 u2 fv n xs Y W){b:Obj}{c:World}{ys:List Value}(hg:(W.alloc b).grownBy c fv.ownBlock)(ho:c.ownsRow B 113 10 v5 (n+1) ys)(hl:v5.ownBlock=fv.ownBlock\/v5.ownBlock=some (W.alloc b).heap.size):RM w X br bz B s j bad wg MX TS US zs tv u tv2 u2 v5 (n+1) ys N_ (c.setCell ⟨w.heap.size+1,1,none⟩ v5):=by
 have d:Fr W c (λg=>fv.ownBlock=some g):=a_ ((A_ W _).alloc b) hg (λk e _=>e);have a:=M.b3.lt;have hv:∀g,v5.ownBlock=some g->w.heap.size+2<=g/\(fv.ownBlock=some g\/W.heap.size<=g):=λg a=>by
  rcases hl with e|e
  .exact⟨M.sn g (e▸a),.inl (e▸a)⟩
  .rw[e]at a;simp only[ah_]at a;have:(W.alloc b).heap.size=W.heap.size+1:=by simp
   exact⟨M_,.inr M_⟩
 have h:=d.bl M.b2 (λe=>by have:=M.sn _ e;omega);have r:=d.bl M.b3 (λe=>by have:=M.sn _ e;omega);have f:Fr c (c.setCell ⟨w.heap.size+1,1,none⟩ v5) (λg=>g=w.heap.size+1):=(A_ c (λg=>g=w.heap.size+1)).setCell ⟨w.heap.size+1,1,none⟩ v5 (λ_=>rfl);have m:=f.bl h M_;have v:Blk (c.setCell ⟨w.heap.size+1,1,none⟩ v5) (w.heap.size+1) (xr v5) 44:=r.set 1 v5;have h:=zj ho f (λg a e=>by have:=hv g a;omega);have r:Fr W (c.setCell ⟨w.heap.size+1,1,none⟩ v5) (RX w X fv Y):=(d.mono (λ_ _ e=>.inr (.inr (.inr (.inl e))))).trans f (λ_ _ e=>.inr (.inr (.inl e)));have x:Fr W (c.setCell ⟨w.heap.size+1,1,none⟩ v5) (λg=>fv.ownBlock=some g\/g=w.heap.size+1):=(d.mono (λ_ _ e=>.inl e)).trans f (λ_ _ e=>.inr e);refine⟨(M.R.o r).fe (λg a=>?_),m,v,h,λg a=>(hv g a).1,λg a=>a.elim,M.st.o x (λg a=>?_)⟩
 .rcases a with e|e|e|e|e
  .exact .inl (.inl e)
  .exact .inl (.inr (.inl e))
  .exact .inl (.inr (.inr (.inl e)))
  .rcases(hv g e).2 with q|q
   .exact .inl (.inr (.inr (.inr (.inl q))))
   .exact .inr ⟨q,(h.lt g e).2⟩
  .exact e.elim
 .rcases a with e|e
  .have:=M.sn g e;omega
  .omega
def RM.gC(M:RM w X br bz B s j bad wg MX TS US zs tv u tv2 u2 fv n xs Y W){b:Obj}{a:World}(hg:(W.alloc b).grownBy a fv.ownBlock):a.cell? ⟨w.heap.size+1,1,none⟩=some fv/\a.frozen? ⟨w.heap.size+1,1,none⟩=false:=by
 have c:Fr W a (λg=>fv.ownBlock=some g):=a_ ((A_ W _).alloc b) hg (λk e _=>e);have a:=c.bl M.b3 (λe=>by have:=M.sn _ e;omega);exact⟨a.cell 1,a.th 1⟩
end
def Fc(l num:Int)(h:Bool)(a:Int)(t:BA):List Value:=
 [.int .u8 l,z_ num,.bool h,z_ a,.string t,.int .u8 0,O_,.string ⟨#[]⟩,L_,L_]
def pg.any{w:World}{X:Nat->Prop}{br bz B:Nat}{s:BA}{zs:List Value}{tv u:Value}{w':World}(h:pg w X br bz B s i wr mx ts us zs tv u w'):∃j bad,Rep w' X br bz B s j bad wr mx ts us zs tv u/\zC w w' br bz tv u tv u/\H_ ((zh (bt s i)=true/\j=i+1/\bad=false)\/(zh (bt s i)=false/\j=i/\bad=true)):=by
 obtain⟨h1,a⟩:=h;cases hs:zh (bt s i) with
 |true=>rw[i_ hs]at h1;exact⟨_,_,h1,a,.inl ⟨rfl,rfl,rfl⟩⟩
 |false=>rw[n_ (by rw[hs];decide)]at h1;exact⟨_,_,h1,a,.inr ⟨rfl,rfl,rfl⟩⟩
def KW{w:World}{X:Nat->Prop}{br bz B:Nat}{s:BA}{bad:Bool}{zs:List Value}{tv u:Value}(R:Rep w X br bz B s i bad wr mx ts us zs tv u):Calls prog 36 #[P_ br] w λe w'=>e=.returned (.int .u8 (pk s i bad))/\zq w w':=by
 have h1:=R.il;have a:=R.sl;exact wy R.here R.sl (by simp only;omega)
def Vc(s:BA)(p j:Nat)(bad:Bool):Prop:=
 (bad=true/\zH s p=.error j)\/(bad=false/\zh (bt s p)=true/\bt s (p+1)=58/\j=p+2)
def QS(s:BA)(p:Nat)(MX0:Int)(TS0:List TR)(US0:List (Nat×Nat))(j:Nat)(bad:Bool)(MX:Int)(TS:List TR)(US:List (Nat×Nat))(num:Int):Prop:=
 (bad=true/\zH s p=.error j)\/
 (bad=false/\zh (bt s p)=true/\bt s (p+1)=58/\∃ty,pT s (p+2)=.ok (ty,j)/\MX=mix ty MX0/\TS=TS0++flat TS0.length ty/\US=US0++zZ ty/\num=((TS0.length+(flat TS0.length ty).length-1:Nat):Int))
def Vm(s:BA)(p:Nat)(MX0:Int)(TS0:List TR)(US0:List (Nat×Nat))(l:Nat)(j:Nat)(bad:Bool)(MX:Int)(TS:List TR)(US:List (Nat×Nat))(num:Int)(h:Bool)(a:Int)(t:BA):Prop:=
 (bad=true/\zH s p=.error j)\/
 (bad=false/\∃f,zH s p=.ok (f,j)/\f.letter=bt s p/\f.place=p/\l=bt s p/\MX=mix f.ty MX0/\TS=TS0++flat TS0.length f.ty/\US=US0++zZ f.ty/\Fc (bt s p) num h a t=tE s f (TS0.length+(flat TS0.length f.ty).length-1))
def Ji{s:BA}{j:Nat}{bad:Bool}(h:(zh (bt s p)=true/\j=p+1/\bad=false)\/(zh (bt s p)=false/\j=p/\bad=true))(hb:bad=true):Vc s p j true:=by
 rcases h with⟨_,_,h⟩|⟨h1,rfl,_⟩
 .rw[hb]at h;cases h
 .exact .inl ⟨rfl,by unfold zH;rw[n_ (by rw[h1];decide)]⟩
def YL{s:BA}{j:Nat}{bad:Bool}(h:(zh (bt s p)=true/\j=p+1/\bad=false)\/(zh (bt s p)=false/\j=p/\bad=true))(hb:bad=false):(bt s j=58->Vc s p (j+1) false)/\(bt s j≠58->Vc s p j true):=by
 rcases h with⟨h1,rfl,_⟩|⟨_,_,h⟩
 .exact⟨λa=>.inr ⟨rfl,h1,a,rfl⟩,λa=>.inl ⟨rfl,by unfold zH;rw[i_ h1,n_ a]⟩⟩
 .rw[hb]at h;cases h
def Js{s:BA}{j:Nat}{MX:Int}{TS:List TR}{US:List (Nat×Nat)}(h:Vc s p j true):QS s p MX0 TS0 US0 j true MX TS US num:=by
 rcases h with h|⟨h,_⟩
 .exact .inl h
 .cases h
def YC{s:BA}{j:Nat}(h:Vc s p j false):j=p+2/\zh (bt s p)=true/\bt s (p+1)=58:=by
 rcases h with⟨h,_⟩|⟨_,h1,a,b⟩
 .cases h
 .exact⟨b,h1,a⟩
def aZ{s:BA}{k:Nat}(h1:zh (bt s p)=true)(a:bt s (p+1)=58)(h:pT s (p+2)=.error k):zH s p=.error k:=by
 unfold zH;rw[i_ h1,i_ a,h]
def tk{s:BA}{j:Nat}(h1:zh (bt s p)=true)(a:bt s (p+1)=58)(h:pT s (p+2)=.ok (ty,j))(b:bt s j≠61):zH s p=.ok (⟨bt s p,p,ty,none⟩,j):=by
 unfold zH;rw[i_ h1,i_ a,h];simp only;rw[n_ b]
def sO{s:BA}{j e:Nat}(h1:zh (bt s p)=true)(a:bt s (p+1)=58)(h:pT s (p+2)=.ok (ty,j))(b:bt s j=61)(c:pD s (j+1) 0=some e):zH s p=.ok (⟨bt s p,p,ty,some (j+1,e)⟩,e):=by
 unfold zH;rw[i_ h1,i_ a,h];simp only;rw[i_ b,c]
def sA{s:BA}{j:Nat}(h1:zh (bt s p)=true)(a:bt s (p+1)=58)(h:pT s (p+2)=.ok (ty,j))(b:bt s j=61)(c:pD s (j+1) 0=none):zH s p=.error s.size:=by
 unfold zH;rw[i_ h1,i_ a,h];simp only;rw[i_ b,c]
def uS(s:BA)(i:Nat):Except Nat (List PF×Nat):=if bt s i=41 then .ok ([],i+1) else yI s i
def nJ(w:World)(X:Nat->Prop)(br bz B:Nat)(s:BA)(i:Nat)(wr mx:Int)(ts:List TR)(us:List (Nat×Nat))(zs:List Value)(tv u:Value)(e:Ending)(w':World):Prop:=
 ∃fv n xs tv' u',e=.returned (.agg (xr fv).toArray)/\zC w w' br bz tv u tv' u'/\w'.ownsRow B 113 10 fv n xs/\(∀g,fv.ownBlock=some g->w.heap.size<=g/\tv'.ownBlock≠some g/\u'.ownBlock≠some g)/\
 match yp s i with
 | .ok (ds,j)=>n=ds.length/\xs=yo s ts.length ds/\Rep w' (λg=>X g\/fv.ownBlock=some g) br bz B s j false (wrF [] ds wr) (qM ds mx) (ts++zJ ts.length (ds.map PF.ty)) (us++zY (ds.map PF.ty)) zs tv' u'
 | .error k=>∃wr' mx' ts' us',Rep w' (λg=>X g\/fv.ownBlock=some g) br bz B s k true wr' mx' ts' us' zs tv' u'
def nQ(R_:Except Nat (List PF×Nat))(w:World)(X:Nat->Prop)(br bz B:Nat)(s:BA)(i:Nat)(wr mx:Int)(ts:List TR)(us:List (Nat×Nat))(zs:List Value)(tv u:Value)(m:Nat)(kv:Value)(W:World):Prop:=
 ∃(kb:BA) (fv tv' u':Value),kv=.string kb/\kb.size<=300/\
  ((∃(ds:List PF) (j:Nat),RM w X br bz B s j false (wrF [] ds wr) (qM ds mx) (ts++zJ ts.length (ds.map PF.ty)) (us++zY (ds.map PF.ty)) zs tv u tv' u' fv ds.length (yo s ts.length ds) N_ W/\
   kb.data.toList.map UInt8.toNat=ds.map PF.letter/\i+ds.length<=j/\s.size+2-j<=m/\((ds=[]/\j=i/\R_=uS s i)\/(ds≠[]/\R_=bI s ds j)))\/
   (∃k n xs wg MX TS US,RM w X br bz B s k true wg MX TS US zs tv u tv' u' fv n xs N_ W/\R_=.error k))
def tj{s:BA}{f:PF}{j:Nat}(h:zH s p=.ok (f,j)):zh (bt s p)=true:=by
 unfold zH at h;split at h
 .assumption
 .cases h
def Ps{s:BA}{j:Nat}{bad:Bool}(h:pk s j bad=61):bad=false/\bt s j=61:=by
 cases bad with
 |true=>simp[pk]at h
 |false=>rw[sF]at h;exact⟨rfl,M_⟩
def Blk.si{w w':World}{b:Nat}{cs:List Value}(h:Blk w b cs t)(hw:zq w w'):Blk w' b cs t:=by
 obtain⟨n,rfl⟩:=hw;exact h
def aJ{s:BA}{j:Nat}{bad:Bool}{MX:Int}{TS:List TR}{US:List (Nat×Nat)}(h:QS s p MX0 TS0 US0 j bad MX TS US num)(hl:l=if zh (bt s p)=true then bt s p else 0)(f:pk s j bad≠61):Vm s p MX0 TS0 US0 l j bad MX TS US num false 0 ⟨#[]⟩:=by
 rcases h with h|⟨rfl,h1,a,ty,b,c,d,e,g⟩
 .exact .inl h
 .rw[sF]at f;rw[i_ h1]at hl;exact .inr ⟨rfl,_,tk h1 a b M_,rfl,rfl,hl,c,d,e,by rw[g];rfl⟩
def YU{s:BA}{j:Nat}{MX:Int}{TS:List TR}{US:List (Nat×Nat)}(h:QS s p MX0 TS0 US0 j false MX TS US num)(e:bt s j=61)(hd:pD s (j+1) 0=none)(b:Bool)(a:Int)(t:BA):Vm s p MX0 TS0 US0 l s.size true MX TS US num b a t:=by
 rcases h with⟨h,_⟩|⟨_,h1,c,ty,d,_⟩
 .cases h
 .exact .inl ⟨rfl,sA h1 c d e hd⟩
def YM{s:BA}{j e:Nat}{MX:Int}{TS:List TR}{US:List (Nat×Nat)}(h:QS s p MX0 TS0 US0 j false MX TS US num)(hl:l=if zh (bt s p)=true then bt s p else 0)(g:bt s j=61)(hd:pD s (j+1) 0=some e):Vm s p MX0 TS0 US0 l e false MX TS US num true ((j:Int)+1) (s.extract (j+1) e):=by
 rcases h with⟨h,_⟩|⟨_,h1,a,ty,b,c,d,f,k⟩
 .cases h
 .rw[i_ h1]at hl;exact .inr ⟨rfl,_,sO h1 a b g hd,rfl,rfl,hl,c,d,f,by rw[k];rfl⟩
def Jx{w W:World}{X:Nat->Prop}{br bz B:Nat}{s:BA}{d b:Nat}{c D:Bool}{wg g MX a:Int}{TS:List TR}{US:List (Nat×Nat)}{zs:List Value}{tv u m q:Value}{t:BA}{h:Bool}(n:Nat)(E:R_=vj ds (yI s p))(hp:p<=s.size)(hs:s.size<=300)(e:i+ds.length<=p)(e:kb.data.toList.map UInt8.toNat=ds.map PF.letter)(o:Vm s p (qM ds mx) (ts++zJ ts.length (ds.map PF.ty)) (us++zY (ds.map PF.ty)) l b false MX TS US num h a t)(G:g=if D=true then zX p (wrF [] ds wg) else wrF [] ds wg)(v:D=(decide (0<=plc kb l) && !c))(r:(zh (bt s p)=true/\d=p+1/\c=false)\/(zh (bt s p)=false/\d=p/\c=true))(M:RM w X br bz B s b false g MX TS US zs tv u m q v5 (ds.length+1) (yo s ts.length ds++Fc l num h a t) N_ W)(hn:s.size+2-b<=n):nQ R_ w X br bz B s i wg mx ts us zs tv u n (.string (kb++⟨#[UInt8.ofNat l]⟩)) W:=by
 rcases o with⟨h0,_⟩|⟨_,f,hf,hl,C,d,y,k,z,hc⟩
 .cases h0
 .have F:=tj hf;have A:c=false:=by
   rcases r with⟨_,_,h⟩|⟨h,_⟩
   .exact h
   .rw[F]at h;cases h
  have c:=(xU hp).1 f b hf;have r:l<256:=by rw[d];exact eQ _ _
  have F:wrF [] (ds++[f]) wg=g:=by
   rw[Va,G,v,A,C];have hm:f.letter∈[]++ds.map PF.letter↔0<=plc kb l:=by rw[kw,e,hl,d];simp
   by_cases c:0<=plc kb l
   .rw[i_ (hm.2 c),i_ (by simp[c])]
   .rw[n_ (λx=>c (hm.1 x)),n_ (by simp[c])]
  have c:=congrArg List.length e;simp only[bo_,Array.length_toList]at c;have c:kb.size=kb.data.size:=rfl;refine⟨_,v5,m,q,rfl,?_,.inl ⟨ds++[f],b,?_,?_,?_,hn,.inr ⟨by simp,?_⟩⟩⟩
  .rw[a8_];have:(⟨#[UInt8.ofNat l]⟩:BA).size=1:=rfl;omega
  .rw[F,Xy,bj_,aw_,bd_,mN,gE,cR,<- by_,<- by_,ai_,a6_,a7_];rw[ai_]at k hc;rw[<- y,<- k,<- z,<- hc,<- d];exact M
  .rw[tP e r,bj_,d,<- hl];rfl
  .rw[ai_,a6_,a7_];omega
  .rw[E,gh s ds p hp,hf]
def Wk(h:kb.data.toList.map UInt8.toNat=ds.map PF.letter)(x:UInt8):(kb++⟨#[x]⟩:BA).size=ds.length+1:=by
 have a:=congrArg List.length h;simp only[bo_,Array.length_toList]at a;have a:kb.size=kb.data.size:=rfl;rw[a8_];have:(⟨#[x]⟩:BA).size=1:=rfl;omega
def Ke{w W:World}{X:Nat->Prop}{br bz B:Nat}{s:BA}{b:Nat}{wg g MX a:Int}{TS:List TR}{US:List (Nat×Nat)}{zs:List Value}{tv u c d:Value}{t:BA}{h:Bool}{m:Nat}{xs:List Value}(n:Nat)(f:R_=vj ds (yI s p))(hp:p<=s.size)(e:(kb++⟨#[UInt8.ofNat l]⟩:BA).size<=300)(o:Vm s p MX0 TS0 US0 l b true MX TS US num h a t)(M:RM w X br bz B s b true g MX TS US zs tv u c d v5 m xs N_ W):nQ R_ w X br bz B s i wg mx ts us zs tv u n (.string (kb++⟨#[UInt8.ofNat l]⟩)) W:=by
 rcases o with⟨_,he⟩|⟨h0,_⟩
 .refine⟨_,v5,c,d,rfl,e,.inr ⟨b,_,_,_,_,_,_,M,?_⟩⟩;rw[f,gh s ds p hp,he]
 .cases h0
def YX{w:World}{X:Nat->Prop}{br bz B:Nat}{s:BA}{wg:Int}{zs:List Value}{tv u:Value}(R:Rep w X br bz B s i false wg mx ts us zs tv u):RM w X br bz B s i false wg mx ts us zs tv u tv u (L_) 0 [] N_ ((w.alloc (.cells zR.toArray 44)).alloc (.cells (xr (L_)).toArray 44)):=by
 have h1:=R.o (((A_ w X).alloc (.cells zR.toArray 44)).alloc (.cells (xr (L_)).toArray 44));refine⟨h1.fe (λg hg=>?_),(B_ w _ _).alloc _,?_,World.ownsRow_nil _ _ _ _,λg hg=>by simp[Value.ownBlock]at hg,λg hg=>hg.elim,⟨((A_ w _).alloc _).alloc _,.inl rfl,.inl rfl⟩⟩
 .rcases hg with hg|hg|hg|hg|hg
  .exact .inl hg
  .exact .inr (by simp;omega)
  .exact .inr (by simp;omega)
  .simp[Value.ownBlock]at hg
  .exact hg.elim
 .have:=B_ (w.alloc (.cells zR.toArray 44)) (xr (L_)).toArray 44;simpa using this
def kz{w W W':World}{X:Nat->Prop}{br bz B:Nat}{s:BA}{j:Nat}{bad:Bool}{wg MX:Int}{TS:List TR}{US:List (Nat×Nat)}{zs:List Value}{tv u tv2 u2 fv:Value}{n:Nat}{xs:List Value}(M:RM w X br bz B s j bad wg MX TS US zs tv u tv2 u2 fv n xs N_ W)(a:Fr W W' (λg=>g=w.heap.size))(h:match yp s i with
  | .ok (ds,j')=>j=j'/\bad=false/\n=ds.length/\xs=yo s ts.length ds/\wg=wrF [] ds wr/\MX=qM ds mx/\TS=ts++zJ ts.length (ds.map PF.ty)/\US=us++zY (ds.map PF.ty)
  | .error k=>j=k/\bad=true):nJ w X br bz B s i wr mx ts us zs tv u (.returned (.agg (xr fv).toArray)) W':=by
 have b:=(M.R.o (a.mono (λ_ _ e=>.inr (.inl e)))).fe (Y:=λg=>X g\/fv.ownBlock=some g) (λg hg=>by
  rcases hg with e|e
  .exact .inl (.inl e)
  .exact .inl (.inr (.inr (.inr (.inl e)))))
 refine⟨fv,n,xs,tv2,u2,rfl,M.st.o a (λg hg=>M_),zj M.own a (λg hg e=>by have:=M.sn g hg;omega),λg hg=>?_,?_⟩
 .have:=M.sn g hg;have a:=M.R.av g (.inr (.inr (.inr (.inl hg))));exact⟨M_,a.2.2.2.1,a.2.2.2.2⟩
 .cases hp:yp s i with
  |error k=>
   rw[hp]at h;obtain⟨rfl,rfl⟩:=h;exact⟨_,_,_,_,b⟩
  |ok q=>
   obtain⟨ds,j'⟩:=q;rw[hp]at h;obtain⟨rfl,rfl,rfl,rfl,rfl,rfl,rfl,rfl⟩:=h;exact⟨rfl,rfl,b⟩
def Fr.fi(w:World)(b:Nat)(a c d e f:Value):Fr w (((((w.setCell ⟨b,0,none⟩ a).setCell ⟨b,1,none⟩ c).setCell ⟨b,2,none⟩ d).setCell ⟨b,3,none⟩ e).setCell ⟨b,4,none⟩ f) (λg=>g=b):=
 (((((A_ w (λg=>g=b)).setCell ⟨b,0,none⟩ a (λ_=>rfl)).setCell ⟨b,1,none⟩ c (λ_=>rfl)).setCell ⟨b,2,none⟩ d (λ_=>rfl)).setCell ⟨b,3,none⟩ e (λ_=>rfl)).setCell ⟨b,4,none⟩ f (λ_=>rfl)
def J_:=@Fr.fi
def Blk.fi{w:World}{b:Nat}{u0 a u2 c:Value}(h:Blk w b [u0,a,u2,u3,c] t)(a c d e f:Value):Blk (((((w.setCell ⟨b,0,none⟩ a).setCell ⟨b,1,none⟩ c).setCell ⟨b,2,none⟩ d).setCell ⟨b,3,none⟩ e).setCell ⟨b,4,none⟩ f) b [a,c,d,e,f] t:=
 ((((h.set 0 a).set 1 c).set 2 d).set 3 e).set 4 f
def G_:=@Blk.fi
def FI(R_:Except Nat (List PF×Nat))(w:World)(X:Nat->Prop)(br bz B:Nat)(s:BA)(i:Nat)(wr mx:Int)(ts:List TR)(us:List (Nat×Nat))(zs:List Value)(tv u tv2 u2 fv:Value)(ds:List PF)(j:Nat)(W:World):Prop:=
 ∃p,RM w X br bz B s p false (wrF [] ds wr) (qM ds mx) (ts++zJ ts.length (ds.map PF.ty)) (us++zY (ds.map PF.ty)) zs tv u tv2 u2 fv ds.length (yo s ts.length ds) N_ W/\
  j<=p/\i+ds.length<=p/\R_=vj ds (yI s p)
def Ki{s:BA}{j:Nat}(h:(ds=[]/\j=i/\R_=uS s i)\/(ds≠[]/\R_=bI s ds j))(a:bt s j=41):R_=.ok (ds,j+1):=by
 rcases h with⟨rfl,rfl,rfl⟩|⟨_,rfl⟩
 .unfold uS;rw[i_ a]
 .unfold bI;rw[i_ a]
def Jy{s:BA}{j:Nat}(h:(ds=[]/\j=i/\R_=uS s i)\/(ds≠[]/\R_=bI s ds j))(a:bt s j≠41):(ds=[]->R_=vj ds (yI s j))/\(ds≠[]->bt s j=44->R_=vj ds (yI s (j+1)))/\(ds≠[]->bt s j≠44->R_=.error j):=by
 rcases h with⟨rfl,rfl,rfl⟩|⟨h,rfl⟩
 .exact⟨λ_=>by unfold uS;rw[n_ a,cn],λh=>(h rfl).elim,λh=>(h rfl).elim⟩
 .exact⟨λe=>(h e).elim,λ_ b=>by unfold bI;rw[n_ a,i_ b],λ_ b=>by unfold bI;rw[n_ a,n_ b]⟩
def VW:Tryz.prog.underlying 42=some (.slice 113):=K_
def Wp:(Tryz.prog.info? 113).map (λi=>(i.zero,i.size,i.bytes))=some (some (.agg (Fc 0 0 false 0 ⟨#[]⟩).toArray),10,128):=K_
def eA{w:World}{X:Nat->Prop}{br bz B:Nat}{s:BA}{wg:Int}{zs:List Value}{tv u:Value}(R:Rep w X br bz B s i false wg mx ts us zs tv u):Calls prog 60 #[P_ br] w (nJ w X br bz B s i wg mx ts us zs tv u):=by
 have f6:=R.sl;have a:=R.il;have a:=zy (YX R);obtain⟨b,Q_⟩:=y_ (nJ w X br bz B s i wg mx ts us zs tv u);rw[<- Q_.o];go_in;go_wp2_with (go_at_call 37;apply(yY 40 a.o.R rfl D_).mono;rintro e w1 ⟨rfl,z,x⟩);have start:nQ (yp s i) w X br bz B s (i+1) wg mx ts us zs tv u (s.size+3) (.string ⟨#[]⟩) w1:=by
  refine⟨⟨#[]⟩,L_,tv,u,rfl,D_,?_⟩;unfold yp;by_cases b:bt s i=40
  .rw[i_ b]at z⊢;refine .inl ⟨[],i+1,?_,rfl,by simp,M_,.inl ⟨rfl,rfl,rfl⟩⟩;have:=a.o.call z x;simpa[wrF,qM,zJ,zY,yo] using this
  .rw[n_ b]at z⊢;exact .inr ⟨i,_,_,_,_,_,_,a.o.call z x,rfl⟩
 replace start:=zy start;go_loopg [4] (s.size+3) (λm kv W=>nQ (yp s i) w X br bz B s (i+1) wg mx ts us zs tv u m kv W);case atStart=>exact start
 case round=>
  obtain⟨kb,fv,tv',u',rfl,a,a|hC⟩:=hrel
  .obtain⟨ds,j,M,a4,e8,hm,J⟩:=a;obtain⟨x,sn,y,rfl⟩:=yG M.own;have a:=M.R.il;have c2:=M.R.here.c2;have c1:=M.R.here.c1;have a5:ds=[]/\kb.size=0\/ds≠[]/\0<kb.size:=by
    have h1:=congrArg List.length a4;simp only[bo_,Array.length_toList]at h1;have a:kb.size=kb.data.size:=rfl;cases ds with
    |nil=>exact .inl ⟨rfl,by simp only[a7_]at h1;omega⟩
    |cons d r=>exact .inr ⟨by simp,by simp only[a6_]at h1;omega⟩
   replace a4:=zy a4;replace M:=zy M;replace J:=zy J;by_cases b:bt s j=41
   .have e9:j<s.size:=zc M_;have E:=zy (Ki J b);rcases a5 with⟨C,d6⟩|⟨C,d6⟩
    .have f0:decide ((0:Int)<(kb.size:Int))=false:=decide_eq_false M_;go_wp2_with (first
      |(go_at_call 36;apply(zK M.o.R b).mono;rintro e w2 ⟨rfl,a8⟩;have A:=M.o.si a8;have a:=A.R.here.c2;replace A:=zy A)
      |(go_at_call 37;apply(yY 41 A.o.R rfl D_).mono;rintro e H ⟨rfl,z,b9⟩;rw[i_ b]at z;have a:=A.o.call z b9;have Z:=a.b3.cell 0;have G:=a.b3.cell 1;have t2:=a.b3.cell 2;have t3:=a.b3.cell 3;have t4:=a.b3.cell 4;have r0:=a.b2.cell 0;have r1:=a.b2.cell 1;have T:=a.b2.cell 2;have U:=a.b2.cell 3;have V:=a.b2.cell 4;obtain⟨g0,g1,g2,g3,g4⟩:=a.b2.t5;simp only[xr,zR,aa_,ab_]at Z G t2 t3 t4 r0 r1 T U V;replace a:=zy a))
     have L:=G_ a.o.b2 (.int .u8 114) (.slice x sn y) (.string ⟨#[]⟩) (z_ (-1)) (O_);obtain⟨N,O,Q,q3,S⟩:=L.d5;have K:=J_ H w.heap.size (.int .u8 114) (.slice x sn y) (.string ⟨#[]⟩) (z_ (-1)) (O_);generalize (((((World.setCell H ⟨w.heap.size,0,none⟩ (.int .u8 114)).setCell ⟨w.heap.size,1,none⟩ (.slice x sn y)).setCell ⟨w.heap.size,2,none⟩ (.string ⟨#[]⟩)).setCell ⟨w.heap.size,3,none⟩ (z_ (-1))).setCell ⟨w.heap.size,4,none⟩ (O_))=W5 at *;refine bodyPost_ret (v:=.agg (xr (.slice x sn y)).toArray) (by simp[results,results60,go_sem,N,O,Q,q3,S,xr]) rfl ?_;rw[Q_.o];exact kz a K (by rw[E.o];exact⟨rfl,rfl,rfl,rfl,rfl,rfl,rfl,rfl⟩)
    .have f0:(0:Int)<(kb.size:Int):=M_;go_wp2_with (first
      |(go_at_call 36;apply(zK M.o.R b).mono;rintro e w2 ⟨rfl,a8⟩;have A:=M.o.si a8;replace M:=A;have c1:=A.R.here.c1;have f1:=A.R.here.th 1;have a:=A.inc e9;have Z:=a.b3.cell 0;have G:=a.b3.cell 1;have t2:=a.b3.cell 2;have t3:=a.b3.cell 3;have t4:=a.b3.cell 4;have r0:=a.b2.cell 0;have r1:=a.b2.cell 1;have T:=a.b2.cell 2;have U:=a.b2.cell 3;have V:=a.b2.cell 4;obtain⟨g0,g1,g2,g3,g4⟩:=a.b2.t5;simp only[xr,zR,aa_,ab_]at Z G t2 t3 t4 r0 r1 T U V;replace a:=zy a;replace M:=zy M))
     have L:=G_ a.o.b2 (.int .u8 114) (.slice x sn y) (.string ⟨#[]⟩) (z_ (-1)) (O_);obtain⟨N,O,Q,q3,S⟩:=L.d5;have K:=J_ (w2.setCell ⟨br,1,none⟩ (z_ ((j:Int)+1))) w.heap.size (.int .u8 114) (.slice x sn y) (.string ⟨#[]⟩) (z_ (-1)) (O_);generalize (((((World.setCell (w2.setCell ⟨br,1,none⟩ (z_ ((j:Int)+1))) ⟨w.heap.size,0,none⟩ (.int .u8 114)).setCell ⟨w.heap.size,1,none⟩ (.slice x sn y)).setCell ⟨w.heap.size,2,none⟩ (.string ⟨#[]⟩)).setCell ⟨w.heap.size,3,none⟩ (z_ (-1))).setCell ⟨w.heap.size,4,none⟩ (O_))=W5 at *;refine bodyPost_ret (v:=.agg (xr (.slice x sn y)).toArray) (by simp[results,results60,go_sem,N,O,Q,q3,S,xr]) rfl ?_;rw[Q_.o];exact kz a K (by rw[E.o];exact⟨rfl,rfl,rfl,rfl,rfl,rfl,rfl,rfl⟩)
   .obtain⟨cj,F⟩:=x_ (bt s j);have I:=Jy J b;have f8:((cj:Int) != 41)=true:=by simp;omega
    have f7:((cj:Int)==41)=false:=by simp;omega
    replace I:=zy I;replace F:=zy F;replace a5:=zy a5;go_upto_if 27 with(go_at_call 36;apply(zK M.o.R F).mono;rintro e w2 ⟨rfl,a8⟩;have A:=zy (M.o.si a8));go_cut [] (λW=>FI (yp s i) w X br bz B s (i+1) wg mx ts us zs tv u tv' u' (.slice x sn y) ds j W);case first=>
     rcases a5.o with⟨C,d6⟩|⟨C,d6⟩
     .have f0:decide (0<kb.size)=false:=decide_eq_false M_;have hd:H_ (yp s i=vj ds (yI s j)):=I.o.1 C;go_wp2;go_meet;case rel=>exact⟨j,A,l_,e8,hd⟩
     .by_cases b7:bt s j=44
      .have e9:j<s.size:=zc M_;have hd:H_ (yp s i=vj ds (yI s (j+1))):=I.o.2.1 C b7;go_wp2_with (first
        |(go_at_call 36;apply(zK A.o.R F).mono;rintro e H ⟨rfl,d8⟩;have a:=zy (A.o.si d8))
        |(go_at_call 37;apply(yY 44 a.o.R rfl D_).mono;rintro e w4 ⟨rfl,z,e0⟩;rw[i_ b7]at z;have b:=a.o.call z e0;have f2:=b.R.here.c2;replace b:=zy b))
       go_meet;case rel=>exact⟨j+1,b,M_,M_,hd⟩
      .have hd:H_ (yp s i=.error j):=I.o.2.2 C b7;go_wp2_with (first
        |(go_at_call 36;apply(zK A.o.R F).mono;rintro e H ⟨rfl,d8⟩;have a:=zy (A.o.si d8))
        |(go_at_call 37;apply(yY 44 a.o.R rfl D_).mono;rintro e w4 ⟨rfl,z,e0⟩;rw[n_ b7]at z;have b:=a.o.call z e0;have f2:=b.R.here.c2;have Z:=b.b3.cell 0;have G:=b.b3.cell 1;have t2:=b.b3.cell 2;have t3:=b.b3.cell 3;have t4:=b.b3.cell 4;have r0:=b.b2.cell 0;have r1:=b.b2.cell 1;have T:=b.b2.cell 2;have U:=b.b2.cell 3;have V:=b.b2.cell 4;obtain⟨g0,g1,g2,g3,g4⟩:=b.b2.t5;simp only[xr,zR,aa_,ab_]at Z G t2 t3 t4 r0 r1 T U V;replace b:=zy b))
       have L:=G_ b.o.b2 (.int .u8 114) (.slice x sn y) (.string ⟨#[]⟩) (z_ (-1)) (O_);obtain⟨N,O,Q,q3,S⟩:=L.d5;have K:=J_ w4 w.heap.size (.int .u8 114) (.slice x sn y) (.string ⟨#[]⟩) (z_ (-1)) (O_);generalize (((((World.setCell w4 ⟨w.heap.size,0,none⟩ (.int .u8 114)).setCell ⟨w.heap.size,1,none⟩ (.slice x sn y)).setCell ⟨w.heap.size,2,none⟩ (.string ⟨#[]⟩)).setCell ⟨w.heap.size,3,none⟩ (z_ (-1))).setCell ⟨w.heap.size,4,none⟩ (O_))=W5 at *;refine bodyPost_ret (v:=.agg (xr (.slice x sn y)).toArray) (by simp[results,results60,go_sem,N,O,Q,q3,S,xr]) rfl ?_;rw[Q_.o];exact kz b K (by rw[hd.o];exact⟨rfl,rfl⟩)
    case rest=>
     obtain⟨p,M,A,f5,E⟩:=hcut;have d7:=M.R.il;have c1:=M.R.here.c1;obtain⟨l,hl⟩:∃l:Nat,H_ (l=if zh (bt s p)=true then bt s p else 0):=⟨_,rfl⟩;replace M:=zy M;replace E:=zy E;go_upto_region 15 with(go_at_call 85;apply(vB (M.o.mine (.cells (Fc 0 0 false 0 ⟨#[]⟩).toArray 113)).R).mono;rintro e H ⟨rfl,C⟩;rw[<- hl.o];obtain⟨j3,I,A,b9,h3⟩:=C.any;have a:=(M.o.mine (.cells (Fc 0 0 false 0 ⟨#[]⟩).toArray 113)).call A b9;have A:=(M.o.mine (.cells (Fc 0 0 false 0 ⟨#[]⟩).toArray 113)).ke b9 rfl (B_ wc _ _);have F:=A.cell 0;have J:=A.th 0;simp only[Fc,aa_]at F;replace a:=zy a;replace A:=zy A);have b:=a.o.put wc.heap.size 0 (U_ l) rfl;have C:Blk (H.setCell ⟨wc.heap.size,0,none⟩ (U_ l)) wc.heap.size (Fc l 0 false 0 ⟨#[]⟩) 113:=T_ A 0 (U_ l);generalize H.setCell ⟨wc.heap.size,0,none⟩ (U_ l)=W4 at *;generalize wc.heap.size=bf at *;have F:=C.cell 0;have c2:=b.R.here.c2;simp only[Fc,aa_]at F;replace b:=zy b;replace C:=zy C;go_cut [64] (λa W=>a=.bool (decide (0<=plc kb l) && !I)/\W=W4);case first=>
      cases a:decide (0<=plc kb l);all_goals
       go_wp2_with (go_at_call 86;apply(wH kb l _ M_).mono;rintro e w' ⟨rfl,rfl⟩;rw[a]);go_meet;case rel=>exact⟨by rw[a];rfl,rfl⟩
     case rest=>
      obtain⟨rfl,rfl⟩:=hcut;obtain⟨D,hD⟩:=e_ ((decide (0<=plc kb l) && !I));rw[<- hD];replace hD:=zy hD;go_upto_if 64 with fail;go_cut [] (λW=>∃e2,RM w X br bz B s j3 I e2 (qM ds mx) (ts++zJ ts.length (ds.map PF.ty)) (us++zY (ds.map PF.ty)) zs tv u tv' u' (.slice x sn y) ds.length (yo s ts.length ds) (λg=>g=bf) W/\Blk W bf (Fc l 0 false 0 ⟨#[]⟩) 113/\e2=if D=true then zX p (wrF [] ds wg) else wrF [] ds wg);case first=>
       cases D
       .go_wp2;go_meet;case rel=>exact⟨_,b,C,rfl⟩
       .go_wp2_with (go_at_call 20;apply(jS b.o.R).mono;rintro e w5 ⟨rfl,H,A⟩);go_meet;case rel=>exact⟨_,b.o.call H A,b.o.ke A rfl C,rfl⟩
      case rest=>
       obtain⟨e3,M5,J,d9⟩:=hcut;have F:=J.cell 0;simp only[Fc,aa_]at F;have A:=M5.alloc (.cells #[U_ l] 5);have H:=J.alloc (.cells #[U_ l] 5);have c2:=A.R.here.c2;have f4:=λ(W:World) (g:Nat) (c:Int) (h:W.heap.size=g)=>cw W g c h;revert d9 A H;refine h_ λd9 A H=>?_;go_upto_if 78 with fail;generalize wc.alloc (.cells #[U_ l] 5)=W6 at *;go_cut [] (λW=>∃J b5,RM w X br bz B s J b5 e3 (qM ds mx) (ts++zJ ts.length (ds.map PF.ty)) (us++zY (ds.map PF.ty)) zs tv u tv' u' (.slice x sn y) ds.length (yo s ts.length ds) (λg=>g=bf) W/\Blk W bf (Fc l 0 false 0 ⟨#[]⟩) 113/\Vc s p J b5);case first=>
        cases e5:I
        .subst e5;have C:=zy (YL h3 rfl);by_cases I:bt s j3=58
         .go_wp2_with (go_at_call 37;apply(yY 58 A.o.R rfl D_).mono;rintro e w7 ⟨rfl,z,b⟩;rw[i_ I]at z);go_meet;case rel=>exact⟨_,_,A.o.call z b,A.o.ke b rfl H,C.o.1 I⟩
         .go_wp2_with (go_at_call 37;apply(yY 58 A.o.R rfl D_).mono;rintro e w7 ⟨rfl,z,b⟩;rw[n_ I]at z);go_meet;case rel=>exact⟨_,_,A.o.call z b,A.o.ke b rfl H,C.o.2 I⟩
        .subst e5;have C:=zy (Ji h3 rfl);go_wp2;go_meet;case rel=>exact⟨_,_,A,H,C⟩
       case rest=>
        obtain⟨J,b5,z,I,oC⟩:=hcut;have c2:=z.R.here.c2;revert z I oC;refine h_ λz I oC=>?_;go_upto_if 85 with fail;go_cut [] (λW=>∃A a2 J a0 a1 e1 u5 num,RM w X br bz B s A a2 e3 J a0 a1 zs tv u e1 u5 (.slice x sn y) ds.length (yo s ts.length ds) (λg=>g=bf) W/\Blk W bf (Fc l num false 0 ⟨#[]⟩) 113/\QS s p (qM ds mx) (ts++zJ ts.length (ds.map PF.ty)) (us++zY (ds.map PF.ty)) A a2 J a0 a1 num);case first=>
         cases e6:b5
         .subst e6;obtain⟨b,a7,a3⟩:=YC oC;subst b;have hT:=zy (VB z.o.R.il _ _ _ _ _ _ _ _ _ _ _ _ z.o.R);cases hp:pT s (p+2) with
          |error k=>
           have f3:=zy (aZ a7 a3 hp);replace hp:=zy hp;go_wp2_with (go_at_call 39;apply hT.o.mono;intro e w8 a;unfold yy at a;rw[hp.o]at a;obtain⟨⟨v,rfl⟩,b,b,b,f9,u8,R8,b,b4⟩:=a;have H:=z.o.call R8 b4;have b:=z.o.ke b4 rfl I;have k1:=b.cell 1;have m1:=b.th 1;simp only[Fc,aa_,ab_]at k1;replace H:=zy H;replace b:=zy b);go_meet;case rel=>exact⟨_,_,_,_,_,_,_,_,H.o.put bf 1 _ rfl,T_ b 1 _,.inl ⟨rfl,f3⟩⟩
          |ok q=>
           obtain⟨ty,A⟩:=q;replace hp:=zy hp;replace a7:=zy a7;replace a3:=zy a3;go_wp2_with (go_at_call 39;apply hT.o.mono;intro e w8 a;unfold yy at a;rw[hp.o]at a;obtain⟨rfl,f9,u8,R8,b4⟩:=a;have H:=z.o.call R8 b4;have b:=z.o.ke b4 rfl I;have k1:=b.cell 1;have m1:=b.th 1;simp only[Fc,aa_,ab_]at k1;replace H:=zy H;replace b:=zy b);go_meet;case rel=>exact⟨_,_,_,_,_,_,_,_,H.o.put bf 1 _ rfl,T_ b 1 _,.inr ⟨rfl,a7,a3,ty,hp,rfl,rfl,rfl,by simp⟩⟩
         .subst e6;have b:=zy (Js (MX0:=qM ds mx) (MX:=qM ds mx) (TS0:=ts++zJ ts.length (ds.map PF.ty)) (TS:=ts++zJ ts.length (ds.map PF.ty)) (US0:=us++zY (ds.map PF.ty)) (US:=us++zY (ds.map PF.ty)) (num:=0) oC);go_wp2;go_meet;case rel=>exact⟨_,_,_,_,_,_,_,_,z,I,b⟩
        case rest=>
         obtain⟨A,a2,J,a0,a1,e1,u5,num,b,F9,oD⟩:=hcut;revert b F9 oD;refine h_ λb F9 oD=>?_;go_upto_if 91 with(go_at_call 36;apply(KW b.o.R).mono;rintro e z ⟨rfl,I⟩);have z:=b.o.si I;have H:=Blk.si F9 I;go_cut [] (λW=>∃j6 b6 h6 a6 t6,RM w X br bz B s j6 b6 e3 J a0 a1 zs tv u e1 u5 (.slice x sn y) ds.length (yo s ts.length ds) (λg=>g=bf) W/\Blk W bf (Fc l num h6 a6 t6) 113/\Vm s p (qM ds mx) (ts++zJ ts.length (ds.map PF.ty)) (us++zY (ds.map PF.ty)) l j6 b6 J a0 a1 num h6 a6 t6);case first=>
          by_cases b8:pk s A a2=61
          .obtain⟨b,e7⟩:=Ps b8;subst b;have I:A<s.size:=zc M_;have c1:=z.R.here.c1;have f1:=z.R.here.th 1;have J:=z.inc I;have b:=z.ke (z.R.inc I).2 rfl H;have k2:=b.cell 2;have I:=b.th 2;have k3:=b.cell 3;have I:=b.th 3;simp only[Fc,aa_,ab_]at k2 k3;have I:=(J.put bf 2 (.bool true) rfl).put bf 3 (z_ ((A:Int)+1)) rfl;have e4:=zy ((b.set 2 (.bool true)).set 3 (z_ ((A:Int)+1)));have hP:=zy (au I.R);replace I:=zy I;replace z:=zy z;replace H:=zy H;cases hd:pD s (A+1) 0 with
           |none=>
            have C:=zy (YU (l:=l) oD e7 hd true ((A:Int)+1) ⟨#[]⟩);replace hd:=zy hd;go_wp2_with (go_at_call 87;apply hP.o.mono;rintro e g5 ⟨a9,a⟩;rw[hd.o]at a;obtain⟨rfl,d2⟩:=a;have J:=I.o.call d2 a9;have b:=I.o.ke a9 rfl e4;have k4:=b.cell 4;have m4:=b.th 4;simp only[Fc,am_,an_,aa_,ab_]at k4;replace J:=zy J;replace b:=zy b);go_meet;case rel=>exact⟨_,_,_,_,_,J.o.put bf 4 _ rfl,T_ b 4 _,C⟩
           |some e=>
            have C:=zy (YM oD hl e7 hd);replace hd:=zy hd;go_wp2_with (go_at_call 87;apply hP.o.mono;rintro e' g5 ⟨a9,a⟩;rw[hd.o]at a;obtain⟨rfl,d2⟩:=a;have J:=I.o.call d2 a9;have b:=I.o.ke a9 rfl e4;have k4:=b.cell 4;have m4:=b.th 4;simp only[Fc,am_,an_,aa_,ab_]at k4;replace J:=zy J;replace b:=zy b);go_meet;case rel=>exact⟨_,_,_,_,_,J.o.put bf 4 _ rfl,T_ b 4 _,C⟩
          .have a:(pk s A a2==61)=false:=by simpa using b8
           have C:=zy (aJ oD hl b8);replace z:=zy z;replace H:=zy H;go_wp2;go_meet;case rel=>exact⟨_,_,_,_,_,z,H,C⟩
         case rest=>
          obtain⟨j6,b6,h6,a6,t6,b,a,A⟩:=hcut;have G:=b.b3.cell 1;have F:=a.cell 0;have k1:=a.cell 1;have k2:=a.cell 2;have k3:=a.cell 3;have k4:=a.cell 4;have z:=a.cell 5;have C:=a.cell 6;have H:=a.cell 7;have I:=a.cell 8;have J:=a.cell 9;simp only[Fc,xr,aa_,ab_]at G F k1 k2 k3 k4 z C H I J;obtain⟨ti,z,C,F,H⟩:=info_parts Wp;have I:ds.length<=300:=M_;have I:=b.R.hB;replace b:=zy b;replace A:=zy A;go_wp2_with (first
           |(at_builtin;go_must (refine wpList_append_own_at _ rfl _ _ 42 rfl B 113 ti _ 10 128 VW z C F H rfl D_ (.slice x sn y) ds.length (yo s ts.length ds) rfl ?hown _ 1 1 (Fc l num h6 a6 t6) rfl rfl (zN _ (Fc l num h6 a6 t6).toArray _ _ ?nn) ?one ?b1 ?b2 ?b3 ?_)
             case hown=>exact World.ownsRow.alloc b.o.own _
             case nn=>simp
             case one=>simp[Fc,Value.oneCell']
             case b1=>unfold maxLen;omega
             case b2=>omega
             case b3=>simp;omega
             intro v5 w5 C z H F
             have a:=b.o.grow z C F
             obtain⟨I,I⟩:=b.o.gC z
             obtain⟨b,b,rfl⟩:=zm C M_
             replace a:=zy a))
          have b:=a.o.R.il;cases b:b6
          .subst b;have z:p<j6:=by
            rcases A.o with⟨h,_⟩|⟨_,f,hf,_⟩
            .cases h
            .have:=(xU d7).1 f j6 hf;omega
           go_roundg (s.size+2-j6);case measure=>omega
           case rel=>exact Jx _ E d7 f6 f5 a4 A d9 hD h3 a l_
          .subst b;go_roundg 0;case measure=>omega
           case rel=>exact Ke _ E d7 (by rw[Wk a4.o];omega) A a
  .obtain⟨k,n,xs,e2,MX,TS,US,M,E⟩:=hC;obtain⟨x,sn,y,rfl⟩:=yG M.own;have c2:=M.R.here.c2;have Z:=M.b3.cell 0;have G:=M.b3.cell 1;have t2:=M.b3.cell 2;have t3:=M.b3.cell 3;have t4:=M.b3.cell 4;have r0:=M.b2.cell 0;have r1:=M.b2.cell 1;have T:=M.b2.cell 2;have U:=M.b2.cell 3;have V:=M.b2.cell 4;obtain⟨g0,g1,g2,g3,g4⟩:=M.b2.t5;simp only[xr,zR,aa_,ab_]at Z G t2 t3 t4 r0 r1 T U V;replace M:=zy M;replace E:=zy E;go_wp2;have L:=G_ M.o.b2 (.int .u8 114) (.slice x sn y) (.string ⟨#[]⟩) (z_ (-1)) (O_);obtain⟨N,O,Q,q3,S⟩:=L.d5;have K:=J_ wr w.heap.size (.int .u8 114) (.slice x sn y) (.string ⟨#[]⟩) (z_ (-1)) (O_);generalize (((((World.setCell wr ⟨w.heap.size,0,none⟩ (.int .u8 114)).setCell ⟨w.heap.size,1,none⟩ (.slice x sn y)).setCell ⟨w.heap.size,2,none⟩ (.string ⟨#[]⟩)).setCell ⟨w.heap.size,3,none⟩ (z_ (-1))).setCell ⟨w.heap.size,4,none⟩ (O_))=W5 at *;refine bodyPost_ret (v:=.agg (xr (.slice x sn y)).toArray) (by simp[results,results60,go_sem,N,O,Q,q3,S,xr]) rfl ?_;rw[Q_.o];exact kz M K (by rw[E.o];exact⟨rfl,rfl⟩)
end Go.Proofs.YtjkiencmjggakaaGreatDoor
