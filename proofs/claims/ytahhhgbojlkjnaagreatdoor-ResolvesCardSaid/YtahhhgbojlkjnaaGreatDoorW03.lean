import Derived.Test.YtahhhgbojlkjnaaGreatDoorW02
set_option maxHeartbeats 16000000
set_option maxRecDepth 100000
set_option linter.defProp false
set_option linter.unusedSimpArgs false
open Go.Proofs.Tryz
namespace Go.Proofs.YtahhhgbojlkjnaaGreatDoor
open Go.RowKit
variable {sb:BA}{o so n:Int}{bad:Ap}{ds:Ar}{fv:Ax}{cnt k:Nat}{xs:Az}
def cwiB1_{p:Prop}(h:p:=by
 (first|(have:=cc1;have hr:=zy (show xZ s i=.error (j+2) by rw[hres,n_ h41]))|(have hr:=zy (show xZ s i=.ok ((ds,some (cc,j+1)),j+3) by rw[hres,i_ h41,hcc.o])));clear hres;by_cases hq:0<=plc sb cc
 ·(first|(have:=cc1)|(have hwE:=zy (show wrS [] ds wg=wrE ds (some (cc,j+1)) wg by unfold wrE;simp only;rw[i_ (hmem.o.1 hq)])));go_wp2_with (first
   |(go_at_call 40;apply(zR M.o.R hc.o).mono;rintro e w2 ⟨rfl,hw2⟩;have M2:=M.o.si hw2;have c12:=M2.R.here.c1;have f12:=M2.R.here.th 1;have c22:=M2.R.here.c2;replace M2:=zy M2)
   |(go_at_call 100;apply(jb (M2.o.inc hjs).R).mono;rintro e w3 ⟨rfl,hS,st3⟩;rw[i_ hsm,hcc.o];rw[i_ hsm]at hS;have M3:=(M2.o.inc hjs).call hS st3;have k2:=M3.b3.cell 2;have k3:=M3.b3.cell 3;have m3:=M3.b3.th 3;simp only[yj,aa_,ab_]at k2 k3;replace M3:=zy M3)
   |(go_at_call 30;apply(jm sb cc _ M_).mono;rintro e w' ⟨rfl,hw'⟩;rw[hw'];have M4:SM w X br bz B s _ _ _ mx ts us zs tv u (yj sb (plc sb cc)) _:=M3.o.put 3 (Z_ (plc sb cc));have c24:=M4.R.here.c2;replace M4:=zy M4)
   |(go_at_call 41;apply(yT 41 M4.o.R rfl D_).mono;rintro e w9 ⟨rfl,hE,st9⟩;(first|(have:=cc1;rw[n_ h41]at hE)|(rw[i_ h41]at hE));have M9:=M4.o.call hE st9;obtain⟨t0,t1,t2,t3,t4⟩:=M9.b3.f5;obtain⟨r0,r1,r2,r3,r4⟩:=M9.b2.f5;obtain⟨g0,g1,g2,g3,g4⟩:=M9.b2.t5;simp only[yj,zO,aa_,ab_]at t0 t1 t2 t3 t4 r0 r1 r2 r3 r4;replace M9:=zy M9))
  refine zi results67 M9.o.b2 (λW5 hF _=>?_);rw[Q_.o];(first|(have:=cc1;exact vC M9.o hF y7_)|(exact vC M9.o hF z3_))
 ·(first|(have:=cc1)|(have hwE:=zy (show zC ((j+1:Nat):Int) (wrS [] ds wg)=wrE ds (some (cc,j+1)) wg by unfold wrE;simp only;rw[n_ (λx=>hq (hmem.o.2 x))])));go_wp2_with (first
   |(go_at_call 40;apply(zR M.o.R hc.o).mono;rintro e w2 ⟨rfl,hw2⟩;have M2:=M.o.si hw2;have c12:=M2.R.here.c1;have f12:=M2.R.here.th 1;have c22:=M2.R.here.c2;replace M2:=zy M2)
   |(go_at_call 100;apply(jb (M2.o.inc hjs).R).mono;rintro e w3 ⟨rfl,hS,st3⟩;rw[i_ hsm,hcc.o];rw[i_ hsm]at hS;have M3:=(M2.o.inc hjs).call hS st3;have k2:=M3.b3.cell 2;have k3:=M3.b3.cell 3;have m3:=M3.b3.th 3;simp only[yj,aa_,ab_]at k2 k3;replace M3:=zy M3)
   |(go_at_call 30;apply(jm sb cc _ M_).mono;rintro e w' ⟨rfl,hw'⟩;rw[hw'];have M4:SM w X br bz B s _ _ _ mx ts us zs tv u (yj sb (plc sb cc)) _:=M3.o.put 3 (Z_ (plc sb cc));have c24:=M4.R.here.c2;replace M4:=zy M4)
   |(go_at_call 24;apply(qK M4.o.R).mono;rintro e w5 ⟨rfl,hW,st5⟩;have M5:=M4.o.call hW st5;have c25:=M5.R.here.c2;replace M5:=zy M5)
   |(go_at_call 41;apply(yT 41 M5.o.R rfl D_).mono;rintro e w9 ⟨rfl,hE,st9⟩;(first|(have:=cc1;rw[n_ h41]at hE)|(rw[i_ h41]at hE));have M9:=M5.o.call hE st9;obtain⟨t0,t1,t2,t3,t4⟩:=M9.b3.f5;obtain⟨r0,r1,r2,r3,r4⟩:=M9.b2.f5;obtain⟨g0,g1,g2,g3,g4⟩:=M9.b2.t5;simp only[yj,zO,aa_,ab_]at t0 t1 t2 t3 t4 r0 r1 r2 r3 r4;replace M9:=zy M9))
  refine zi results67 M9.o.b2 (λW5 hF _=>?_);rw[Q_.o];(first|(have:=cc1;exact vC M9.o hF y7_)|(exact vC M9.o hF z3_))):p:=h
def cwiB2_{p:Prop}(h:p:=by
 (first|(have:=cc1;have hr:=zy (show xZ s i=.error j by rw[hres,n_ h41]))|(have hr:=zy (show xZ s i=.ok ((ds,none),j+1) by rw[hres,i_ h41])));clear hres;go_wp2_with (first
  |(go_at_call 40;apply(zR M.o.R hc.o).mono;rintro e w2 ⟨rfl,hw2⟩;have M2:=M.o.si hw2;have c12:=M2.R.here.c1;have f12:=M2.R.here.th 1;have c22:=M2.R.here.c2;replace M2:=zy M2)
  |(go_at_call 41;apply(yT 41 M2.o.R rfl D_).mono;rintro e w9 ⟨rfl,hE,st9⟩;(first|(have:=cc1;rw[n_ h41]at hE)|(rw[i_ h41]at hE));have M9:=M2.o.call hE st9;obtain⟨t0,t1,t2,t3,t4⟩:=M9.b3.f5;obtain⟨r0,r1,r2,r3,r4⟩:=M9.b2.f5;obtain⟨g0,g1,g2,g3,g4⟩:=M9.b2.t5;simp only[yj,zO,aa_,ab_]at t0 t1 t2 t3 t4 r0 r1 r2 r3 r4;replace M9:=zy M9))
 refine zi results67 M9.o.b2 (λW5 hF _=>?_);rw[Q_.o];(first|(have:=cc1;exact vC M9.o hF y7_)|(exact vC M9.o hF (by rw[hr.o];exact⟨rfl,rfl,hkb.o,rfl,rfl⟩)))):p:=h
def iB{w:Aw}{X:Au}{br bz B:Nat}{s:BA}{i:Nat}{wg mx:Int}{ts:Aq}{us:Av}{zs:Az}{tv u:Ax}(R:Rep w X br bz B s i false wg mx ts us zs tv u):Calls prog 67 #[P_ br] w (rW w X br bz B s i wg mx ts us zs tv u):=by
 have E:=R.sl;have L:=R.il;have v:=zy (Qg R);obtain⟨L,Q_⟩:=y_ (rW w X br bz B s i wg mx ts us zs tv u);rw[<- Q_.o];go_in;go_wp2_with (go_at_call 41;apply(yT 40 v.o.R rfl D_).mono;rintro e w1 ⟨rfl,hE,G⟩);have r:Kv (xZ s i) w X br bz B s (i+1) wg mx ts us zs tv u (s.size+3) (.bool true) w1:=by
  refine⟨⟨#[]⟩,true,rfl,D_,?_⟩;rw[eX];by_cases C:bt s i=40
  .rw[i_ C]at hE⊢;exact .inl ⟨[],i+1,v.o.call hE G,rfl,by simp,M_,rfl⟩
  .rw[n_ C]at hE⊢;exact .inr ⟨i,_,v.o.call hE G,rfl⟩
 replace r:=zy r;go_loopg [4] (s.size+3) (λm v W=>Kv (xZ s i) w X br bz B s (i+1) wg mx ts us zs tv u m v W);case atStart=>exact r
 case round=>
  obtain⟨sb,more,rfl,r,r|I⟩:=hrel
  .obtain⟨ds,j,M,hkb,D,hm,hres⟩:=r;have c2:=M.R.here.c2;have c1:=M.R.here.c1;have q:=M.b3.cell 2;simp only[yj,aa_,ab_]at q;replace M:=zy M;replace hkb:=zy hkb;cases more with
   |true=>
    rw[i_ rfl]at hres;cases hsm:zt (bt s j) with
    |false=>
     have hr:=zy (show xZ s i=.error j by rw[hres,gN,n_ yy_]);go_wp2_with (go_at_call 100;apply(jb M.o.R).mono;rintro e w3 ⟨rfl,hS,st3⟩;rw[n_ yy_];rw[n_ yy_]at hS;have M3:=M.o.call hS st3;have A:=M3.R.here.c2;obtain⟨t0,t1,t2,t3,t4⟩:=M3.b3.f5;obtain⟨r0,r1,r2,r3,r4⟩:=M3.b2.f5;obtain⟨g0,g1,g2,g3,g4⟩:=M3.b2.t5;simp only[yj,zO,aa_,ab_]at t0 t1 t2 t3 t4 r0 r1 r2 r3 r4;replace M3:=zy M3);refine zi results67 M3.o.b2 (λW5 hF _=>?_);rw[Q_.o];exact vC M3 hF y7_
    |true=>
     replace hres:=zy hres;have hjs:j<s.size:=zr (xo hsm);obtain⟨c,hc⟩:=x_ (bt s j);have r:=λ(W:World) (g:Nat) (c:Int) (h:W.heap.size=g)=>rp W g c h;go_upto_if 34 with(first
      |(go_at_call 100;apply(jb M.o.R).mono;rintro e w3 ⟨rfl,hS,st3⟩;rw[i_ hsm,hc];rw[i_ hsm]at hS;have M3:=M.o.call hS st3;have A:=M3.R.here.c2;have r:=M3.b3.cell 2;simp only[yj,aa_,ab_]at r;replace M3:=zy M3)
      |(go_at_call 101;apply(fQ sb c _ M_).mono;rintro e w' ⟨rfl,rfl⟩))
     go_cut [] (λW=>∃t,SM w X br bz B s (j+1) false t mx ts us zs tv u (yj sb (-1)) W/\t=if 0<=plc sb (bt s j) then zC j (wrS [] ds wg) else wrS [] ds wg);case first=>
      by_cases hq:0<=plc sb c
      .go_wp2_with (go_at_call 24;apply(qK M3.o.R).mono;rintro e w5 ⟨rfl,hW,st5⟩);go_meet;case rel=>exact⟨_,M3.o.call hW st5,by rw[hc,i_ hq]⟩
      .have a:decide (0<=plc sb c)=false:=decide_eq_false hq;go_wp2;go_meet;case rel=>exact⟨_,M3,by rw[hc,n_ M_]⟩
     case rest=>
      obtain⟨t,M5,p⟩:=hcut;have q:=M5.b3.cell 2;have F:∀x,(wc.alloc x).cell? ⟨w.heap.size+1,2,none⟩=some (.string sb):=λx=>M5.b3.ce 2 x;have r:∀x,(wc.alloc x).frozen? ⟨w.heap.size+1,2,none⟩=false:=λx=>(M5.b3.alloc x).th 2;simp only[yj,aa_,ab_]at q;have d:=zy ((M5.alloc (.cells #[U_ c] 5)).put 2 (.string (sb++(⟨#[UInt8.ofNat c]⟩:BA))):SM w X br bz B s (j+1) false t mx ts us zs tv u (yj (sb++⟨#[UInt8.ofNat c]⟩) (-1)) ((wc.alloc (.cells #[U_ c] 5)).setCell ⟨w.heap.size+1,2,none⟩ (.string (sb++⟨#[UInt8.ofNat c]⟩))));replace p:=zy p;obtain⟨z,b⟩:=x_ (bt s (j+1));replace b:=zy b;replace hc:=zy hc;replace hsm:=zy hsm;by_cases f:z=44
      .have l:=zy (b.o.trans f);have J:j+1<s.size:=zr (by rw[l.o];decide);subst f;go_wp2_with (go_at_call 40;apply(zR d.o.R b).mono;rintro e K ⟨rfl,y⟩;have a:=d.o.si y;have q:=a.R.here.c1;have q:=a.R.here.th 1;replace a:=zy a);go_roundg (s.size+2-(j+2));case measure=>omega
       case rel=>exact Yc _ (j+2) true hres E D hkb hsm p (by rw[hc.o];exact a.o.inc J) l_ (.inl ⟨rfl,l,rfl⟩)
      .have q:((z:Int)==44)=false:=x4_
       have l:=zy (show bt s (j+1)≠44 by rw[b.o];exact f);go_wp2_with (go_at_call 40;apply(zR d.o.R b).mono;rintro e K ⟨rfl,y⟩;have a:=zy (d.o.si y));go_roundg (s.size+2-(j+1));case measure=>omega
       case rel=>exact Yc _ (j+1) false hres E D hkb hsm p (by rw[hc.o];exact a) l_ (.inr ⟨rfl,l,rfl⟩)
   |false=>
    rw[n_ D_]at hres;obtain⟨c0,hc⟩:=x_ (bt s j);replace hc:=zy hc;by_cases a:c0=33
    .have b:bt s j=33:=hc.o.trans a;subst a;have hjs:j<s.size:=zr M_;rw[au,i_ b]at hres;cases hsm:zt (bt s (j+1)) with
     |false=>
      have hr:=zy (show xZ s i=.error (j+1) by rw[hres,n_ yy_]);go_wp2_with (first
       |(go_at_call 40;apply(zR M.o.R hc).mono;rintro e w2 ⟨rfl,hw2⟩;have M2:=M.o.si hw2;have c12:=M2.R.here.c1;have f12:=M2.R.here.th 1;replace M2:=zy M2)
       |(go_at_call 100;apply(jb (M2.o.inc hjs).R).mono;rintro e w3 ⟨rfl,hS,st3⟩;rw[n_ yy_];rw[n_ yy_]at hS;have M3:=(M2.o.inc hjs).call hS st3;have k2:=M3.b3.cell 2;have k3:=M3.b3.cell 3;have m3:=M3.b3.th 3;simp only[yj,aa_,ab_]at k2 k3;replace M3:=zy M3)
       |(go_at_call 30;apply(jm sb 0 _ M_).mono;rintro e w' ⟨rfl,hw'⟩;rw[hw'];have M4:SM w X br bz B s _ _ _ mx ts us zs tv u (yj sb (plc sb 0)) _:=M3.o.put 3 (Z_ (plc sb 0));have c24:=M4.R.here.c2;obtain⟨t0,t1,t2,t3,t4⟩:=M4.b3.f5;obtain⟨r0,r1,r2,r3,r4⟩:=M4.b2.f5;obtain⟨g0,g1,g2,g3,g4⟩:=M4.b2.t5;simp only[yj,zO,aa_,ab_]at t0 t1 t2 t3 t4 r0 r1 r2 r3 r4;replace M4:=zy M4))
      refine zi results67 M4.o.b2 (λW5 hF _=>?_);rw[Q_.o];exact vC M4 hF y7_
     |true=>
      rw[i_ hsm]at hres;obtain⟨cc,hcc⟩:=x_ (bt s (j+1));replace hcc:=zy hcc;have hmem:=zy (show 0<=plc sb cc↔cc∈ds.map Prod.fst by rw[wX,hkb.o]);by_cases h41:bt s (j+2)=41
      .exact cwiB1_
      .have cc1:=Nat;exact cwiB1_
    .have b:((c0:Int)==33)=false:=x4_
     rw[au,n_ (by rw[hc.o];exact a)]at hres;by_cases h41:bt s j=41
     .exact cwiB2_
     .have cc1:=Nat;exact cwiB2_
  .obtain⟨k,a,M,hres⟩:=I;have c2:=M.R.here.c2;replace hres:=zy hres;replace M:=zy M;cases more;all_goals
    go_wp2_with (go_at_call 40;apply(eg M.o.R).mono;rintro e w3 ⟨rfl,a⟩;have M3:=M.o.si a;have A:=M3.R.here.c2;obtain⟨t0,t1,t2,t3,t4⟩:=M3.b3.f5;obtain⟨r0,r1,r2,r3,r4⟩:=M3.b2.f5;obtain⟨g0,g1,g2,g3,g4⟩:=M3.b2.t5;simp only[yj,zO,aa_,ab_]at t0 t1 t2 t3 t4 r0 r1 r2 r3 r4;replace M3:=zy M3);refine zi results67 M3.o.b2 (λW5 hF _=>?_);rw[Q_.o];exact vC M3 hF (by rw[hres.o];exact⟨rfl,rfl⟩)
def PB.wr:PB->Int->Int
 | .recd ds,m=>wrF [] ds m
 | .enum l o,m=>wrE l o m
 | .bytes _,m=>m
def PB.mx:PB->Int->Int
 | .recd ds,m=>kN ds m
 | .enum _ _,m=>m
 | .bytes _,m=>m
def PB.ts(b:Nat):PB->List TR
 | .recd ds=>zA b (ds.map PF.ty)
 | .enum _ _=>[]
 | .bytes _=>[]
def PB.us:PB->List (Nat×Nat)
 | .recd ds=>zG (ds.map PF.ty)
 | .enum _ _=>[]
 | .bytes _=>[]
def gB(so:Int)(fv:Ax)(sb:BA)(o n:Int):List Value:=[.int .u8 so,fv,.string sb,Z_ o,Z_ n]
def nc(s:BA)(b:Nat)(pb:PB)(so:Int)(cnt:Nat)(xs:Az)(sb:BA)(o n:Int):Prop:=
 match pb with
 | .recd ds=>so=114/\cnt=ds.length/\xs=yR s b ds/\o = -1/\n=0
 | .enum l unk=>so=101/\cnt=0/\sb.data.toList.map UInt8.toNat=l.map Prod.fst/\o=(match unk with|none=>-1|some (c,_)=>plc sb c)/\n=0
 | .bytes k=>so=102/\cnt=0/\o = -1/\n=(k:Int)
def fq(w:Aw)(X:Au)(br bz B:Nat)(s:BA)(i:Nat)(wr mx:Int)(ts:Aq)(us:Av)(zs:Az)(tv u:Ax)(e:Ah)(w':Aw):Prop:=
 ∃so fv sb o n cnt xs tv' u',e=.returned (.agg (gB so fv sb o n).toArray)/\zI w w' br bz tv u tv' u'/\w'.ownsRow B 60 10 fv cnt xs/\(∀g,fv.ownBlock=some g->w.heap.size<=g/\tv'.ownBlock≠some g/\u'.ownBlock≠some g)/\
 match xu s i with
 | .ok (pb,j)=>nc s ts.length pb so cnt xs sb o n/\Rep w' (λg=>X g\/fv.ownBlock=some g) br bz B s j false (pb.wr wr) (pb.mx mx) (ts++pb.ts ts.length) (us++pb.us) zs tv' u'
 | .error k=>∃wr' mx' ts' us',Rep w' (λg=>X g\/fv.ownBlock=some g) br bz B s k true wr' mx' ts' us' zs tv' u'
def dS{s:BA}{i:Nat}(h:bt s i=114):xu s i=match yh s (i+1) with | .error k=>.error k | .ok (ds,j)=>.ok (.recd ds,j):=by
 unfold xu;rw[i_ h];rfl
def ll{s:BA}{i:Nat}(h:bt s i=101):xu s i=match xZ s (i+1) with | .error k=>.error k | .ok ((l,o),j)=>.ok (.enum l o,j):=by
 unfold xu;rw[n_ M_,i_ h];rfl
def gX{s:BA}{i:Nat}(h:bt s i=102):xu s i=if 48<=bt s (i+1)/\bt s (i+1)<=57 then .ok (.bytes (bt s (i+1)-48),i+2) else .error (i+1):=by
 unfold xu;rw[n_ M_,n_ M_,i_ h]
def dI{s:BA}{i:Nat}(h1:bt s i≠114)(a:bt s i≠101)(b:bt s i≠102):xu s i=.error i:=by
 unfold xu;rw[n_ h1,n_ a,n_ b]
section
variable {w W W':Aw} {X:Au} {br bz B:Nat} {s:BA} {i:Nat} {wr mx:Int} {ts:Aq} {us:Av} {zs:Az} {tv u:Ax}
def pi(R:Rep w X br bz B s i false wr mx ts us zs tv u){j:Nat}(c:Rep W (λg=>X g\/g=w.heap.size) br bz B s j bad wr mx ts us zs tv u)(st:zI w W br bz tv u tv u)(a:Fr W W' (λg=>g=w.heap.size))(h:(bad=true/\xu s i=.error j)\/(∃k,bad=false/\xu s i=.ok (.bytes k,j)/\so=102/\o = -1/\n=(k:Int))):fq w X br bz B s i wr mx ts us zs tv u (.returned (.agg (gB so (L_) sb o n).toArray)) W':=by
 have _:=R.il;have b:=(c.o (a.mono (λ_ _ e=>.inr e))).fe (Y:=λg=>X g\/(Value.slice none 0 0).ownBlock=some g) (λg hg=>by
  rcases hg with e|e
  .exact .inl (.inl e)
  .simp[Value.ownBlock]at e)
 refine⟨so,_,sb,o,n,0,[],tv,u,rfl,st.o a (λg hg=>M_),World.ownsRow_nil _ _ _ _,λg hg=>by simp[Value.ownBlock]at hg,?_⟩;rcases h with⟨rfl,h⟩|⟨k,rfl,h,rfl,rfl,rfl⟩
 .rw[h];exact⟨_,_,_,_,b⟩
 .rw[h];refine⟨⟨rfl,rfl,rfl,rfl⟩,?_⟩;simpa[PB.wr,PB.mx,PB.ts,PB.us] using b
def Qm{w1:Aw}{tv' u':Ax}(r:w.heap.size<w1.heap.size)(l:bt s i=114)(p:zI w w1 br bz tv u tv u)(st:zI w1 W br bz tv u tv' u')(own:W.ownsRow B 60 10 fv cnt xs)(av:∀g,fv.ownBlock=some g->w1.heap.size<=g/\tv'.ownBlock≠some g/\u'.ownBlock≠some g)(h:Fr W W' (λg=>g=w.heap.size))(hm:match yh s (i+1) with
  | .ok (ds,j)=>cnt=ds.length/\xs=yR s ts.length ds/\Rep W (λg=>(X g\/g=w.heap.size)\/fv.ownBlock=some g) br bz B s j false (wrF [] ds wr) (kN ds mx) (ts++zA ts.length (ds.map PF.ty)) (us++zG (ds.map PF.ty)) zs tv' u'
  | .error k=>∃f b c d,Rep W (λg=>(X g\/g=w.heap.size)\/fv.ownBlock=some g) br bz B s k true f b c d zs tv' u'):fq w X br bz B s i wr mx ts us zs tv u (.returned (.agg (gB 114 fv ⟨#[]⟩ (-1) 0).toArray)) W':=by
 refine⟨114,fv,_,-1,0,cnt,xs,tv',u',rfl,(p.trans st).o h (λg hg=>M_),zk own h (λg hg e=>by have:=(av g hg).1;omega),λg hg=>⟨by have:=(av g hg).1;omega,(av g hg).2⟩,?_⟩;rw[dS l];have hX:∀{j:Nat} {bad:Bool} {f b:Int} {c:List TR} {d:List (Nat×Nat)},Rep W (λg=>(X g\/g=w.heap.size)\/fv.ownBlock=some g) br bz B s j bad f b c d zs tv' u'->Rep W' (λg=>X g\/fv.ownBlock=some g) br bz B s j bad f b c d zs tv' u':=λa=>
  (a.o (h.mono (λ_ _ e=>.inl (.inr e)))).fe (λg hg=>by
   rcases hg with e|e
   .exact .inl (.inl (.inl e))
   .exact .inl (.inr e))
 cases hp:yh s (i+1) with
 |error k=>
  rw[hp]at hm;obtain⟨_,_,_,_,a⟩:=hm;exact⟨_,_,_,_,hX a⟩
 |ok q=>
  obtain⟨ds,j⟩:=q;rw[hp]at hm;obtain⟨h1,m,a⟩:=hm;exact⟨⟨rfl,h1,m,rfl,rfl⟩,hX a⟩
def Vq{w1:Aw}(h:bt s i=101)(p:zI w w1 br bz tv u tv u)(st:zI w1 W br bz tv u tv u)(f:Fr W W' (λg=>g=w.heap.size))(hm:match xZ s (i+1) with
  | .ok ((l,d),j)=>sb.data.toList.map UInt8.toNat=l.map Prod.fst/\o=(match d with|none=>-1|some (c,_)=>plc sb c)/\Rep W (λg=>X g\/g=w.heap.size) br bz B s j false (wrE l d wr) mx ts us zs tv u
  | .error k=>∃b,Rep W (λg=>X g\/g=w.heap.size) br bz B s k true b mx ts us zs tv u):fq w X br bz B s i wr mx ts us zs tv u (.returned (.agg (gB 101 (L_) sb o 0).toArray)) W':=by
 refine⟨101,_,sb,o,0,0,[],tv,u,rfl,(p.trans st).o f (λg hg=>M_),World.ownsRow_nil _ _ _ _,λg hg=>by simp[Value.ownBlock]at hg,?_⟩;rw[ll h];have hX:∀{j:Nat} {bad:Bool} {b:Int},Rep W (λg=>X g\/g=w.heap.size) br bz B s j bad b mx ts us zs tv u->Rep W' (λg=>X g\/(Value.slice none 0 0).ownBlock=some g) br bz B s j bad b mx ts us zs tv u:=λa=>
  (a.o (f.mono (λ_ _ e=>.inr e))).fe (λg hg=>by
   rcases hg with e|e
   .exact .inl (.inl e)
   .simp[Value.ownBlock]at e)
 cases hp:xZ s (i+1) with
 |error k=>
  rw[hp]at hm;obtain⟨_,a⟩:=hm;exact⟨_,_,_,_,hX a⟩
 |ok q=>
  obtain⟨⟨l,d⟩,j⟩:=q;rw[hp]at hm;obtain⟨h1,m,a⟩:=hm;refine⟨⟨rfl,rfl,h1,m,rfl⟩,?_⟩;simpa[PB.wr,PB.mx,PB.ts,PB.us] using hX a
end
def cwrg1_{p:Prop}(h:p:=by
 (first|(have:=cc1;have n9:(decide ((48:Int)<=(d:Int))&&decide ((d:Int)<=57))=false:=x4_)|(have n9:(decide ((48:Int)<=(d:Int))&&decide ((d:Int)<=57))=true:=x4_))
 (first|(have:=cc1;have hr:=zy (show xu s i=.error (i+1) by rw[gX hb.o,hd.o,n_ hdig]))|(obtain⟨i1,hi1⟩:=e_ (i+1);(have his1:i1<s.size:=by rw[hi1];exact zr (by rw[hd.o];omega));replace hi1:=zy hi1;have hr:=zy (show xu s i=.ok (.bytes (d-48),i+2) by rw[gX hb.o,hd.o,i_ hdig]);have hdd:H_ ((d:Int)-48=((d-48:Nat):Int)):=by show(d:Int)-48=((d-48:Nat):Int);omega))
 go_in;go_wp2_with (first
  |(go_at_call 40;apply(zR R1.o hc.o).mono;rintro e w2 ⟨rfl,hw2⟩;have R2:=R1.o.si hw2;have S2:=zy ((st1.o.si hw2));have B2:=zy (Blk.si b1.o hw2);have c1:=R2.here.c1;have f1:=R2.here.th 1;replace R2:=zy R2)
  |(go_at_call 40;apply(zR (R2.o.inc his).1 hd.o).mono;rintro e w4 ⟨rfl,hw4⟩;have R4:=(R2.o.inc his).1.si hw4;(first|(have:=cc1)|(rw[<- hi1.o]at R4));have S4:=(S2.o.trans (R2.o.inc his).2).si hw4;have B4:=Blk.si ((R2.o.inc his).2.fr.bl B2.o (R2.o.offS (.inr rfl))) hw4;have c14:=R4.here.c1;have f14:=R4.here.th 1;have f24:=R4.here.th 2;have c24:=R4.here.c2;(first|(have:=cc1;have B5:=R4.sp.2.fr.bl B4 (R4.offS (.inr rfl)))|(have B5:=(R4.inc his1).2.fr.bl B4 (R4.offS (.inr rfl))));obtain⟨r0,r1,r2,r3,r4⟩:=B5.f5;obtain⟨g0,g1,g2,g3,g4⟩:=B5.t5;simp only[zO,aa_,ab_]at r0 r1 r2 r3 r4;replace B5:=zy B5;replace R4:=zy R4;replace S4:=zy S4)
  |(go_at_call 39;apply(ya _ _ _ _).mono;rintro e w' ⟨rfl,hw'⟩;rw[hw',n9]))
 refine zi results42 B5.o (λW5 hF _=>?_);rw[Q_.o];(first|(have:=cc1;exact pi R R4.o.sp.1 (S4.o.trans R4.o.sp.2) hF (.inl ⟨rfl,hr.o⟩))|(exact pi R (R4.o.inc his1).1 (S4.o.trans (R4.o.inc his1).2) hF (.inr ⟨d-48,rfl,by rw[hi1.o];exact hr.o,rfl,rfl,hdd.o⟩)))):p:=h
def cwrg2_{p:Prop}(h:p:=by
 (first|(have:=cc1;have hb:=zy (hc.o.trans h101))|(have hb:=zy (hc.o.trans h114)));have his:i<s.size:=zr zo_;(first|(have:=cc1;subst h101)|(subst h114));go_in;go_wp2_with (first
  |(go_at_call 40;apply(zR R1.o hc.o).mono;rintro e w2 ⟨rfl,hw2⟩;have R2:=R1.o.si hw2;have S2:=zy ((st1.o.si hw2));have B2:=zy (Blk.si b1.o hw2);have c1:=R2.here.c1;have f1:=R2.here.th 1;have f2:=R2.here.th 2;have c2:=R2.here.c2;skip;replace R2:=zy R2)
  |((first|go_at_call 66|go_at_call 67);(first|(have:=cc1;apply(iB (R2.o.inc his).1).mono)|(apply(oy (R2.o.inc his).1).mono));(first|(have:=cc1;rintro e w3 ⟨sb,o,rfl,st3,hm3⟩)|(rintro e w3 ⟨fv,cnt,xs,tv',u',rfl,st3,own3,av3,hm3⟩));(first|(have:=cc1;simp only[yj])|(simp only[jB]));have B3:=st3.fr.bl ((R2.o.inc his).2.fr.bl B2.o (R2.o.offS (.inr rfl))) ((R2.o.inc his).1.offS (.inr rfl));obtain⟨r0,r1,r2,r3,r4⟩:=B3.f5;obtain⟨g0,g1,g2,g3,g4⟩:=B3.t5;simp only[zO,aa_,ab_]at r0 r1 r2 r3 r4;(first|(have:=cc1)|(obtain⟨sa,sn,sc,rfl⟩:=zW own3));replace B3:=zy B3;replace st3:=zy st3;(first|(have:=cc1)|(replace own3:=zy own3;replace av3:=zy av3));replace hm3:=zy hm3))
 refine zi results42 B3.o (λW5 hF _=>?_);rw[Q_.o];(first|(have:=cc1;exact Vq hb.o (S2.o.trans (R2.o.inc his).2) st3.o hF hm3.o)|(exact Qm (by have:=Blk.lt B2.o;simp[World.setCell];omega) hb.o (S2.o.trans (R2.o.inc his).2) st3.o own3.o av3.o hF hm3.o))):p:=h
def rg{w:Aw}{X:Au}{br bz B:Nat}{s:BA}{i:Nat}{wg mx:Int}{ts:Aq}{us:Av}{zs:Az}{tv u:Ax}(R:Rep w X br bz B s i false wg mx ts us zs tv u):Calls prog 42 #[P_ br] w (fq w X br bz B s i wg mx ts us zs tv u):=by
 have b:=R.sl;have R1:Rep (w.alloc (.cells zO.toArray 39)) (λg=>X g\/g=w.heap.size) br bz B s i false wg mx ts us zs tv u:=(R.o ((A_ w X).alloc (.cells zO.toArray 39))).fe (λg hg=>by
  rcases hg with e|e
  .exact .inl e
  .exact .inr x4_)
 have st1:=zy (⟨(A_ w _).alloc _,.inl rfl,.inl rfl⟩:zI w (w.alloc (.cells zO.toArray 39)) br bz tv u tv u);have b1:=zy (B_ w zO.toArray 39);replace R1:=zy R1;obtain⟨c,hc⟩:=x_ (bt s i);replace hc:=zy hc;obtain⟨b,Q_⟩:=y_ (fq w X br bz B s i wg mx ts us zs tv u);rw[<- Q_.o];by_cases h114:c=114
 .exact cwrg2_
 .by_cases h101:c=101
  .have cc1:=Nat;exact cwrg2_
  .by_cases a:c=102
   .have hb:=zy (hc.o.trans a);have his:i<s.size:=zr zo_;subst a;obtain⟨d,hd⟩:=x_ (bt s (i+1));replace hd:=zy hd;by_cases hdig:48<=d/\d<=57
    .exact cwrg1_
    .have cc1:=Nat;exact cwrg1_
   .have hr:=zy (dI (by rw[hc.o];exact h114) (by rw[hc.o];exact h101) (by rw[hc.o];exact a));have a:((c:Int) != 114)=true:=x4_
    have a:((c:Int) != 101)=true:=x4_
    have a:((c:Int) != 102)=true:=x4_
    go_in;go_wp2_with (go_at_call 40;apply(zR R1 hc).mono;rintro e w2 ⟨rfl,hw2⟩;have R2:=R1.o.si hw2;have S2:=(st1.o.si hw2);have B2:=Blk.si b1 hw2;have f2:=R2.here.th 2;have c2:=R2.here.c2;have B3:=R2.sp.2.fr.bl B2 (R2.offS (.inr rfl));obtain⟨r0,r1,r2,r3,r4⟩:=B3.f5;obtain⟨g0,g1,g2,g3,g4⟩:=B3.t5;simp only[zO,aa_,ab_]at r0 r1 r2 r3 r4;replace B3:=zy B3;replace R2:=zy R2;replace S2:=zy S2;replace B2:=zy B2);refine zi results42 B3.o (λW5 hF _=>?_);rw[Q_.o];exact pi R R2.o.sp.1 (S2.o.trans R2.o.sp.2) hF (.inl ⟨rfl,hr⟩)
def qp(seen:Ai):List PD->Int->Int
 | [],m=>m
 |d::r,m=>qp (seen++[d.letter]) r (if d.letter∈seen then zC d.place (d.body.wr m) else d.body.wr m)
def qt(ds:Ar)(m:Int):Int:=ds.foldl (λm d=>d.body.mx m) m
def vm(b:Nat):List PD->List TR
 | []=>[]
 |d::r=>d.body.ts b++vm (b+(d.body.ts b).length) r
def ja:List PD->List (Nat×Nat)
 | []=>[]
 |d::r=>d.body.us++ja r
def tO(a:Ai)(ds:Ar)(d:PD)(m:Int):qp a (ds++[d]) m=if d.letter∈a++ds.map PD.letter then zC d.place (d.body.wr (qp a ds m)) else d.body.wr (qp a ds m):=by
 induction ds generalizing a m with
 |nil=>simp[qp]
 |cons x r ih=>rw[bf_,qp,qp,ih,bw_];rfl
def nk(ds:Ar)(d:PD)(m:Int):qt (ds++[d]) m=d.body.mx (qt ds m):=by simp[qt]
def nj(b:Nat)(ds:Ar)(d:PD):vm b (ds++[d])=vm b ds++d.body.ts (b+(vm b ds).length):=by
 induction ds generalizing b with
 |nil=>simp[vm]
 |cons x r ih=>simp only[bf_,vm,ih,bw_,ah_,bv_]
def nz(ds:Ar)(d:PD):ja (ds++[d])=ja ds++d.body.us:=by
 induction ds with
 |nil=>simp[ja]
 |cons x r ih=>simp[ja,ih]
def vp(b c:Nat):List PD->Option (PB×Nat)
 | []=>none
 |d::r=>if d.letter=c then some (d.body,b) else vp (b+(d.body.ts b).length) c r
def uK(b c:Nat)(ds:Ar)(d:PD):vp b c (ds++[d])=match vp b c ds with|some x=>some x|none=>if d.letter=c then some (d.body,b+(vm b ds).length) else none:=by
 induction ds generalizing b with
 |nil=>simp[vp,vm]
 |cons x r ih=>
  simp only[bf_,vp];by_cases h:x.letter=c
  .rw[i_ h,i_ h]
  .rw[n_ h,n_ h,ih];simp only[vm,ah_,bv_]
def uG(b c:Nat)(ds:Ar):vp b c ds=none↔c∉ds.map PD.letter:=by
 induction ds generalizing b with
 |nil=>simp[vp]
 |cons x r ih=>
  simp only[vp];by_cases h:x.letter=c
  .rw[i_ h];simp[h]
  .rw[n_ h,ih];simp[Ne.symm h]
def Apt(zs:Az):Prop:=∀k k' v v' g,k<6->k'<6->zs[5*k+1]?=some v->zs[5*k'+1]?=some v'->v.ownBlock=some g->v'.ownBlock=some g->k=k'
def xV(W:Aw)(X:Au)(B:Nat)(s:BA)(zs:Az)(ds:Ar):Prop:=
 (zs.length=31/\Apt zs)/\∀k,k<6->∃(so:Int) (fv:Value) (sb:BA) (o n:Int) (cnt:Nat) (xs:List Value),(∀p,p<5->zs[5*k+p]?=(gB so fv sb o n)[p]?)/\W.ownsRow B 60 10 fv cnt xs/\(∀g,fv.ownBlock=some g->X g)/\
  match vp 0 (65+k) ds with
  |none=>so=0/\cnt=0
  |some (pb,b)=>nc s b pb so cnt xs sb o n
def nc.sort{s:BA}{b:Nat}{pb:PB}(h:nc s b pb so cnt xs sb o n):so≠0:=by
 cases pb with
 |recd ds=>have:=h.1;omega
 |enum l u=>have:=h.1;omega
 |bytes k=>have:=h.1;omega
def xV.step{W W':Aw}{X:Au}{br bz B:Nat}{s:BA}{zs:Az}{j:Nat}{wr mx:Int}{ts:Aq}{us:Av}{a:Az}{tv u tv' u':Ax}(h:xV W X B s zs ds)(R:Rep W X br bz B s j bad wr mx ts us a tv u)(st:zI W W' br bz tv u tv' u'):xV W' X B s zs ds:=by
 refine⟨h.1,λk hk=>?_⟩;obtain⟨so,fv,sb,o,n,cnt,xs,h1,b,a,c⟩:=h.2 k hk;exact⟨so,fv,sb,o,n,cnt,xs,h1,zk b st.fr (λg hg=>R.offS (a g hg)),a,c⟩
def mS(zs:Az)(o:Nat)(v0 v1 v2 v3 v4:Ax):List Value:=((((zs.set o v0).set (o+1) v1).set (o+2) v2).set (o+3) v3).set (o+4) v4
def ZO{zs:Az}{o:Nat}(h:o+5<=zs.length)(v0 a b c d:Ax)(p:Nat)(hp:p<5):(mS zs o v0 a b c d)[o+p]?=[v0,a,b,c,d][p]?:=by
 unfold mS
 match p,hp with
 | 0,_=>simp[List.getElem?_set];omega
 | 1,_=>simp[List.getElem?_set];omega
 | 2,_=>simp[List.getElem?_set];omega
 | 3,_=>simp[List.getElem?_set];omega
 | 4,_=>simp[List.getElem?_set];omega
def iL{zs:Az}{o q:Nat}(v0 a b c d:Ax)(e:q<o\/o+5<=q):(mS zs o v0 a b c d)[q]?=zs[q]?:=by
 unfold mS;rw[b0_ M_,b0_ M_,b0_ M_,b0_ M_,b0_ M_]
def iH(zs:Az)(o:Nat)(v0 a b c d:Ax):(mS zs o v0 a b c d).length=zs.length:=by simp[mS]
def Apt.set{zs:Az}{v0 c j l:Ax}(h:Apt zs)(hl:zs.length=31)(hk:k<6)(hn:∀q v g,q<6->zs[5*q+1]?=some v->v.ownBlock=some g->fv.ownBlock≠some g):Apt (mS zs (5*k) v0 fv c j l):=by
 have key:∀q v,q<6->(mS zs (5*k) v0 fv c j l)[5*q+1]?=some v->(q=k/\v=fv)\/zs[5*q+1]?=some v:=λq v c e=>by
  by_cases h:q=k
  .subst h;rw[ZO M_ _ _ _ _ _ 1 M_]at e;cases e;exact .inl ⟨rfl,rfl⟩
  .rw[iL _ _ _ _ _ M_]at e;exact .inr e
 intro q d v f g h1 a c m b1 b2;rcases key q v h1 c with⟨rfl,rfl⟩|b<;>rcases key d f a m with⟨rfl,rfl⟩|c
 .rfl
 .exact absurd b1 (hn _ _ g a c b2)
 .exact absurd b2 (hn _ _ g h1 b b1)
 .exact h q d v f g h1 a b c b1 b2
def xV.add{W:Aw}{X Y:Au}{B:Nat}{s:BA}{zs:Az}{d:PD}(h:xV W X B s zs ds)(hk:k<6)(hd:d.letter=65+k)(f:vp 0 (65+k) ds=none)(m:∀g,X g->Y g)(own:W.ownsRow B 60 10 fv cnt xs)(c:∀g,fv.ownBlock=some g->Y g)(hn:∀q v g,q<6->zs[5*q+1]?=some v->v.ownBlock=some g->fv.ownBlock≠some g)(a:nc s (vm 0 ds).length d.body so cnt xs sb o n):xV W Y B s (mS zs (5*k) (.int .u8 so) fv (.string sb) (Z_ o) (Z_ n)) (ds++[d]):=by
 refine⟨⟨by rw[iH];exact h.1.1,h.1.2.set h.1.1 hk hn⟩,λb r=>?_⟩;by_cases e:b=k
 .subst e;refine⟨so,fv,sb,o,n,cnt,xs,λp hp=>ZO (by rw[h.1.1];omega) _ _ _ _ _ p hp,own,c,?_⟩;rw[uK,f];simp only[hd,if_true,bp_];exact a
 .obtain⟨A,f,z,y,t,c,xs',h1,j,l,a⟩:=h.2 b r;refine⟨A,f,z,y,t,c,xs',λp hp=>by rw[iL _ _ _ _ _ M_];exact h1 p hp,j,λg hg=>m g (l g hg),?_⟩;rw[uK];cases hl:vp 0 (65+b) ds with
  |some x=>rw[hl]at a;exact a
  |none=>
   rw[hl]at a;rw[n_ M_];exact a
def xV.again{W:Aw}{X Y:Au}{B:Nat}{s:BA}{zs:Az}{d:PD}{x:PB×Nat}(h:xV W X B s zs ds)(hd:d.letter=65+k)(q:vp 0 (65+k) ds=some x)(m:∀g,X g->Y g):xV W Y B s zs (ds++[d]):=by
 refine⟨h.1,λb p=>?_⟩;obtain⟨y,f,v,t,r,c,xs',h1,j,l,a⟩:=h.2 b p;refine⟨y,f,v,t,r,c,xs',h1,j,λg hg=>m g (l g hg),?_⟩;rw[uK];cases hl:vp 0 (65+b) ds with
 |some x=>rw[hl]at a;exact a
 |none=>
  rw[hl]at a;have c:¬(d.letter=65+b):=λe=>by rw[hd]at e;obtain rfl:k=b:=M_;rw[q]at hl;cases hl
  rw[n_ c];exact a
def Rep.setZ{w:Aw}{X:Au}{br bz B:Nat}{s:BA}{i:Nat}{wr mx:Int}{ts:Aq}{us:Av}{zs:Az}{tv u:Ax}(R:Rep w X br bz B s i bad wr mx ts us zs tv u)(o:Nat)(v:Ax):Rep (w.setCell ⟨bz,o+1,none⟩ v) X br bz B s i bad wr mx ts us (zs.set o v) tv u/\zI w (w.setCell ⟨bz,o+1,none⟩ v) br bz tv u tv u:=by
 have f:Fr w (w.setCell ⟨bz,o+1,none⟩ v) (λg=>g=bz):=(A_ w (λg=>g=bz)).setCell ⟨bz,o+1,none⟩ v (λ_=>rfl);have h:zI w (w.setCell ⟨bz,o+1,none⟩ v) br bz tv u tv u:=⟨f.mono (λ_ _ e=>.inr (.inl e)),.inl rfl,.inl rfl⟩;have hz:Blk (w.setCell ⟨bz,o+1,none⟩ v) bz (tv::zs.set o v) 42:=C_ R.z (o+1) v;refine⟨⟨f.bl R.here R.rz,hz,?_,zk R.uses f (λg hg e=>ql R.uses R.zB (e▸hg)),R.apart,R.rB,R.zB,ai_ R.hB f.size,R.rz,R.il,R.sl,R.tl,R.ul,λg hg=>⟨bg_ (R.av g hg).1 f.size,(R.av g hg).2⟩⟩,h⟩;obtain⟨xs,hx,hk⟩:=R.tys;refine⟨xs,zk hx f (λg hg e=>ql hx R.zB (e▸hg)),λk t f=>?_⟩;obtain⟨sv,a,b,c,d⟩:=hk k t f;exact⟨sv,a,b,h.subs c R.rB R.zB,d⟩
def xV.root{W:Aw}{X:Au}{B:Nat}{s:BA}{zs:Az}(h:xV W X B s zs ds)(v:Ax):xV W X B s (zs.set 30 v) ds:=by
 refine⟨⟨by rw[List.length_set];exact h.1.1,λk d v e g h1 a b c=>h.1.2 k d v e g h1 a (by rw[b0_ M_]at b;exact b) (by rw[b0_ M_]at c;exact c)⟩,λk hk=>?_⟩;obtain⟨so,fv,sb,o,n,cnt,xs,h1,a,b,c⟩:=h.2 k hk;exact⟨so,fv,sb,o,n,cnt,xs,λp hp=>by rw[b0_ M_];exact h1 p hp,a,b,c⟩
def Rep.setDef{w:Aw}{X:Au}{br bz B:Nat}{s:BA}{i:Nat}{wr mx:Int}{ts:Aq}{us:Av}{zs:Az}{tv u:Ax}(R:Rep w X br bz B s i bad wr mx ts us zs tv u)(o:Nat)(v0 a b c d:Ax):Rep (((((w.setCell ⟨bz,o+1,none⟩ v0).setCell ⟨bz,o+1+1,none⟩ a).setCell ⟨bz,o+2+1,none⟩ b).setCell ⟨bz,o+3+1,none⟩ c).setCell ⟨bz,o+4+1,none⟩ d) X br bz B s i bad wr mx ts us (mS zs o v0 a b c d) tv u/\
  zI w (((((w.setCell ⟨bz,o+1,none⟩ v0).setCell ⟨bz,o+1+1,none⟩ a).setCell ⟨bz,o+2+1,none⟩ b).setCell ⟨bz,o+3+1,none⟩ c).setCell ⟨bz,o+4+1,none⟩ d) br bz tv u tv u:=by
 have h0:=R.setZ o v0;have h1:=h0.1.setZ (o+1) a;have a:=h1.1.setZ (o+2) b;have b:=a.1.setZ (o+3) c;have c:=b.1.setZ (o+4) d;exact⟨c.1,(((h0.2.trans h1.2).trans a.2).trans b.2).trans c.2⟩
end Go.Proofs.YtahhhgbojlkjnaaGreatDoor
