import Derived.Test.YtahhhgbojlkjnaaGreatDoorW07
import Derived.Laws.BitsLemmas
import Derived.Laws.BytesArg
import Derived.Lib.ItoaLen
set_option maxHeartbeats 16000000
set_option maxRecDepth 100000
set_option linter.defProp false
set_option linter.unusedSimpArgs false
open Go.Proofs.Tryz
namespace Go.Proofs.YtahhhgbojlkjnaaGreatDoor
open Go.RowKit
variable {k q b acc B c:Nat}{ds:Ar}{ks:Aa}{fs:Am}{t:PT}{f:PF}{pb:PB}{us:Av}{m:Int}{tx:BA}
def tM(s:BA)(env:Ay)(m:Int)(f:PF):Int:=
 match f.dflt with|none=>m|some (a,b)=>if (yD env true f.ty (s.extract a b)).isSome=true then m else zC (a:Int) m
def Vx{s:BA}{env:Ay}(h:fs[q]?=some f)(m:Int):dK s env (fs.take (q+1)) m=tM s env (dK s env (fs.take q) m) f:=by
 rw[a8_,h];unfold dK;rw[List.foldl_append];rfl
def DfE(W:Aw)(B bz:Nat)(s:BA)(env:Ay)(k q:Nat):Prop:=∀f a b d,(yA env k)[q]?=some f->f.dflt=some (a,b)->yD env true f.ty (s.extract a b)=some d->
 ∃g n c v,W.cell? ⟨bz,1+k*5+1,none⟩=some (S_ g n c)/\(∀j x,v[j]?=some x->W.cell? ⟨g,q*10+5+j,none⟩=some x)/\zF W (λx=>B<=x) d v
def DfE.fr{W W':Aw}{bz:Nat}{s:BA}{env:Ay}(h:DfE W B bz s env k q)(e:Fr W W' N_):DfE W' B bz s env k q:=λf a b d h1 r u=>by
 obtain⟨g,n,c,v,l,o,p⟩:=h f a b d h1 r u;exact⟨g,n,c,v,e.ke l,λj x hx=>e.ke (o j x hx),p.fr e u_⟩
def wS(k q:Nat):Nat->Nat->Prop:=λa b=>a<k\/(a=k/\b<q)
def Zd{W:Aw}{g o:Nat}(v0 a l p r:Ax)(h:∀j,j<5->∃u,W.cell? ⟨g,o+j,none⟩=some u)(j:Nat)(x:Ax)(hx:[v0,a,l,p,r][j]?=some x):(World.setCell (World.setCell (World.setCell (World.setCell (World.setCell W ⟨g,o,none⟩ v0) ⟨g,o+1,none⟩ a) ⟨g,o+2,none⟩ l) ⟨g,o+3,none⟩ p) ⟨g,o+4,none⟩ r).cell? ⟨g,o+j,none⟩=some x:=by
 have ne:∀{V:World} {i k:Nat} {y z:Value},i≠k->V.cell? ⟨g,o+i,none⟩=some z->(V.setCell ⟨g,o+k,none⟩ y).cell? ⟨g,o+i,none⟩=some z:=λa hz=>(World.cell?_setCell_other _ _ _ _ (λe=>a (by simp only[Addr.mk.injEq]at e;omega))).trans hz;have st:∀{V:World} {i:Nat} {y z:Value},V.cell? ⟨g,o+i,none⟩=some z->(V.setCell ⟨g,o+i,none⟩ y).cell? ⟨g,o+i,none⟩=some y:=λhz=>World.cell?_setCell_same _ _ _ hz;have a:j<5:=(am_.1 hx).1;obtain⟨u,hu⟩:=h j a
 match j,a with
 | 0,_=>cases hx;exact ne D_ (ne D_ (ne D_ (ne D_ (st (i:=0) hu))))
 | 1,_=>cases hx;exact ne D_ (ne D_ (ne D_ (st (ne (k:=0) D_ hu))))
 | 2,_=>cases hx;exact ne D_ (ne D_ (st (ne D_ (ne (k:=0) D_ hu))))
 | 3,_=>cases hx;exact ne D_ (st (ne D_ (ne D_ (ne (k:=0) D_ hu))))
 | 4,_=>cases hx;exact st (ne D_ (ne D_ (ne D_ (ne (k:=0) D_ hu))))
structure xS(w:Aw)(P1 P2:Au)(bz:Nat)(s:BA)(ts:Aq)(env:Ay)(rt:Ax)(D:Nat->Nat->Prop)(W:Aw):Prop where
 Z:SZ W P1 P2 bz s ts env rt
 fr:Fr w W P2
 l1:∀g,P1 g->g<w.heap.size
 l2:∀g,P2 g->g<w.heap.size
 dd:∀k q,k<6->D k q->DfE W w.heap.size bz s env k q
section
variable {w W W':Aw} {P1 P2:Au} {bz:Nat} {s:BA} {ts:Aq} {env:Ay} {rt:Ax} {D:Nat->Nat->Prop}
def xS.own(M:xS w P1 P2 bz s ts env rt D W)(a:Fr W W' N_):xS w P1 P2 bz s ts env rt D W':=
 ⟨M.Z.fr a u_ u_,M.fr.trans a (λ_ _ e=>e.elim),M.l1,M.l2,λk q hk h=>(M.dd k q hk h).fr a⟩
def xS.alloc(M:xS w P1 P2 bz s ts env rt D W)(o:Cj):xS w P1 P2 bz s ts env rt D (W.alloc o):=M.own ((A_ W _).alloc o)
def xS.store(M:xS w P1 P2 bz s ts env rt D W){g q0 n:Nat}(l:Nat){x:Ax}(hk:k<6)(hc:W.cell? ⟨bz,1+k*5+1,none⟩=some (S_ g n c))(I:¬D k q0)(hg:P2 g)(hp:5<=l/\l<10)(hx:YY l x):xS w P1 P2 bz s ts env rt D (W.setCell ⟨g,q0*10+l,none⟩ x)/\(W.setCell ⟨g,q0*10+l,none⟩ x).cell? ⟨bz,1+k*5+1,none⟩=some (S_ g n c):=by
 have A:g≠bz:=λe=>M.Z.dis g hg (e▸M.Z.zP);have p:∀{b o:Nat} {v:Value},(g=b->q0*10+l≠o)->W.cell? ⟨b,o,none⟩=some v->(W.setCell ⟨g,q0*10+l,none⟩ x).cell? ⟨b,o,none⟩=some v:=λh e=>(World.cell?_setCell_other _ _ _ _ (λe=>by simp only[Addr.mk.injEq]at e;first|exact h e.1.symm e.2.1.symm|exact h e.1 e.2.1)).trans e;refine⟨⟨by rw[a7_];exact M.Z.store hg hp hx,M.fr.setCell _ _ (λ_=>hg),M.l1,M.l2,λJ q h1 u f a b d F G H=>?_⟩,p (λe=>absurd e A) hc⟩;obtain⟨g',K,C,v,r,E,l⟩:=M.dd J q h1 u f a b d F G H;have hl:=M.l2 g hg;refine⟨g',K,C,v,p (λe=>absurd e A) r,λj y hy=>p (λe=>?_) (E j y hy),l.fr (V_ _ _ _) (λz hz e=>?_)⟩
 .have p:=(am_.1 hy).1;rw[l.len]at p;subst e;obtain rfl:=M.Z.apt hk h1 hc r;exact λe=>I (by rw[show q0=q by omega];exact u)
 .have:z=g:=e;omega
def xS.more{a:Nat->Nat->Prop}(M:xS w P1 P2 bz s ts env rt D W)(h:∀k q,k<6->a k q->D k q\/DfE W w.heap.size bz s env k q):xS w P1 P2 bz s ts env rt a W:=
 ⟨M.Z,M.fr,M.l1,M.l2,λk q hk a=>(h k q hk a).elim (M.dd k q hk) id⟩
def xS.next(M:xS w P1 P2 bz s ts env rt (wS k q) W)(h:DfE W w.heap.size bz s env k q):xS w P1 P2 bz s ts env rt (wS k (q+1)) W:=M.more (λa b _ g=>by
 unfold wS at g⊢
 by_cases e:a=k/\b=q
 .obtain⟨rfl,rfl⟩:=e
  exact .inr h
 .exact .inl M_)
def xS.over(M:xS w P1 P2 bz s ts env rt (wS k q) W)(h:(yA env k).length<=q):xS w P1 P2 bz s ts env rt (wS (k+1) 0) W:=M.more (λa b _ g=>by
 unfold wS at g⊢
 by_cases e:a=k/\q<=b
 .obtain⟨rfl,e⟩:=e
  exact .inr (λf _ _ _ g=>by rw[bq_ M_]at g;cases g)
 .exact .inl M_)
end
def mG{w:Aw}{P1 P2:Au}{bz:Nat}{s:BA}{ts:Aq}{env:Ay}{rt:Ax}(M:xS w P1 P2 bz s ts env rt (wS 0 0) w)(hs:s.size<=300)(hE:jr env)(a8:∀k,k<6->(yA env k).length<=300)(b4:∀k f,k<6->f∈yA env k->okT env f.ty):Calls prog 25 #[.pointer (some ⟨bz,0,none⟩)] w λe w'=>e=.returned (Z_ (xm s env 6))/\xS w P1 P2 bz s ts env rt (wS 6 0) w':=by
 refine hq_ λf1 Q_=>?_;replace hE:=zy hE;replace a8:=zy a8;replace b4:=zy b4;have b8:=zy (⟨0,M_,M_,rfl,rfl,M⟩:∃k:Nat,k<=6/\7-k<=7/\Value.int .i64 0=Z_ (k:Int)/\Value.int .i64 (-1)=Z_ (xm s env k)/\xS w P1 P2 bz s ts env rt (wS k 0) w);clear M;go_in;go_wp2_with fail;go_loopg [3,4] 7 (λmm v3 v4 W=>∃k:Nat,k<=6/\7-k<=mm/\v4=Z_ (k:Int)/\v3=Z_ (xm s env k)/\xS w P1 P2 bz s ts env rt (wS k 0) W);case atStart=>exact b8.o
 case round=>
  clear b8;obtain⟨k,hk,f7,rfl,rfl,M⟩:=hrel;by_cases I:k<6
  .have d8:(k:Int)<6:=M_;have f6:=a8.o k I;have b9:=zy (⟨0,M_,M_,rfl,rfl,M⟩:∃q:Nat,q<=(yA env k).length/\(yA env k).length+1-q<=(yA env k).length+1/\Value.int .i64 0=Z_ (q:Int)/\Value.int .i64 (xm s env k)=Z_ (dK s env ((yA env k).take q) (xm s env k))/\xS w P1 P2 bz s ts env rt (wS k q) wr);clear M;go_wp2_with fail;go_loopg [3,5] ((yA env k).length+1) (λmm v3 v5 W=>∃q:Nat,q<=(yA env k).length/\(yA env k).length+1-q<=mm/\v5=Z_ (q:Int)/\v3=Z_ (dK s env ((yA env k).take q) (xm s env k))/\xS w P1 P2 bz s ts env rt (wS k q) W);case atStart=>exact b9.o
   case round=>
    clear b9;obtain⟨q,hq,f8,rfl,rfl,M⟩:=hrel;obtain⟨fa,fc,b6,a6⟩:=M.Z.fields I;by_cases e2:q<(yA env k).length
    .have e3:(q:Int)<((yA env k).length:Int):=M_;obtain⟨f,K⟩:∃f,(yA env k)[q]?=some f:=⟨_,ak_ e2⟩;have d6:=zy (b4.o k f I (al_ K));have S:=zy (Vx (s:=s) (env:=env) K (xm s env k));obtain⟨g,num,xa,xb,xt,y1,y2,y3,y4,y5,y6,rfl,hg,a7,e0,Q,H,Y,e4,e5,e6,e7,e8,e9,b5⟩:=a6 q f K;obtain⟨m,hm⟩:∃m,dK s env ((yA env k).take q) (xm s env k)=m:=⟨_,rfl⟩;rw[hm]at S⊢;have d1:=zo e0;clear a6;replace K:=zy K;replace hm:=zy hm;replace M:=zy M;replace hg:=zy hg;replace a7:=zy a7;replace b5:=zy b5;cases C:f.dflt with
     |none=>
      simp only[C,by_]at H;replace C:=zy C;go_wp2_with fail;go_roundg ((yA env k).length+1-(q+1));case measure=>omega
      case rel=>exact⟨q+1,M_,l_,by simp,by rw[S.o];unfold tM;rw[C.o],(M.o.alloc _).next (λf' _ _ _ Q H=>by rw[K.o]at Q;cases Q;rw[C.o]at H;cases H)⟩
     |some ab=>
      obtain⟨a,b⟩:=ab;simp only[C,b3_]at H;rw[show Wn f=a by simp[Wn,C]]at Y;rw[show Wt s f=s.extract a b by simp[Wt,C]]at e4;obtain⟨tx,G⟩:∃t,t=s.extract a b:=⟨_,rfl⟩;rw[<- G]at e4;have f0:tx.size<=4000:=by rw[G,a3_];omega
      obtain⟨a2,hr⟩:∃a2,yD env true f.ty tx=a2:=⟨_,rfl⟩;replace G:=zy G;replace hr:=zy hr;replace C:=zy C;obtain⟨b7,a9⟩:∃x,x=(f.letter:Int):=⟨_,rfl⟩;change _=some (Value.int .u8 (f.letter:Int)) at e0;rw[<- a9]at e0;replace a9:=zy a9;go_wp2_with (go_at_call 44;refine(Kn (M.o.alloc _).Z.toZ (λx hx=>by have h1:=M.o.fr.size;rcases hx with hx|hx;have:=M.o.l1 x hx;simp;omega;have:=M.o.l2 x hx;simp;omega) f0 a7.o (Vf hE.o d6.o)).mono ?_;intro e J hP;rw[hr.o]at hP;obtain⟨r,u,A,l,E,c1,p,F,c2,rfl,U,V⟩:=hP;have M2:=zy ((M.o.alloc (.cells #[.int .u8 b7,Z_ (num:Int),.bool true,Z_ (a:Int),.string tx,.int .u8 xa,Z_ xb,.string xt,.slice y1 y2 y3,.slice y4 y5 y6] 60)).own U);have Bf:=zy (U.bl (B_ wr #[.int .u8 b7,Z_ (num:Int),.bool true,Z_ (a:Int),.string tx,.int .u8 xa,Z_ xb,.string xt,.slice y1 y2 y3,.slice y4 y5 y6] 60) id);replace U:=zy U;replace V:=zy V);change Code.wp _ _ _ _ (J.alloc (.cells #[.int .u8 (r:Int),Z_ u,.string A,.slice l E c1,.slice p F c2] 32));have M3:=M2.o.alloc (.cells #[.int .u8 (r:Int),Z_ u,.string A,.slice l E c1,.slice p F c2] 32);have X3:=B_ J #[.int .u8 (r:Int),Z_ u,.string A,.slice l E c1,.slice p F c2] 32;have a3:=Bf.o.alloc (.cells #[.int .u8 (r:Int),Z_ u,.string A,.slice l E c1,.slice p F c2] 32);have a0:Fr wr (J.alloc (.cells #[.int .u8 (r:Int),Z_ u,.string A,.slice l E c1,.slice p F c2] 32)) (λ_=>False):=(((A_ wr (λ_=>False)).alloc _).trans U.o u_).alloc _;replace V:H_ (∀d,a2=some d->zF (J.alloc (.cells #[.int .u8 (r:Int),Z_ u,.string A,.slice l E c1,.slice p F c2] 32)) (λx=>w.heap.size<=x) d [.int .u8 (r:Int),Z_ u,.string A,.slice l E c1,.slice p F c2]):=zy (λd e=>((V.o d e).mono (λx _ hx=>by have:=M.o.fr.size;simp at hx;omega)).fr ((A_ J (λ_=>False)).alloc _) u_);have d2:=Bf.o.lt;have f9:wr.heap.size<J.heap.size:=d2;generalize J.alloc (.cells #[.int .u8 (r:Int),Z_ u,.string A,.slice l E c1,.slice p F c2] 32)=W3 at *;generalize J.heap.size=bx at *;have L:=λ(b o:Nat) (v:Value) (h:wr.cell? ⟨b,o,none⟩=some v)=>(World.cell?_of_block (a:=⟨b,o,none⟩) (a0.block b (zo h) id)).trans h;have T:=λ(o:Nat)=>(World.frozen?_of_block (a:=⟨g,o,none⟩) (a0.block g d1 id)).trans (b5.o o);have X:=L _ _ _ b6;have w5:=L _ _ _ e5;have w6:=L _ (q*10+5+1) _ e6;have w7:=L _ (q*10+5+2) _ e7;have w8:=L _ (q*10+5+3) _ e8;have w9:=L _ (q*10+5+4) _ e9;have z5:=T (q*10+5);have z6:=T (q*10+5+1);have z7:=T (q*10+5+2);have z8:=T (q*10+5+3);have z9:=T (q*10+5+4);obtain⟨x0,x1,x2,x3,x4⟩:=X3.d5;replace M3:=zy M3;replace X3:=zy X3;replace a3:=zy a3;replace a0:=zy a0;clear L T;refine tr_ 11 (λW=>z_ W bz (1+k*5+1) (S_ g (yA env k).length fc)/\z_ W bx 0 (.int .u8 (r:Int))/\z_ W bx 1 (Z_ u)/\z_ W bx 2 (.string A)/\z_ W bx 3 (.slice l E c1)/\z_ W bx 4 (.slice p F c2)) ?_;refine tz_ 0 ?_;refine tz_ 1 ?_;refine tz_ 2 ?_;refine tz_ 3 ?_;refine tz_ 4 ?_;refine tz_ 5 ?_;refine tz_ 6 ?_;refine tz_ 7 ?_;refine tz_ 8 ?_;refine t1_ 9 ⟨X,x0,x1,x2,x3,x4⟩ ?_;refine t1_ 10 ⟨X,x0,x1,x2,x3,x4⟩ ?_;refine t1_ 11 ⟨X,x0,x1,x2,x3,x4⟩ ?_;refine td_ ?_ _;have R:¬wS k q k q:=λh=>by unfold wS at h;omega
      obtain⟨N1,n1⟩:=M3.o.store 5 I X R hg.o M_ (x:=.int .u8 (r:Int)) ⟨_,rfl⟩;obtain⟨N2,n2⟩:=N1.store 6 I n1 R hg.o M_ (x:=Z_ u) ⟨_,rfl⟩;obtain⟨N3,n3⟩:=N2.store 7 I n2 R hg.o M_ (x:=.string A) ⟨_,rfl⟩;obtain⟨N4,n4⟩:=N3.store 8 I n3 R hg.o M_ (x:=.slice l E c1) ⟨_,_,_,rfl⟩;obtain⟨N5,n5⟩:=N4.store 9 I n4 R hg.o M_ (x:=.slice p F c2) ⟨_,_,_,rfl⟩;have a5:Fr W3 (World.setCell (World.setCell (World.setCell (World.setCell (World.setCell W3 ⟨g,q*10+5,none⟩ (.int .u8 (r:Int))) ⟨g,q*10+5+1,none⟩ (Z_ u)) ⟨g,q*10+5+2,none⟩ (.string A)) ⟨g,q*10+5+3,none⟩ (.slice l E c1)) ⟨g,q*10+5+4,none⟩ (.slice p F c2)).drew (λb=>b=g):=((((((A_ W3 (λb=>b=g)).setCell ⟨g,q*10+5,none⟩ (.int .u8 (r:Int)) (λ_=>rfl)).setCell ⟨g,q*10+5+1,none⟩ (Z_ u) (λ_=>rfl)).setCell ⟨g,q*10+5+2,none⟩ (.string A) (λ_=>rfl)).setCell ⟨g,q*10+5+3,none⟩ (.slice l E c1) (λ_=>rfl)).setCell ⟨g,q*10+5+4,none⟩ (.slice p F c2) (λ_=>rfl)).drew;have a4:=a5.bl a3.o M_;have d7:=M.o.l2 g hg.o;have O:xS w P1 P2 bz s ts env rt (wS k (q+1)) (World.setCell (World.setCell (World.setCell (World.setCell (World.setCell W3 ⟨g,q*10+5,none⟩ (.int .u8 (r:Int))) ⟨g,q*10+5+1,none⟩ (Z_ u)) ⟨g,q*10+5+2,none⟩ (.string A)) ⟨g,q*10+5+3,none⟩ (.slice l E c1)) ⟨g,q*10+5+4,none⟩ (.slice p F c2)).drew:=(N5.own ((A_ _ _).drew)).next (λf' a' b' d Q H Y=>⟨g,_,fc,[.int .u8 (r:Int),Z_ u,.string A,.slice l E c1,.slice p F c2],n5,Zd _ _ _ _ _ (λj hj=>match j,hj with|0,_=>⟨_,w5⟩|1,_=>⟨_,w6⟩|2,_=>⟨_,w7⟩|3,_=>⟨_,w8⟩|4,_=>⟨_,w9⟩),by
       rw[K.o]at Q
       cases Q
       rw[C.o]at H
       cases H
       rw[<- G.o,hr.o]at Y
       exact(V.o d Y).fr a5 (λz hz e=>by have:z=g:=e;have:w.heap.size<=z:=hz;omega)⟩)
      clear N1 N2 N3 N4 N5 n1 n2 n3 n4 n5 R a5 d7;generalize (World.setCell (World.setCell (World.setCell (World.setCell (World.setCell W3 ⟨g,q*10+5,none⟩ (.int .u8 (r:Int))) ⟨g,q*10+5+1,none⟩ (Z_ u)) ⟨g,q*10+5+2,none⟩ (.string A)) ⟨g,q*10+5+3,none⟩ (.slice l E c1)) ⟨g,q*10+5+4,none⟩ (.slice p F c2)).drew=W5 at *;have b3:=a4.c3;replace O:=zy O;replace a4:=zy a4;clear X x0 x1 x2 x3 x4 w5 w6 w7 w8 w9 z5 z6 z7 z8 z9;cases a1:a2.isSome with
      |true=>
       go_wp2_with fail;go_roundg ((yA env k).length+1-(q+1));case measure=>omega
       case rel=>exact⟨q+1,M_,l_,by simp,by rw[S.o];unfold tM;rw[C.o];simp only;rw[<- G.o,hr.o,if_pos a1],O.o⟩
      |false=>
       by_cases d9:m<0
       .go_wp2_with fail;go_roundg ((yA env k).length+1-(q+1));case measure=>omega
        case rel=>exact⟨q+1,M_,l_,by simp,by rw[S.o];unfold tM;rw[C.o];simp only;rw[<- G.o,hr.o,if_neg (by rw[a1];decide),zC,if_pos (.inl d9)],O.o⟩
       .by_cases d0:(a:Int)<m
        .go_wp2_with fail;go_roundg ((yA env k).length+1-(q+1));case measure=>omega
         case rel=>exact⟨q+1,M_,l_,by simp,by rw[S.o];unfold tM;rw[C.o];simp only;rw[<- G.o,hr.o,if_neg (by rw[a1];decide),zC,if_pos (.inr d0)],O.o⟩
        .go_wp2_with fail;go_roundg ((yA env k).length+1-(q+1));case measure=>omega
         case rel=>exact⟨q+1,M_,l_,by simp,by rw[S.o];unfold tM;rw[C.o];simp only;rw[<- G.o,hr.o,if_neg (by rw[a1];decide),zC,if_neg (λx=>x.elim (λy=>M_) (λy=>M_))],O.o⟩
    .have e3:¬(q:Int)<((yA env k).length:Int):=M_;have e1:=zy (show dK s env ((yA env k).take q) (xm s env k)=xm s env (k+1) by rw[a6_ M_];rfl);rw[e1.o];clear a6;replace M:=zy M;go_wp2_with fail;go_roundg (7-(k+1));case measure=>omega
     case rel=>exact⟨k+1,M_,l_,by simp,rfl,M.o.over M_⟩
  .have d8:¬(k:Int)<6:=M_;have l:=zy (show k=6 by omega);replace M:=zy M;go_wp2_with fail;rw[Q_.o];exact⟨by rw[l.o],l.o▸M.o⟩
def shB(N:Nat):PB->Prop
 | .recd fs=>(∀f∈fs,shT f.ty)/\fs.length<=N
 | .enum l _=>(∀c∈l.map Prod.fst,0<c)/\l.length<=N
 | .bytes n=>n<=9
def sf{s:BA}{i:Nat}{j:Nat}(h:zS s i=.ok (f,j)):shT f.ty:=by
 unfold zS at h;split at h
 .split at h
  .split at h
   .cases h
   .rename_i t k hp;have:=em hp;split at h
    .split at h
     .cases h
     .simp only[ag_,ac_]at h;obtain⟨rfl,_⟩:=h;exact this
    .simp only[ag_,ac_]at h;obtain⟨rfl,_⟩:=h;exact this
  .cases h
 .cases h
def lu(s:BA):∀(n i:Nat) (l:List PF) (j:Nat),i<=s.size->xj s n i=.ok (l,j)->(∀f∈l,shT f.ty)/\i+l.length<=s.size:=by
 intro n;induction n with
 |zero=>intro i l j _ h;cases h
 |succ n ih=>
  intro i l j r h;unfold xj at h;split at h
  .cases h
  .rename_i f k o;have h1:=(vl r).1 f k o;have a:=sf o;split at h
   .simp only[ag_,ac_]at h;obtain⟨rfl,_⟩:=h;exact⟨λg hg=>by rw[ba_]at hg;subst hg;exact a,by simp;omega⟩
   .split at h
    .rename_i u;have:=zr (s:=s) (i:=k) M_;split at h
     .cases h
     .rename_i fs e hr;simp only[ag_,ac_]at h;obtain⟨rfl,_⟩:=h;have p:=ih _ _ _ M_ hr;refine⟨λg hg=>?_,by rw[au_];omega⟩;rcases aq_.1 hg with rfl|hg
      .exact a
      .exact p.1 g hg
    .cases h
def sz(s:BA):∀(n i:Nat) (l:List (Nat×Nat)) (j:Nat),qC s n i=.ok (l,j)->(∀c∈l.map Prod.fst,0<c)/\i+l.length<=s.size:=by
 intro n;induction n with
 |zero=>intro i l j h;cases h
 |succ n ih=>
  intro i l j h;unfold qC at h;split at h
  .rename_i hs;have h0:=xo hs;have h1:=zr h0;split at h
   .split at h
    .cases h
    .rename_i fs e hr;simp only[ag_,ac_]at h;obtain⟨rfl,_⟩:=h;have a:=ih _ _ _ hr;refine⟨λg hg=>?_,by rw[au_];omega⟩;rw[aw_]at hg;rcases aq_.1 hg with rfl|hg
     .exact h0
     .exact a.1 g hg
   .simp only[ag_,ac_]at h;obtain⟨rfl,_⟩:=h;exact⟨λg hg=>by simp only[aw_,a5_,ba_]at hg;subst hg;exact h0,by simp;omega⟩
  .cases h
def eV{s:BA}{i:Nat}{j:Nat}(h:xu s i=.ok (pb,j)):shB s.size pb:=by
 unfold xu at h;split at h
 .rename_i v;have:=zr (s:=s) (i:=i) M_;split at h
  .cases h
  .rename_i fs k hp;simp only[ag_,ac_]at h;obtain⟨rfl,_⟩:=h;unfold yh at hp;split at hp
   .rename_i x;have:=zr (s:=s) (i:=i+1) M_;split at hp
    .simp only[ag_,ac_]at hp;obtain⟨rfl,_⟩:=hp;exact⟨λf g=>by simp at g,aj_ _⟩
    .have:=lu s _ _ _ _ M_ hp;exact⟨this.1,M_⟩
   .cases hp
 .split at h
  .split at h
   .cases h
   .rename_i l o k hp;simp only[ag_,ac_]at h;obtain⟨rfl,_⟩:=h;unfold xZ at hp;split at hp
    .split at hp
     .cases hp
     .rename_i u y p;have r:=sz s _ _ _ _ p;have a:l=u->shB s.size (.enum l o):=λe=>by subst e;exact⟨r.1,M_⟩
      split at hp
      .split at hp
       .split at hp
        .simp only[ag_,ac_]at hp;exact a hp.1.1.symm
        .cases hp
       .cases hp
      .split at hp
       .simp only[ag_,ac_]at hp;exact a hp.1.1.symm
       .cases hp
    .cases hp
  .split at h
   .split at h
    .rename_i hd;simp only[ag_,ac_]at h;obtain⟨rfl,_⟩:=h;simp only[shB];omega
    .cases h
   .cases h
def su(s:BA):∀(n i:Nat) (ds:List PD) (e:Nat),yd s n i=.ok (ds,e)->∀d∈ds,shB s.size d.body:=by
 intro n;induction n with
 |zero=>intro i ds e h d hd;simp only[yd,ag_,ac_]at h;rw[<- h.1]at hd;simp at hd
 |succ n ih=>
  intro i ds e h;unfold yd at h;split at h
  .split at h
   .split at h
    .cases h
    .rename_i pb j hp;split at h
     .split at h
      .cases h
      .rename_i ds' e' hr;simp only[ag_,ac_]at h;obtain⟨rfl,_⟩:=h;intro d hd;rcases aq_.1 hd with rfl|hd
       .exact eV hp
       .exact ih _ _ _ hr d hd
     .cases h
   .cases h
  .simp only[ag_,ac_]at h;obtain⟨rfl,_⟩:=h;intro d hd;simp at hd
def cq38_{p:Prop}(h:p:=by
 unfold zQ at h;split at h
 .cases h
 .rename_i ds' i hd;split at h
  .cases h
  .rename_i t' j a;split at h
   .cases h
   .simp only[ag_,ac_]at h;obtain⟨rfl,rfl⟩:=h;(first|(have:=cc1;exact⟨_,_,Xw s _ _ _ _ hd⟩)|(have:=cc2;exact⟨su s _ _ _ _ hd,em a⟩)|(obtain⟨r1,e,g,l,o⟩:=oK s _ _ _ _ hd;obtain⟨r,u⟩:=oe a;exact⟨by rw[oO];exact lW ((r1 _ _).append (Asc.filter _ r)),by rw[iW];exact lW (e.append (u.up M_)),lW (g _),l,o⟩))):p:=h
def jS{s:BA}(h:zQ s=.ok (ds,t)):(∀d∈ds,shB s.size d.body)/\shT t:=by
 have cc2:=Nat
 exact cq38_
def zx(ds:Ar)(c:Nat):Option PB:=(vp 0 c ds).map Prod.fst
def gK{a:Nat}(h:vp b c ds=some (pb,a)):∃d∈ds,d.body=pb:=by
 induction ds generalizing b with
 |nil=>cases h
 |cons x r ih=>
  simp only[vp]at h;split at h
  .simp only[ae_,ac_]at h;exact⟨x,by simp,h.1⟩
  .obtain⟨d,hd,e⟩:=ih h;exact⟨d,by simp[hd],e⟩
def Wj{a:Nat}(h:vp b c ds=some (pb,a)):∃o,a=b+o/\∀q x,(pb.ts a)[q]?=some x->(vm b ds)[o+q]?=some x:=by
 induction ds generalizing b with
 |nil=>cases h
 |cons x r ih=>
  simp only[vp]at h;split at h
  .simp only[ae_,ac_]at h;obtain⟨rfl,rfl⟩:=h;refine⟨0,rfl,λq y hy=>?_⟩;rw[vm,bp_,ay_ (am_.1 hy).1];exact hy
  .obtain⟨o,e,a⟩:=ih h;refine⟨(x.body.ts b).length+o,M_,λq y hy=>?_⟩;rw[vm,ax_ M_,show(x.body.ts b).length+o+q-(x.body.ts b).length=o+q by omega];exact a q y hy
def ag(a:Nat)(m:Int):0<=zC (a:Int) m:=by
 unfold zC;split<;>omega
def wrU(env:Ay)(us:Av)(m:Int):Int:=us.foldl (λm u=>if (env u.1).isNone=true then zC (u.2:Int) m else m) m
def ZS{env:Ay}(h:wrU env us m<0):m<0/\∀u∈us,∃pb,env u.1=some pb:=by
 induction us generalizing m with
 |nil=>exact⟨h,λu hu=>by simp at hu⟩
 |cons u r ih=>
  simp only[wrU,List.foldl_cons]at h;obtain⟨h1,e⟩:=ih h;split at h1
  .have:=ag u.2 m;omega
  .rename_i hn;refine⟨h1,λv a=>?_⟩;rcases aq_.1 a with rfl|a
   .cases he:env v.1 with
    |none=>rw[he]at hn;exact absurd rfl hn
    |some pb=>exact⟨pb,rfl⟩
   .exact e v a
def JM{env:Ay}(hs:∀f∈fs,shT f.ty)(hu:∀u∈zG (fs.map PF.ty),∃pb,env u.1=some pb)(h:kN fs m<0):m<0/\∀f∈fs,okT env f.ty:=by
 induction fs generalizing m with
 |nil=>exact⟨h,λf a=>by simp at a⟩
 |cons f r ih=>
  simp only[kN,List.foldl_cons]at h;simp only[aw_,zG]at hu;obtain⟨h1,e⟩:=ih (λg hg=>hs g (by simp[hg])) (λu h=>hu u (b7_ _ h)) h;have a:=lh env f.ty m (hs f x8_) h1 (λu h=>hu u (ce_ _ h));refine⟨a.1,λg hg=>?_⟩;rcases aq_.1 hg with rfl|hg
  .exact a.2
  .exact e g hg
def aK{env:Ay}{N:Nat}(hs:∀d∈ds,shB N d.body)(hu:∀u∈ja ds,∃pb,env u.1=some pb)(h:qt ds m<0):m<0/\∀d∈ds,∀fs,d.body=.recd fs->∀f∈fs,okT env f.ty:=by
 induction ds generalizing m with
 |nil=>exact⟨h,λf y=>by simp at y⟩
 |cons d r ih=>
  simp only[qt,List.foldl_cons]at h;simp only[ja]at hu;obtain⟨h1,p⟩:=ih (λg hg=>hs g (by simp[hg])) (λu h=>hu u (b7_ _ h)) h;have x:=hs d x8_;cases hb:d.body with
  |recd fs=>
   rw[hb]at x h1 hu;have v:=JM x.1 (λu h=>hu u (ce_ _ h)) h1;refine⟨v.1,λg hg e a=>?_⟩;rcases aq_.1 hg with rfl|hg
   .rw[hb]at a;cases a;exact v.2
   .exact p g hg e a
  |enum l o=>
   rw[hb]at h1;refine⟨h1,λg hg e a=>?_⟩;rcases aq_.1 hg with rfl|hg
   .rw[hb]at a;cases a
   .exact p g hg e a
  |bytes n=>
   rw[hb]at h1;refine⟨h1,λg hg e a=>?_⟩;rcases aq_.1 hg with rfl|hg
   .rw[hb]at a;cases a
   .exact p g hg e a
def uu{s:BA}{m0 m1:Int}(hs:s.size<=300)(hp:zQ s=.ok (ds,t))(x:wrU (zx ds) (ja ds++zK t) m0<0)(hm:mix t (qt ds m1)<0):jr (zx ds)/\okT (zx ds) t/\(∀k,(yA (zx ds) k).length<=300)/\∀k f,f∈yA (zx ds) k->okT (zx ds) f.ty:=by
 obtain⟨h1,r⟩:=jS hp;obtain⟨_,h⟩:=ZS x;have p:=lh (zx ds) t _ r hm (λu hu=>h u (b7_ _ hu));have v:=(aK (env:=zx ds) h1 (λu hu=>h u (ce_ _ hu)) p.1).2;have body:∀c pb,zx ds c=some pb->shB s.size pb/\∀fs,pb=.recd fs->∀f∈fs,okT (zx ds) f.ty:=λc pb he=>by
  unfold zx at he;cases hl:vp 0 c ds with
  |none=>rw[hl]at he;cases he
  |some q=>
   obtain⟨A,y⟩:=q;rw[hl]at he;simp only[a4_,ae_]at he;subst he;obtain⟨d,hd,rfl⟩:=gK hl;exact⟨h1 d hd,λfs e=>v d hd fs e⟩
 have flds:∀k fs,yA (zx ds) k=fs->fs≠[]->zx ds (65+k)=some (.recd fs):=λk fs e a=>by
  unfold yA at e;split at e
  .rename_i z he;subst e;exact he
  .exact absurd e.symm a
 refine⟨λc pb he=>?_,p.2,λk=>?_,λk f g=>?_⟩
 .obtain⟨b1,b2⟩:=body c pb he;cases pb with
  |recd fs=>exact b2 fs rfl
  |enum l o=>exact⟨b1.1,ai_ b1.2 hs⟩
  |bytes n=>exact b1
 .by_cases a:yA (zx ds) k=[]
  .rw[a];exact aj_ _
  .exact ai_ (body _ _ (flds k _ rfl a)).1.2 hs
 .have a:yA (zx ds) k≠[]:=λe=>by rw[e]at g;simp at g
  exact(body _ _ (flds k _ rfl a)).2 _ rfl f g
def tW:∀(l:List (List Value)),(∀x∈l,x.length=10)->∀(q p:Nat) (x:List Value),l[q]?=some x->p<10->l.flatten[10*q+p]?=x[p]?
 | [],_,q,p,x,h,_=>by simp at h
 |y::r,hl,q,p,x,h,hp=>by
  have hy:=hl y x8_;rw[List.flatten_cons];cases q with
  |zero=>
   simp only[aa_,ae_]at h;subst h;rw[Nat.mul_zero,bp_,ay_ M_]
  |succ q=>
   rw[ab_]at h;rw[ax_ M_,show 10*(q+1)+p-y.length=10*q+p by omega];exact tW r (λz hz=>hl z (by simp[hz])) q p x h hp
def iT{s:BA}{num:Nat}(e:fs[q]?=some f)(hn:(qk b (fs.map PF.ty))[q]?=some num)(p:Nat)(hp:p<10):(yR s b fs)[10*q+p]?=(sS s f num)[p]?:=by
 unfold yR;refine tW _ (λx hx=>?_) q p _ ?_ hp
 .obtain⟨i,a⟩:=cf_ hx;rw[List.getElem?_zipWith]at a;split at a
  .simp only[ae_]at a;subst a;rfl
  .cases a
 .rw[List.getElem?_zipWith,e,hn]
def Qj{s:BA}{ts:Aq}(h:cw ts (qk b (fs.map PF.ty)) (fs.map PF.ty)):Kz s ts fs (yR s b fs):=by
 intro q f e;obtain⟨num,hn,g⟩:=wB h q f.ty (by rw[a1_,e];rfl);have a:=λp hp=>iT (s:=s) e hn p hp;refine⟨⟨num,g,a 1 M_⟩,a 0 M_,a 2 M_,?_,?_,λp g e=>?_⟩
 .rw[a 3 M_];rfl
 .rw[a 4 M_];rfl
 .rw[a p e]
  match p,g,e with
  | 5,_,_=>exact⟨_,rfl,_,rfl⟩
  | 6,_,_=>exact⟨_,rfl,_,rfl⟩
  | 7,_,_=>exact⟨_,rfl,_,rfl⟩
  | 8,_,_=>exact⟨_,rfl,_,_,_,rfl⟩
  | 9,_,_=>exact⟨_,rfl,_,_,_,rfl⟩
def VF{w W:Aw}{X Xk:Au}{br bz:Nat}{s:BA}{tv0 u0 tv u:Ax}{j:Nat}{bad:Ap}{wg MX:Int}{F:Aq}{US:Av}{zs:Az}{rt:Ax}(M:WM w X br bz B s tv0 u0 ds j bad wg MX (vm 0 ds++F) US Xk zs tv u W)(G:zs[30]?=some rt):SZ W (λg=>g<W.heap.size/\¬Xk g) (λg=>Xk g/\B<=g) bz s (vm 0 ds++F) (zx ds) rt:=by
 obtain⟨xs,hx,hk⟩:=M.R.tys;refine⟨λg hg h=>h.2 hg.1,⟨M.R.z.lt,λh=>(M.R.av _ h).2.2.1 rfl⟩,tv,zs,M.R.z,⟨G,M.D.1.2⟩,⟨xs,yP hx,λg e=>⟨(hx.lt g e).2,λh=>(M.R.av g h).2.2.2.1 e⟩,λk t F=>?_⟩,λk G=>?_⟩
 .obtain⟨sv,a,b,c,d⟩:=hk k t F;exact⟨sv,a,b,yP c.1,λg e=>⟨(c.1.lt g e).2,λh=>d g h e⟩⟩
 .obtain⟨so,fv,sb,o,n,F,ys,h1,A,F,v⟩:=M.D.2 k G;have C:∀g,fv.ownBlock=some g->Xk g/\B<=g:=λg e=>⟨F g e,(A.lt g e).1⟩;cases hl:vp 0 (65+k) ds with
  |none=>
   rw[hl]at v;obtain⟨y,rfl⟩:=v;have he:zx ds (65+k)=none:=by unfold zx;rw[hl];rfl
   have p:yA (zx ds) k=[]:=zk_
   refine⟨so,fv,sb,o,n,ys,h1,by rw[p];exact yP A,C,by rw[p];intro q f r;simp at r,by rw[he];exact y⟩
  |some q=>
   obtain⟨pb,b⟩:=q;rw[hl]at v;have he:zx ds (65+k)=some pb:=by unfold zx;rw[hl];rfl
   obtain⟨F,e',H⟩:=Wj hl;cases pb with
   |recd fs=>
    obtain⟨y,rfl,rfl,_⟩:=v;have p:yA (zx ds) k=fs:=zk_
    refine⟨so,fv,sb,o,n,_,h1,by rw[p];exact yP A,C,?_,by rw[he];exact y⟩;rw[p];refine Qj (pc _ _ _ (λq x r=>?_));have:=H q x r;rw[e',bp_,ay_ (am_.1 this).1];exact this
   |enum l un=>
    obtain⟨y,rfl,E,d3,_⟩:=v;have p:yA (zx ds) k=[]:=zk_
    exact⟨so,fv,sb,o,n,ys,h1,by rw[p];exact yP A,C,by rw[p];intro q f r;simp at r,by rw[he];exact⟨y,E,d3⟩⟩
   |bytes m=>
    obtain⟨y,rfl,_,E⟩:=v;have p:yA (zx ds) k=[]:=zk_
    exact⟨so,fv,sb,o,n,ys,h1,by rw[p];exact yP A,C,by rw[p];intro q f r;simp at r,by rw[he];exact⟨y,E⟩⟩
def VA(ts:Aq)(t:PT):isT (ts++flat ts.length t) (ts.length+(flat ts.length t).length-1) t:=
 lE _ t _ (λq x a=>by rw[ax_ M_,ck_];exact a)
def xV.sortAt{W:Aw}{X:Au}{s:BA}{zs:Az}(h:xV W X B s zs ds)(hk:k<6):∃so:Int,zs[5*k]?=some (.int .u8 so)/\(so==0)=(zx ds (65+k)).isNone:=by
 obtain⟨so,fv,sb,o,n,a,ys,h1,a,a,a⟩:=h.2 k hk;refine⟨so,h1 0 M_,?_⟩;unfold zx;cases hl:vp 0 (65+k) ds with
 |none=>rw[hl]at a;rw[a.1];rfl
 |some q=>
  obtain⟨pb,b⟩:=q;rw[hl]at a;have:=a.sort;simp only[a4_,Option.isNone_some,beq_eq_false_iff_ne];exact this
mutual
def uf:∀(t:PT),shT t->∀u∈zK t,zZ u.1=true
 | .leaf c p,h,u,hu=>by
  simp only[zK]at hu;cases hb:zY c with
  |true=>rw[hb]at hu;simp at hu
  |false=>
   rw[hb]at hu;simp only[a2_,if_false,ba_]at hu;subst hu;simp only[shT,hb]at h;exact h.resolve_left D_
 | .wrap c p t,h,u,hu=>uf t h.2 u hu
 | .alts p l,h,u,hu=>wh l h.2 u hu
def wh:∀(l:List PT),iC l->∀u∈zG l,zZ u.1=true
 | [],_,u,hu=>by simp[zG]at hu
 |t::r,h,u,hu=>by
  simp only[zG]at hu;rcases bn_.1 hu with hu|hu
  .exact uf t h.1 u hu
  .exact wh r h.2 u hu
end
def ZA:∀(l:List PT),(∀t∈l,shT t)->iC l
 | [],_=>trivial
 |t::r,h=>⟨h t (by simp),ZA r (λu hu=>h u (by simp[hu]))⟩
def ny{N:Nat}:∀(ds:List PD),(∀d∈ds,shB N d.body)->∀u∈ja ds,zZ u.1=true
 | [],_,u,hu=>by simp[ja]at hu
 |d::r,h,u,hu=>by
  simp only[ja]at hu;rcases bn_.1 hu with hu|hu
  .have hb:=h d x8_;cases hd:d.body with
   |recd fs=>
    rw[hd]at hb hu;refine wh _ (ZA _ (λt e=>?_)) u hu;obtain⟨f,a,rfl⟩:=bl_.1 e;exact hb.1 f a
   |enum l o=>rw[hd]at hu;simp[PB.us]at hu
   |bytes n=>rw[hd]at hu;simp[PB.us]at hu
  .exact ny r (λd hd=>h d (by simp[hd])) u hu
def mg{p:Ct}(h:us[q]?=some p):(jo us)[2*q]?=some (U_ p.1)/\(jo us)[2*q+1]?=some (I_ p.2):=by
 induction us generalizing q with
 |nil=>simp at h
 |cons x r ih=>
  cases q with
  |zero=>simp only[aa_,ae_]at h;subst h;exact⟨rfl,rfl⟩
  |succ q=>
   rw[ab_]at h;obtain⟨a,b⟩:=ih h;refine⟨?_,?_⟩
   .rw[show 2*(q+1)=2*q+1+1 by omega];exact a
   .rw[show 2*(q+1)+1=2*q+1+1+1 by omega];exact b
def VV{env:Ay}{u:Ct}(h:us[q]?=some u)(m:Int):wrU env (us.take (q+1)) m=if (env u.1).isNone=true then zC (u.2:Int) (wrU env (us.take q) m) else wrU env (us.take q) m:=by
 rw[a8_,h];unfold wrU;rw[List.foldl_append];rfl
def zl(s:BA):Int×Int:=
 if 300<s.size then (1,0)
 else match zQ s with
  | .error k=>(2,(k:Int))
  | .ok (ds,t)=>
   if 0<=wrU (zx ds) (ja ds++zK t) (qp [] ds (-1)) then (3,wrU (zx ds) (ja ds++zK t) (qp [] ds (-1)))
   else if 0<=mix t (qt ds (-1)) then (4,mix t (qt ds (-1)))
   else if 0<=xm s (zx ds) 6 then (5,xm s (zx ds) 6)
   else (0,0)
def xN(W:Aw)(lo:Nat)(s:BA)(zv:Ax):Prop:=
 ∃(bz:Nat) (ds:List PD) (t:PT) (ts:List TR) (root:Nat) (P1 P2:Nat->Prop),zv=P_ bz/\zQ s=.ok (ds,t)/\SZ W P1 P2 bz s ts (zx ds) (I_ root)/\isT ts root t/\jr (zx ds)/\okT (zx ds) t/\
  (∀g,P1 g\/P2 g->g<W.heap.size)/\(∀g,P2 g->lo<=g)/\(∀k q,k<6->DfE W 0 bz s (zx ds) k q)
def jN(w:Aw)(s:BA)(e:Ah)(w':Aw):Prop:=
 ∃zv,e=.returned (.tuple #[zv,Z_ (zl s).1,Z_ (zl s).2])/\Fr w w' N_/\if (zl s).1=0 then xN w' w.heap.size s zv else zv=.pointer none
def dU:List Value:=zO++zO++zO++zO++zO++zO++[O_]
def pw(w:Aw)(s:BA):World:=
 (w.alloc (.cells (Value.slice none 0 0::dU).toArray 42)).alloc (.cells #[.string s,O_,.bool false,P_ w.heap.size,L_,Z_ (-1),Z_ (-1)] 81)
def Fh(w:Aw)(s:BA)(hs:s.size<=300):Rep (pw w s) N_ (w.heap.size+1) w.heap.size (w.heap.size+2) s 0 false (-1) (-1) [] [] dU (L_) (L_):=by
 refine⟨?_,(B_ w _ _).alloc _,⟨[],World.ownsRow_nil _ _ _ _,λk t a=>by simp at a⟩,World.ownsRow_nil _ _ _ _,λg hg=>by simp[Value.ownBlock]at hg,M_,M_,by simp[pw],M_,aj_ _,hs,aj_ _,aj_ _,λg hg=>hg.elim⟩;have:=B_ (w.alloc (.cells (Value.slice none 0 0::dU).toArray 42)) #[.string s,O_,.bool false,P_ w.heap.size,L_,Z_ (-1),Z_ (-1)] 81;have e:(w.alloc (.cells (Value.slice none 0 0::dU).toArray 42)).heap.size=w.heap.size+1:=x8_
 rw[e]at this;exact this
def Ks(w:Aw)(s:BA):xV (pw w s) N_ (w.heap.size+2) s dU []:=by
 have key:∀k,k<6->∀p,p<5->dU[5*k+p]?=(gB 0 (L_) ⟨#[]⟩ 0 0)[p]?:=λk hk p hp=>by
  match k,hk with
  | 0,_=>match p,hp with|0,_=>rfl|1,_=>rfl|2,_=>rfl|3,_=>rfl|4,_=>rfl
  | 1,_=>match p,hp with|0,_=>rfl|1,_=>rfl|2,_=>rfl|3,_=>rfl|4,_=>rfl
  | 2,_=>match p,hp with|0,_=>rfl|1,_=>rfl|2,_=>rfl|3,_=>rfl|4,_=>rfl
  | 3,_=>match p,hp with|0,_=>rfl|1,_=>rfl|2,_=>rfl|3,_=>rfl|4,_=>rfl
  | 4,_=>match p,hp with|0,_=>rfl|1,_=>rfl|2,_=>rfl|3,_=>rfl|4,_=>rfl
  | 5,_=>match p,hp with|0,_=>rfl|1,_=>rfl|2,_=>rfl|3,_=>rfl|4,_=>rfl
 exact⟨⟨rfl,λk a v a g hk _ e _ b=>by
  rw[key k hk 1 M_]at e
  cases e
  simp[Value.ownBlock]at b⟩,λk hk=>⟨0,L_,⟨#[]⟩,0,0,0,[],key k hk,World.ownsRow_nil _ _ _ _,λg hg=>by simp[Value.ownBlock]at hg,rfl,rfl⟩⟩
def Gl{w w1:Aw}{s:BA}{tv u:Ax}(st:zI (pw w s) w1 (w.heap.size+1) w.heap.size (L_) (L_) tv u):Fr w w1 N_:=
 (show Fr w (pw w s) N_ from((A_ w _).alloc _).alloc _).trans st.fr (λx hx e=>by
  rcases e with e|e|e|e
  .omega
  .omega
  .simp[Value.ownBlock]at e
  .simp[Value.ownBlock]at e)
def kD{w w1 W:Aw}{s:BA}{a b:Int}(h:zl s=(a,b))(ha:a≠0)(g:Fr w w1 N_)(e:zw w1 W):jN w s (.returned (.tuple #[.pointer none,Z_ a,Z_ b])) W:=by
 refine⟨.pointer none,by rw[h],g.si e,?_⟩;rw[h];rw[n_ ha]
def ef{w:Aw}{s:BA}:Calls prog 11 #[.string s] w (jN w s):=by
 refine hq_ λd7 G=>?_;by_cases hl:300<s.size
 .have d1:(300:Int)<(s.size:Int):=M_;go_in;go_wp2;refine bodyPost_ret (v:=.tuple #[.pointer none,Z_ 1,O_]) xu_ rfl ?_;rw[G.o];exact kD (by unfold zl;rw[i_ hl]) D_ (A_ _ _) (zw.refl _)
 .have d1:¬(300:Int)<(s.size:Int):=M_;have hs:s.size<=300:=M_;have R0:=zy (Fh w s hs);have D0:=zy (Ks w s);cases hp:zQ s with
  |error k=>
   have y:=zy (show zl s=(2,(k:Int)) by unfold zl;rw[n_ hl,hp]);replace hp:=zy hp;go_in;go_wp2_with (go_at_call 23;apply(dL R0 D0).mono;rintro e w1 ⟨rfl,E⟩;unfold je at E;rw[hp.o]at E;obtain⟨Xk,zs,tv,u,wg,MX,TS,US,L,a7,_⟩:=E;have a9:=L.here.c2;have d8:=L.here.c1;replace L:=zy L;replace a7:=zy a7);go_quiet (fail);go_wp2;refine bodyPost_ret (v:=.tuple #[.pointer none,Z_ 2,I_ k]) xu_ rfl ?_;rw[G.o];exact kD y D_ (Gl a7) xw_
  |ok r=>
   obtain⟨ds,t⟩:=r;obtain⟨us,J⟩:=e_ (ja ds++zK t);have U:=jS hp;have a3:∀x∈us,zZ x.1=true:=λx hx=>by
    rw[J]at hx;rcases bn_.1 hx with hx|hx
    .exact ny ds U.1 x hx
    .exact uf t U.2 x hx
   replace hp:=zy hp;replace J:=zy J;replace a3:=zy a3;replace U:=zy U;go_in;go_wp2_with (go_at_call 23;apply(dL R0 D0).mono;rintro e w1 ⟨rfl,E⟩;unfold je at E;rw[hp.o]at E;obtain⟨Xk,zs,tv,u,C,a2⟩:=E;rw[<- J.o]at C;have a9:=C.R.here.c2;replace C:=zy C;replace a2:=zy a2);obtain⟨ua,uc,rfl⟩:=zh C.o.R.uses;obtain⟨a0,V⟩:=e_ (qp [] ds (-1));replace V:=zy V;have e7:us.length<=300:=by have:=C.o.R.ul;omega
   have Y:∃q:Nat,q<=us.length/\us.length+1-q<=us.length+1/\Value.int .i64 0=I_ q/\WM (pw w s) (λx=>False) (w.heap.size+1) w.heap.size (w.heap.size+2) s (L_) (L_) ds s.size false (wrU (zx ds) (us.take q) a0) (mix t (qt ds (-1))) (vm 0 ds++flat (vm 0 ds).length t) us Xk zs tv (.slice ua us.length uc) w1:=⟨0,M_,M_,rfl,by rw[V.o];exact C⟩;replace Y:=zy Y;go_loopg [6] (us.length+1) (λmm v6 W=>∃q:Nat,q<=us.length/\us.length+1-q<=mm/\v6=I_ q/\WM (pw w s) (λx=>False) (w.heap.size+1) w.heap.size (w.heap.size+2) s (L_) (L_) ds s.size false (wrU (zx ds) (us.take q) a0) (mix t (qt ds (-1))) (vm 0 ds++flat (vm 0 ds).length t) us Xk zs tv (.slice ua us.length uc) W);case atStart=>exact Y
   case round=>
    obtain⟨q,hq,e5,rfl,M⟩:=hrel;obtain⟨m,hm⟩:=x_ (wrU (zx ds) (us.take q) a0);rw[hm]at M;replace hm:=zy hm;have c4:=M.R.here.c4;have c3:=M.R.here.c3;have c5:=M.R.here.c5;have c6:=M.R.here.c6;by_cases d2:q<us.length
    .have d6:(q:Int)<(us.length:Int):=M_;obtain⟨x,hx⟩:∃x,us[q]?=some x:=⟨_,ak_ d2⟩;have a4:=a3.o x (al_ hx);have a6:=zy (VV (env:=zx ds) hx a0);obtain⟨gu,cu,b6⟩:=zu M.R.uses M_;simp only[Value.slice.injEq,true_and]at b6;obtain⟨rfl,rfl⟩:=b6;have X:=ze M.R.uses rfl (mg hx).1;have K:=ze M.R.uses rfl (mg hx).2;rw[a7_]at X K;obtain⟨c,d0⟩:=x;simp only at X K a4 a6;have e0:65<=c/\c<=70:=by simpa[zZ] using a4
     obtain⟨F,S⟩:∃k,c=65+k:=⟨c-65,M_⟩;obtain⟨so,b8,a5⟩:=M.D.sortAt (k:=F) M_;have z0:wr.cell? ⟨w.heap.size,1+F*5,none⟩=some (.int .u8 so):=by
      rw[M.R.z.cell,show 1+F*5=5*F+1 by omega,ab_];exact b8
     rw[<- S]at a5;have e8:=qW F c S M_;have e4:(F:Int)<6:=M_;have d9:(c:Int)-65=(F:Int):=M_;replace M:=zy M;replace S:=zy S;cases hb:(zx ds c).isNone with
     |true=>
      rw[hb]at a5;replace hb:=zy hb;go_wp2;go_quiet (fail);have p:=zy (M.o.si (zw.drewN wr nq));have O:=p.o.R.here.c4;have Q:(wr.drewN nq).cell? ⟨gu,q*2+1,none⟩=some (I_ d0):=K;generalize wr.drewN nq=W2 at *;go_wp2_with (go_at_call 24;apply(qK p.o.R).mono;rintro e T ⟨rfl,A,H⟩;have I:=zy (p.o.call A H));go_roundg (us.length+1-(q+1));case measure=>omega
      case rel=>exact⟨q+1,M_,l_,by simp,by rw[a6.o,hm.o,i_ hb.o];exact I⟩
     |false=>
      rw[hb]at a5;replace hb:=zy hb;go_wp2;go_quiet (fail);have p:=zy (M.o.si (zw.drewN wr nq));generalize wr.drewN nq=W2 at *;go_wp2;go_roundg (us.length+1-(q+1));case measure=>omega
      case rel=>exact⟨q+1,M_,l_,by simp,by rw[a6.o,hm.o,n_ zo_];exact p⟩
    .have d6:¬(q:Int)<(us.length:Int):=M_;have T:wrU (zx ds) (ja ds++zK t) (qp [] ds (-1))=m:=by rw[<- J.o,<- V.o,<- hm.o,a6_ M_]
     obtain⟨mx,I⟩:=e_ (mix t (qt ds (-1)));simp only[<- I]at c6;have y:zl s=if 0<=m then (3,m) else if 0<=mx then (4,mx) else if 0<=xm s (zx ds) 6 then (5,xm s (zx ds) 6) else (0,0):=by
      unfold zl;rw[n_ hl,hp.o];simp only;rw[T,<- I]
     have Q:=zy (Gl M.st);replace T:=zy T;replace I:=zy I;by_cases b7:0<=m
     .rw[i_ b7]at y;replace y:=zy y;replace M:=zy M;go_wp2;go_quiet (fail);go_wp2;refine bodyPost_ret (v:=.tuple #[.pointer none,Z_ 3,Z_ m]) xu_ rfl ?_;rw[G.o];exact kD y D_ Q xw_
     .rw[n_ b7]at y;by_cases b9:0<=mx
      .rw[i_ b9]at y;replace y:=zy y;replace M:=zy M;go_wp2;go_quiet (fail);go_wp2;refine bodyPost_ret (v:=.tuple #[.pointer none,Z_ 4,Z_ mx]) xu_ rfl ?_;rw[G.o];exact kD y D_ Q xw_
      .rw[n_ b9]at y;have A:=uu (m0:=qp [] ds (-1)) (m1:=-1) hs hp (by rw[T.o];omega) (by rw[<- I.o];omega);have Z:=VF M a2;have a8:=zy (show xS wr _ _ w.heap.size s _ (zx ds) _ (wS 0 0) wr from⟨Z,A_ _ _,λg hg=>hg.1,λg hg=>(M.R.av g hg.1).1,λk q _ h=>by unfold wS at h;omega⟩);have b4:¬(Xk (w.heap.size+1)/\w.heap.size+2<=w.heap.size+1):=λh=>by omega
       obtain⟨dv,H⟩:=e_ (xm s (zx ds) 6);rw[<- H]at y;replace y:=zy y;replace H:=zy H;have B3:=zy M.R.here;replace M:=zy M;replace A:=zy A;by_cases b5:0<=dv
       .have O:=zy (show zl s=(5,dv) by rw[y.o,i_ b5]);go_wp2_with (go_at_call 25;apply(mG a8 hs A.o.1 (λk _=>A.o.2.2.1 k) (λk f _ hf=>A.o.2.2.2 k f hf)).mono;rintro e w2 ⟨rfl,p⟩;rw[<- H.o];have a1:=(p.fr.bl B3 b4).cell 3;simp only[RV.cells,aa_,ab_]at a1;replace p:=zy p);refine bodyPost_ret (v:=.tuple #[.pointer none,Z_ 5,Z_ dv]) xu_ rfl ?_;rw[G.o];exact kD O D_ (Q.o.trans p.o.fr (λx hx e=>by have:=e.2;omega)) (zw.refl _)
       .have O:=zy (show zl s=(0,0) by rw[y.o,n_ b5]);go_wp2_with (go_at_call 25;apply(mG a8 hs A.o.1 (λk _=>A.o.2.2.1 k) (λk f _ hf=>A.o.2.2.2 k f hf)).mono;rintro e w2 ⟨rfl,p⟩;rw[<- H.o];have a1:=(p.fr.bl B3 b4).cell 3;simp only[RV.cells,aa_,ab_]at a1;replace p:=zy p);refine bodyPost_ret (v:=.tuple #[P_ w.heap.size,O_,O_]) xu_ rfl ?_;rw[G.o];refine⟨_,by rw[O.o],Q.o.trans p.o.fr (λx hx e=>by have:=e.2;omega),?_⟩;rw[O.o,i_ rfl];have e6:=p.o.fr.size;exact⟨w.heap.size,ds,t,_,_,_,_,rfl,hp,p.o.Z,VA _ _,A.o.1,A.o.2.1,λg hg=>by rcases hg with hg|hg;have:=p.o.l1 g hg;omega;have:=p.o.l2 g hg;omega,λg hg=>by have:=hg.2;omega,λk q hk f a b d h1 h2 h3=>by obtain⟨g,n,c,v,e1,e2,e3⟩:=p.o.dd k q hk (.inl hk) f a b d h1 h2 h3;exact⟨g,n,c,v,e1,e2,e3.mono (λ_ _ _=>aj_ _)⟩⟩
section
variable {w W W':Aw} {P:Au} {bl:Nat} {s:BA} {bz:Nat} {ts:Aq} {env:Ay} {sv:Ax} {j j' d:Nat} {bad bad':Ap} {N:Nat}
end
def sP:Nat->Nat->List Nat
 | 0,z=>[z]
 |f+1,z=>if z<128 then [z] else (z % 128+128)::sP f (z / 128)
def leb(z:Nat):List Nat:=sP 10 z
def bts(l:Ai):BA:=⟨(l.map UInt8.ofNat).toArray⟩
def ZK(a b:Ai):bts (a++b)=bts a++bts b:=by
 unfold bts;apply bx_;simp
def zE(l:Ai):(bts l).size=l.length:=by unfold bts;show(l.map UInt8.ofNat).toArray.size=_;simp
def Qk(n:Int):Nat:=if n<0 then 2*(-(n+1)).toNat+1 else 2*n.toNat
def xL(n:Int):BA:=bts (leb (Qk n))
def ai(w:Aw)(c:Nat)(x:Int)(hx:x=(c:Int)):(convert 94 9 (S_ w.heap.size 1 1)).run prog (w.alloc (.cells #[.int .u8 x] 5))=.ok (.string (bts [c])) (w.alloc (.cells #[.int .u8 x] 5)):=by
 subst hx;have h:=run_convert_bytes_arg (P:=prog) (w.alloc (.cells #[U_ c] 5)) 94 5 underlying94 underlying5 w.heap.size 0 1 1 [(c:Int)] rfl (λi a=>by
  obtain rfl:i=0:=M_
  simp) 9 underlying9
 exact h
mutual
def ndT:DT->Nat
 | .mk _ _ _ _ ds=>1+zM ds
def zM:List DT->Nat
 | []=>0
 |d::r=>ndT d+zM r
end
def lJ:∀a b:List DT,zM (a++b)=zM a+zM b
 | [],b=>by simp[zM]
 |d::r,b=>by simp only[bf_,zM,lJ r b];omega
def xY:∀ds:List DT,ds.length<=zM ds
 | []=>l_
 |d::r=>by
  have:=xY r;have h1:1<=ndT d:=by obtain⟨_,_,_,_,_⟩:=d;unfold ndT;omega
  simp only[au_,zM];omega
def yE{ds:Ak}{d:DT}(h:ds[q]?=some d):zM (ds.take (q+1))=zM (ds.take q)+ndT d/\zM (ds.take q)+ndT d<=zM ds:=by
 have e:ds.take (q+1)=ds.take q++[d]:=by rw[a8_,h];rfl
 have a:zM (ds.take (q+1))=zM (ds.take q)+ndT d:=by rw[e,lJ];simp[zM]
 refine⟨a,?_⟩;rw[<- a];conv=>rhs;rw[<- List.take_append_drop (q+1) ds,lJ]
 omega
def gG{m:Nat}:∀(n:Nat) (X:Nat->List Value),(∀i,i<n->(X i).length=m)->∀q j,q<n->j<m->((List.range n).flatMap X)[q*m+j]?=(X q)[j]?:=by
 intro n;induction n with
 |zero=>intro X _ q j a;omega
 |succ n ih=>
  intro X hX q j a g;have hl:((List.range n).flatMap X).length=n*m:=by
   clear ih a;induction n with
   |zero=>simp
   |succ n ih2=>
    rw[bt_,bj_,ah_,ih2 (λi e=>hX i M_)];simp only[bo_,b4_,bd_];rw[hX n M_,Nat.succ_mul]
  rw[bt_,bj_];simp only[bo_,b4_,bd_];by_cases l:q<n
  .have:q*m+j<n*m:=by
    have:=b1_ m (show q+1<=n by omega);rw[Nat.add_mul,Nat.one_mul]at this;omega
   rw[ay_ M_];exact ih X (λi e=>hX i M_) q j l g
  .have h:q=n:=M_;subst h;rw[ax_ M_,hl,ck_]
def zF.sub{w:Aw}{P:Au}{n:Int}{ds:Ak}{vk vs:Ax}(h:zF w P (.mk k n tx ks ds) (zq k n tx vk vs)):∃a c,vs=.slice a ds.length c/\∀q d,ds[q]?=some d->∃g e l o p r,a=some ⟨g,0,none⟩/\zF w P d (zq e l o p r)/\(∃x y z,p=.slice x y z)/\(∃x y z,r=.slice x y z)/\w.cell? ⟨g,q*5,none⟩=some (U_ e)/\w.cell? ⟨g,q*5+1,none⟩=some (Z_ l)/\w.cell? ⟨g,q*5+2,none⟩=some (.string o)/\w.cell? ⟨g,q*5+3,none⟩=some p/\w.cell? ⟨g,q*5+4,none⟩=some r:=by
 generalize C:zq k n tx vk vs=v at h;cases h with
 |mk X hk hkP hs hsP hd=>
  simp only[zq,List.cons.injEq,and_true]at C;obtain⟨_,_,_,rfl,rfl⟩:=C;obtain⟨a,c,rfl⟩:=zh hs;refine⟨a,c,rfl,λq d A=>?_⟩;have I:q<ds.length:=(am_.1 A).1;have u:=hd q d A;obtain⟨g,L,E⟩:=zu hs M_;cases E;have H:∀i,i<ds.length->(X i).length=5:=λi F=>(hd i _ (ak_ F)).len;have cell:∀j x,j<5->(X q)[j]?=some x->w.cell? ⟨g,q*5+j,none⟩=some x:=λj x G hx=>ze hs rfl (by rw[gG ds.length X H q j I G];exact hx);generalize M:X q=xq at u cell;cases u with
  |mk X2 hk2 hkP2 hs2 hsP2 hd2=>
   rename_i e l o O ds' p r;obtain⟨J,c1,rfl⟩:=zh hk2;obtain⟨K,c2,rfl⟩:=zh hs2;exact⟨g,e,l,o,_,_,rfl,.mk X2 hk2 hkP2 hs2 hsP2 hd2,⟨_,_,_,rfl⟩,⟨_,_,_,rfl⟩,cell 0 _ D_ rfl,cell 1 _ D_ rfl,cell 2 _ D_ rfl,cell 3 _ D_ rfl,cell 4 _ D_ rfl⟩
def Xt:∀(m:Nat) (d:DT),ndT d<=m->ndT d<=1000000000->∀(w:World) (P:Nat->Prop) (k:Nat) (n:Int) (tx:BA) (l:Option Addr) (p c1:Nat) (vs:Value),zF w P d (zq k n tx (.slice l p c1) vs)->
 Calls prog 14 #[.agg (zq k n tx (.slice l p c1) vs).toArray] w λe w'=>e=.returned (Z_ (ndT d:Int))/\Fr w w' N_:=by
 intro m;induction m with
 |zero=>intro d h;cases d;unfold ndT at h;omega
 |succ m ih=>
  intro d hm hb w P k n tx l p c1 vs A;obtain⟨k0,u,x,ks,ds⟩:=d;obtain⟨rfl,rfl,rfl⟩:k0=k/\u=n/\x=tx:=by
   generalize J:zq k n tx (.slice l p c1) vs=v at A;cases A with
   |mk X hk hkP hs hsP hd=>
    simp only[zq,List.cons.injEq,and_true,Value.int.injEq,Value.string.injEq,true_and]at J;exact⟨M_,J.2.1.symm,J.2.2.1.symm⟩
  obtain⟨y,c2,rfl,I⟩:=A.sub;refine hq_ λJ R=>?_;have F:ndT (.mk k0 u x ks ds)=1+zM ds:=by unfold ndT;rfl
  rw[F]at hm hb;have H:Fr w (w.alloc (.cells (zq k0 u x (.slice l p c1) (.slice y ds.length c2)).toArray 32)) N_:=(A_ w _).alloc _;have T:=zy (B_ w (zq k0 u x (.slice l p c1) (.slice y ds.length c2)).toArray 32);have O:H_ (∃q:Nat,Value.int .i64 1=Z_ ((1+zM (ds.take q):Nat):Int)/\Value.int .i64 0=I_ q/\q<=ds.length/\ds.length+1-q<=ds.length+1/\Fr w (w.alloc (.cells (zq k0 u x (.slice l p c1) (.slice y ds.length c2)).toArray 32)) N_/\Fr (w.alloc (.cells (zq k0 u x (.slice l p c1) (.slice y ds.length c2)).toArray 32)) (w.alloc (.cells (zq k0 u x (.slice l p c1) (.slice y ds.length c2)).toArray 32)) N_):=zy ⟨0,by simp[zM],rfl,aj_ _,M_,H,A_ _ _⟩;replace F:=zy F;replace I:=zy I;replace H:=zy H;replace A:=zy A;go_in;go_wp2;go_loopg [3,4,5] (ds.length+1) (λm A H J W=>∃q:Nat,A=Z_ ((1+zM (ds.take q):Nat):Int)/\H=I_ q/\q<=ds.length/\ds.length+1-q<=m/\Fr w W N_/\Fr (w.alloc (.cells (zq k0 u x (.slice l p c1) (.slice y ds.length c2)).toArray 32)) W N_);case atStart=>exact O
  case round=>
   obtain⟨q,rfl,rfl,l,l,r,z⟩:=hrel;have l:=(z.bl T id).cell 4;simp only[zq,aa_,ab_]at l;by_cases M:q<ds.length
   .have U:(q:Int)<(ds.length:Int):=M_;have hd:ds[q]?=some ds[q]:=ak_ M;generalize ds[q]=d at hd;obtain⟨g,V,Y,Z,l,l,rfl,L,⟨x1,y1,z1,rfl⟩,⟨x2,y2,z2,rfl⟩,c0,p,u,c3,c4⟩:=I.o q d hd;obtain⟨C,Q⟩:=yE hd;have K:=zy (ih d M_ M_ wr P V Y Z x1 y1 z1 (.slice x2 y2 z2) (L.fr r u_));have l:∀{o:Nat} {v:Value},w.cell? ⟨g,o,none⟩=some v->wr.cell? ⟨g,o,none⟩=some v:=λ{o v} h=>(World.cell?_of_block (a:=⟨g,o,none⟩) (r.block g (World.block_lt_of_cell? w ⟨g,o,none⟩ h) id)).trans h;have l:q<=1000000000:=by have:=xY ds;omega
    obtain⟨S,E⟩:=x_ (zM (ds.take q));obtain⟨D,G⟩:=x_ (ndT d);rw[E]at C Q;rw[G]at C Q K;rw[E];replace C:=zy C;replace E:=zy E;replace G:=zy G;replace r:=zy r;replace z:=zy z;replace hd:=zy hd;go_wp2_with (go_at_call 14;apply K.o.mono;rintro e l ⟨rfl,l⟩;replace l:=zy l);go_roundg (ds.length+1-(q+1));case measure=>omega
    case rel=>exact⟨q+1,by rw[C.o];simp;omega,by simp,M,l_,r.o.trans l u_,z.o.trans l u_⟩
   .have U:¬((q:Int)<(ds.length:Int)):=M_;rw[a6_ M_];replace r:=zy r;replace z:=zy z;go_wp2;try go_ret
    rw[R.o,F.o];exact⟨rfl,r⟩
mutual
def byT:DT->BA
 | .mk k n tx ks ds=>
  if k=116 then bts [n.toNat]
  else if k=105\/k=108\/k=101 then xL n
  else if k=115 then xL tx.size++tx
  else if k=102 then tx
  else (if k=40 then xL n else if k=91\/k=123 then xL ds.length else noB)++qr (k==123) ks ds
def qr(keyed:Ap):List BA->List DT->BA
 | _,[]=>noB
 |ks,d::r=>((if keyed=true then xL (ks.headD noB).size++ks.headD noB else noB)++byT d)++qr keyed ks.tail r
end
def dX(k:Nat):Prop:=k=110\/k=116\/k=105\/k=108\/k=115\/k=91\/k=123\/k=40\/k=114\/k=101\/k=102
mutual
def okD:DT->Prop
 | .mk k n tx ks ds=>(-9223372036854775808<=n/\n<=9223372036854775807/\dX k)/\(k=116->0<=n/\n<=1)/\tx.size<=4000/\(∀x∈ks,x.size<=4000)/\(k=123->ks.length=ds.length)/\qo ds
def qo:List DT->Prop
 | []=>True
 |d::r=>okD d/\qo r
end
def bh:∀{ds:List DT},qo ds->∀d∈ds,okD d
 | [],_,d,h=>by cases h
 |a::r,h,d,hd=>by
  unfold qo at h;rcases aq_.1 hd with rfl|hd
  .exact h.1
  .exact bh h.2 d hd
def cZ(b:BA):noB++b=b:=by apply bx_;simp[noB]
def WE(b:BA):b++noB=b:=by apply bx_;simp[noB]
def zF.keys{w:Aw}{P:Au}{n:Int}{ds:Ak}{vk vs:Ax}(h:zF w P (.mk k n tx ks ds) (zq k n tx vk vs)):∃a c,vk=.slice a ks.length c/\∀q,q<ks.length->∃g,a=some ⟨g,0,none⟩/\w.cell? ⟨g,q,none⟩=some (.string (ks.getD q noB)):=by
 generalize l:zq k n tx vk vs=v at h;cases h with
 |mk X hk hkP hs hsP hd=>
  simp only[zq,List.cons.injEq,and_true]at l;obtain⟨_,_,_,rfl,rfl⟩:=l;obtain⟨a,c,rfl⟩:=zh hk;refine⟨a,c,rfl,λq e=>?_⟩;obtain⟨g,l,l⟩:=zu hk M_;cases l;exact⟨g,rfl,ze hk rfl (by rw[a1_,ak_ e,az_,ak_ e];rfl)⟩
def dE:∀{ds:List DT},qo ds->∀q,qo (ds.take q)
 | [],h,q=>by simpa using h
 |d::r,h,0=>by simp[qo]
 |d::r,h,q+1=>by
  unfold qo at h;simp only[List.take_succ_cons,qo];exact⟨h.1,dE h.2 q⟩
def lQ{n:Int}:ndT (.mk k n tx ks [])=1:=by unfold ndT;simp[zM]
def xK(n:Int):BA:=⟨(Lib.itoa n).toArray⟩
def wq{n:Int}(h0 : -9223372036854775808<=n)(h1:n<=9223372036854775807):(xK n).size<=21:=by
 unfold xK;show(Lib.itoa n).toArray.size<=21;rw[List.size_toArray];exact Lib.itoa_length_le n h0 h1
def jn:Nat->List BA->BA
 | _,[]=>noB
 |i,a::r=>(if i=0 then noB else bts [44])++(a++jn (i+1) r)
def gD(a:BA):a++noB=a:=by apply bx_;simp[noB]
def jY(a:BA):noB++a=a:=by apply bx_;simp[noB]
def Yp:∀(l:List BA) (i:Nat) (a:BA),jn i (l++[a])=jn i l++((if i+l.length=0 then noB else bts [44])++a)
 | [],i,a=>by simp only[br_,jn,gD,jY,ar_,bs_]
 |b::r,i,a=>by
  simp only[bf_,jn,au_];have e:i+(r.length+1)=i+1+r.length:=M_;rw[Yp r (i+1) a];simp only[e,be_]
def zN(env:Ay)(t:PT)(n i:Nat):PT:=
 match t with
 | .wrap _ _ u=>u
 | .alts _ ts=>ts.getD n (.leaf 0 0)
 | .leaf c _=>match env c with|some (.recd fs)=>(fs.map PF.ty).getD i (.leaf 0 0)|_=>.leaf 0 0
def fI(env:Ay)(t:PT)(n:Nat):Nat:=
 match t with
 | .leaf c _=>match env c with|some (.enum l _)=>(l.map Prod.fst).getD n 0|_=>0
 | _=>0
def Ya(k:Nat)(b:BA):BA:=if k=91 then bts [91]++(b++bts [93]) else if k=123 then bts [123]++(b++bts [125]) else bts [40]++(b++bts [41])
mutual
def txT(env:Ay):DT->PT->BA
 | .mk k n tx ks ds,t=>
  if k=110 then bts [78]
  else if k=116 then (if n=1 then bts [84] else bts [70])
  else if k=105\/k=108 then xK n
  else if k=115 then bts [34]++(tx++bts [34])
  else if k=102 then bts [39]++(tx++bts [39])
  else if k=101 then bts [fI env t n.toNat]
  else if k=40 then bts [60]++(xK n++(bts [58]++(jn 0 (xA env t n.toNat 0 false ks ds)++bts [62])))
  else Ya k (jn 0 (xA env t n.toNat 0 (k==123) ks ds))
def xA(env:Ay)(t:PT)(n:Nat):Nat->Bool->List BA->List DT->List BA
 | _,_,_,[]=>[]
 |i,keyed,ks,d::r=>((if keyed=true then ks.headD noB++bts [58] else noB)++txT env d (zN env t n i))::xA env t n (i+1) keyed ks.tail r
end
def cM(env:Ay)(t:PT)(n:Nat):∀(ds:List DT) (i:Nat) (a:Bool) (ks:List BA),(xA env t n i a ks ds).length=ds.length
 | [],_,_,_=>by simp[xA]
 |d::r,i,a,ks=>by simp only[xA,au_,cM env t n r]
def itT(env:Ay)(t:PT)(n:Nat)(keyed:Ap)(ks:Aa)(q:Nat)(d:DT):BA:=(if keyed=true then ks.getD q noB++bts [58] else noB)++txT env d (zN env t n q)
def iF(env:Ay)(t:PT)(n:Nat):∀(ds:List DT) (i:Nat) (g:Bool) (ks:List BA) (q:Nat) (d:DT),ds[q]?=some d->(xA env t n i g ks ds)[q]?=some ((if g=true then ks.getD q noB++bts [58] else noB)++txT env d (zN env t n (i+q)))
 | [],i,g,ks,q,d,h=>by simp at h
 |e::r,i,g,ks,0,d,h=>by
  simp only[aa_,ae_]at h;subst h;simp only[xA,aa_,bs_];cases ks<;>rfl
 |e::r,i,g,ks,q+1,d,h=>by
  simp only[ab_]at h;simp only[xA,ab_];rw[iF env t n r (i+1) g ks.tail q d h,show i+1+q=i+(q+1) by omega];cases ks with
  |nil=>simp
  |cons a l=>simp
def upT(env:Ay)(t:PT)(n:Nat)(keyed:Ap)(ks:Aa)(ds:Ak)(q:Nat):BA:=jn 0 ((xA env t n 0 keyed ks ds).take q)
def gq{env:Ay}{n:Nat}{keyed:Ap}{ds:Ak}{d:DT}(h:ds[q]?=some d):upT env t n keyed ks ds (q+1)=upT env t n keyed ks ds q++((if q=0 then noB else bts [44])++itT env t n keyed ks q d):=by
 have a:q<ds.length:=(am_.1 h).1;unfold upT;rw[a8_,iF env t n ds 0 keyed ks q d h];simp only[Option.toList_some];rw[Yp,b8_,cM,show 0+min q ds.length=q by omega,show 0+q=q by omega];rfl
def gj(env:Ay)(t:PT)(n:Nat)(keyed:Ap)(ks:Aa)(ds:Ak):upT env t n keyed ks ds 0=noB:=by unfold upT;rw[List.take_zero];rfl
def pL{env:Ay}{n:Nat}{keyed:Ap}{ds:Ak}(h:ds.length<=q):upT env t n keyed ks ds q=jn 0 (xA env t n 0 keyed ks ds):=by
 unfold upT;rw[a6_ (by rw[cM];exact h)]
def DAt(w:Aw)(bd:Nat)(s:BA)(bz i:Nat)(er:Int)(n:Nat):Prop:=
 Blk w bd [.string s,I_ i,Z_ er,P_ bz,I_ n] 88
section
variable {w w':Aw} {bd:Nat} {s:BA} {bz i:Nat} {er:Int} {n:Nat}
def DAt.c0(h:DAt w bd s bz i er n):w.cell? ⟨bd,0,none⟩=some (.string s):=by rw[G_ h];rfl
def DAt.c1(h:DAt w bd s bz i er n):w.cell? ⟨bd,1,none⟩=some (I_ i):=by rw[G_ h];rfl
def DAt.c2(h:DAt w bd s bz i er n):w.cell? ⟨bd,2,none⟩=some (Z_ er):=by rw[G_ h];rfl
def DAt.c3(h:DAt w bd s bz i er n):w.cell? ⟨bd,3,none⟩=some (P_ bz):=by rw[G_ h];rfl
def DAt.c4(h:DAt w bd s bz i er n):w.cell? ⟨bd,4,none⟩=some (I_ n):=by rw[G_ h];rfl
def DAt.th(h:DAt w bd s bz i er n)(o:Nat):w.frozen? ⟨bd,o,none⟩=false:=Blk.th h o
def DAt.si(h:DAt w bd s bz i er n)(a:zw w w'):DAt w' bd s bz i er n:=by
 obtain⟨k,rfl⟩:=a;exact h
def DAt.inc(h:DAt w bd s bz i er n):DAt (w.setCell ⟨bd,1,none⟩ (Z_ ((i:Int)+1))) bd s bz (i+1) er n:=by
 have:=C_ h 1 (Z_ ((i:Int)+1));exact this
def DAt.err(h:DAt w bd s bz i er n)(e:Int):DAt (w.setCell ⟨bd,2,none⟩ (Z_ e)) bd s bz i e n:=C_ h 2 _
def DAt.node(h:DAt w bd s bz i er n):DAt (w.setCell ⟨bd,4,none⟩ (Z_ ((n:Int)+1))) bd s bz i er (n+1):=by
 have:=C_ h 4 (Z_ ((n:Int)+1));exact this
end
section
variable {w:Aw} {bd:Nat} {s:BA} {bz i:Nat} {er:Int} {n:Nat}
def vh{e0:Int}(hd:DAt w bd s bz i er n):Calls prog 45 #[P_ bd,Z_ e0] w λe w'=>e=.returned (.tuple #[])/\DAt w' bd s bz i (if er=0 then e0 else er) n/\Fr w w' (· = bd):=by
 have c2:=hd.c2;have a:=hd.th 2;by_cases he:er=0
 .subst he;go_in;go_wp2;go_end0;exact⟨rfl,hd.err e0,(A_ w _).setCell _ _ (λ_=>rfl)⟩
 .go_in;go_wp2;go_end0;exact⟨rfl,hd,A_ w _⟩
def fW(h:DAt w bd s bz i 0 n)(hs:s.size<=4000)(hl:i<s.size):Calls prog 46 #[P_ bd] w λe w'=>e=.returned (Z_ (bt s i:Int))/\DAt w' bd s bz (i+1) 0 n/\Fr w w' (· = bd):=by
 refine hq_ λg a=>?_;obtain⟨c0,c1,c2⟩:=h.d3;have g:=h.th 1;have g:(i:Int)<(s.size:Int):=M_;obtain⟨x,hx⟩:=x_ (bt s i);have g:((s[i]'hl).toNat:Int)=(x:Int):=zq_
 have g:x<256:=by have:=qD s i;omega
 rw[hx]at a;replace hx:=zy hx;replace h:=zy h;go_in;go_wp2;go_quiet (fail);go_wp2;go_quiet (fail);go_wp2;try go_ret
 rw[a.o];exact⟨rfl,((h.o.si (zw.drewN _ _)).inc).si (zw.drewN _ _),(((A_ w (· = bd)).si (zw.drewN _ _)).setCell _ _ (λ_=>rfl)).si (zw.drewN _ _)⟩
def bC(h:DAt w bd s bz i 0 n)(hl:i=s.size):Calls prog 46 #[P_ bd] w λe w'=>e=.returned (O_)/\DAt w' bd s bz i 6 n/\Fr w w' (· = bd):=by
 refine hq_ λl g=>?_;obtain⟨c0,c1,c2⟩:=h.d3;have l:¬(i:Int)<(s.size:Int):=M_;have l:=zy (λ(w:World) (h:DAt w bd s bz i 0 n)=>vh (e0:=6) h);replace hl:=zy hl;replace h:=zy h;go_in;go_wp2;go_quiet (fail);go_wp2_with (go_at_call 45;apply(l.o _ (h.o.si (zw.drewN _ _))).mono;rintro e w1 ⟨rfl,h1,a⟩;replace h1:=zy h1;replace a:=zy a);try go_ret
 rw[g.o];exact⟨rfl,h1,((A_ w _).si (zw.drewN _ _)).trans a u_⟩
end
def BJ(w:Aw)(bd:Nat)(s:BA)(bz n:Nat)(r:Dy)(e:Ah)(w':Aw):Prop:=
 Fr w w' (· = bd)/\match r with
 |some (v,j)=>e=.returned (Z_ v)/\j<=s.size/\DAt w' bd s bz j 0 n
 |none=>e=.returned (O_)/\∃j,j<=s.size/\DAt w' bd s bz j 6 n
def wP(s:BA)(i k acc:Nat):Option (Nat×Nat):=
 match wF s (10-k) (i+k) with
 |none=>none
 |some (z,j)=>if z=0/\0<k then none else some (acc+128 ^ k*z,j)
def tX(s:BA)(i:Nat):wP s i 0 0=wF s 10 i:=by
 unfold wP;rw[show 10-0=10 from rfl,bs_];cases wF s 10 i with
 |none=>rfl
 |some q=>
  obtain⟨z,j⟩:=q;simp
def lM{s:BA}{i:Nat}(hk:k<=9)(h:s.size<=i+k):wP s i k acc=none:=by
 unfold wP;rw[show 10-k=(9-k)+1 by omega,wF,n_ M_]
def qP{s:BA}{i:Nat}(hk:k<=9)(h:i+k<s.size)(hb:bt s (i+k)<128):wP s i k acc=if bt s (i+k)=0/\0<k then none else some (acc+128 ^ k*bt s (i+k),i+k+1):=by
 unfold wP;rw[show 10-k=(9-k)+1 by omega,wF,i_ h,i_ hb]
def kI{s:BA}{i:Nat}(hk:k<=9)(h:i+k<s.size)(hb:¬bt s (i+k)<128):wP s i k acc=if k=9 then none else wP s i (k+1) (acc+128 ^ k*(bt s (i+k)-128)):=by
 unfold wP;rw[show 10-k=(9-k)+1 by omega,wF,i_ h,n_ hb];by_cases a:k=9
 .subst a;rw[i_ rfl];simp[wF]
 .rw[n_ a,show 10-(k+1)=9-k by omega,show i+k+1=i+(k+1) by omega];cases wF s (9-k) (i+(k+1)) with
  |none=>rfl
  |some q=>
   obtain⟨z,j⟩:=q;simp only;by_cases hz:z=0
   .rw[i_ hz,i_ ⟨hz,M_⟩]
   .rw[n_ hz,n_ (λx=>hz x.1)];simp only;rw[n_ (λx=>M_)];have e:acc+128 ^ k*(bt s (i+k)-128+128*z)=acc+128 ^ k*(bt s (i+k)-128)+128 ^ (k+1)*z:=by
     rw[Nat.pow_succ,Nat.mul_add,Nat.mul_assoc,bv_]
    rw[e]
def JO{s:BA}{i:Nat}(h:i+9<s.size)(hb:1<bt s (i+9)):(match wP s i 9 acc with|none=>none|some (z,j)=>if z<18446744073709551616 then some (kB z,j) else none)=none:=by
 by_cases h1:bt s (i+9)<128
 .rw[qP M_ h h1,n_ (λx=>M_)];simp only;rw[n_ (λx=>by
   omega)]
 .rw[kI M_ h h1,i_ rfl]
end Go.Proofs.YtahhhgbojlkjnaaGreatDoor
