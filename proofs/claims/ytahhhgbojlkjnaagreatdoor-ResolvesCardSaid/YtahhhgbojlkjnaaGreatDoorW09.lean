import Derived.Test.YtahhhgbojlkjnaaGreatDoorW08
set_option maxHeartbeats 16000000
set_option maxRecDepth 100000
set_option linter.defProp false
set_option linter.unusedSimpArgs false
open Go.Proofs.Tryz
namespace Go.Proofs.YtahhhgbojlkjnaaGreatDoor
open Go.RowKit
variable {f p:Nat}{o:Cj}{w5:Aw}{t:PT}
def af:Option (Nat×Nat)->Option (Int×Nat)
 |none=>none
 |some (z,j)=>if z<18446744073709551616 then some (kB z,j) else none
def FI(s:BA)(i:Nat):bL s i=af (wP s i 0 0):=by
 rw[tX];unfold bL af;cases wF s 10 i<;>rfl
def Jh(k:Nat):1<=128 ^ k:=Nat.one_le_pow _ _ D_
def fp{k:Nat}(h:k<=8):128 ^ (k+1)<=9223372036854775808:=ai_ (Nat.pow_le_pow_right D_ (show k+1<=9 by omega)) D_
def QT(R_:Dy)(w:Aw)(bd:Nat)(s:BA)(bz i n sg:Nat)(q:Nat)(v3 v5 v6 v7:Ax)(W:Aw):Prop:=
 ∃k c m wt:Nat,v3=I_ c/\v5=I_ m/\v6=I_ wt/\v7=I_ k/\1<=k/\k<=10/\10<=q+k/\i+k<=s.size/\c<256/\m<9223372036854775808/\wt<=4611686018427387904/\
  H_ (DAt W bd s bz (i+k) 0 n/\Fr w W (· = bd))/\
  ((128<=c/\k<=9/\2*wt=128 ^ k/\2*m+sg<128 ^ k/\R_=af (wP s i k (2*m+sg)))\/(c<128/\R_=some (kB (2*m+sg),i+k)))
def KR{h:Dy}{w W:Aw}{bd:Nat}{s:BA}{bz i n b k c m a:Nat}(D:b<=1)(hk:k<=9)(u:i+k<s.size)(hc:bt s (i+k)=c)(A:c≠0)(D:¬(k=9/\1<c))(D:2*a=128 ^ k)(hm:2*m+b<128 ^ k)(q:h=af (wP s i k (2*m+b)))(z:DAt W bd s bz (i+k+1) 0 n)(C:Fr w W (· = bd))(g:Nat)(F:k<=8->g=128*a)(E:g<=4611686018427387904):QT h w bd s bz i n b (10-(k+1)) (I_ c) (Z_ ((m+c % 128*a:Nat):Int)) (I_ g) (Z_ ((k+1:Nat):Int)) W:=by
 have hb:=qD s (i+k);have hp:=Jh k;have e:2*(m+c % 128*a)+b=2*m+b+128 ^ k*(c % 128):=by
  rw[<- D,Nat.mul_add,a7_ (2*a),a7_ (c % 128) a,<- Nat.mul_assoc,a7_ (2*a)];omega
 have h:128 ^ k*(c % 128)<=128 ^ k*127:=cc_ _ M_;have l:128 ^ (k+1)=128 ^ k*128:=Nat.pow_succ 128 k;have v:2*(m+c % 128*a)+b<18446744073709551616:=by
  rw[e];by_cases y:k=9
  .subst y;have:c<=1:=M_;have:c % 128<=1:=M_;have:=cc_ (128 ^ 9) this;omega
  .have:=fp (k:=k) M_;omega
 refine⟨k+1,c,_,g,rfl,rfl,rfl,rfl,M_,M_,M_,M_,M_,M_,E,zy ⟨z,C⟩,?_⟩;by_cases h1:c<128
 .right;refine⟨h1,?_⟩;rw[q,qP hk u M_,hc,n_ (λx=>A x.1)];unfold af;simp only;have:128 ^ k*c=128 ^ k*(c % 128):=by rw[cg_ h1]
  rw[this,<- e,i_ v];rfl
 .left;have a:k<=8:=M_;refine⟨M_,M_,by rw[F a,l];omega,by rw[e,l];omega,?_⟩;rw[q,kI hk u M_,n_ M_,hc,e,show c-128=c % 128 by omega]
def cwqg1_{p:Prop}(h:p:=by
 (first|(have:=cc1;obtain⟨rfl,h91⟩:=h9)|(have hr:=zy (show R_=none by rw[hR,lM hk9 M_];rfl)));(first|(have:=cc1;have h91':(c':Int) > 1:=M_)|(have hC:=zy (bC hD.o.1 hend)));(first|(have:=cc1;have hr:=zy (show R_=none by rw[hR];exact JO hlt M_);clear hR hw2 hm2 hend hc')|(clear hR hw2 hm2 hend));go_wp2_with (first
  |(go_at_call 46;apply hC.o.mono;rintro e w1 ⟨rfl,h1,hf1⟩;replace h1:=zy h1;replace hf1:=zy hf1)
  |(go_at_call 45;apply(hF.o _ _ _ h1.o).mono;rintro e w2 ⟨rfl,h2,hf2⟩;replace h2:=zy h2;replace hf2:=zy hf2))
 all_goals (try go_ret)
 all_goals (rw[Q_.o,hr.o];(first|(have:=cc1;exact⟨(hD.o.2.trans hf1.o u_).trans hf2.o u_,rfl,_,hlt,h2.o⟩)|(exact⟨(hD.o.2.trans hf1.o u_).trans hf2.o u_,rfl,_,hik,h2.o⟩)))):p:=h
def qg{w:Aw}{bd:Nat}{s:BA}{bz i n:Nat}(h:DAt w bd s bz i 0 n)(hs:s.size<=4000)(M:i<=s.size):Calls prog 47 #[P_ bd] w (BJ w bd s bz n (bL s i)):=by
 refine hq_ λR Q_=>?_;rw[FI]at Q_;by_cases hl:i=s.size
 .have hC:=zy (bC h hl);have hr:=zy (show af (wP s i 0 0)=none by rw[lM M_ M_];rfl);clear h hl;go_in;go_wp2_with (go_at_call 46;apply hC.o.mono;rintro e w1 ⟨rfl,h1,hf1⟩;have c2:=h1.c2;replace h1:=zy h1;replace hf1:=zy hf1);go_loopg [3,5,6,7,8] 1 (λq z A H I Q W=>z=O_/\A=O_/\W=w1);case atStart=>exact⟨rfl,rfl,rfl⟩
  case round=>
   obtain⟨rfl,rfl,rfl⟩:=hrel;go_wp2;try go_ret
   rw[Q_.o,hr.o];exact⟨hf1,rfl,i,M,h1⟩
 .have hlt:i<s.size:=M_;obtain⟨c,hc⟩:=x_ (bt s i);have hC:=fW h hs hlt;rw[hc]at hC;have F:c<256:=by have:=qD s i;omega
  obtain⟨R_,u⟩:=e_ (af (wP s i 0 0));rw[<- u]at Q_;have g:∀W,DAt W bd s bz (i+1) 0 n->Fr w W (· = bd)->QT R_ w bd s bz i n (c % 2) 9 (I_ c) (Z_ ((c % 128 / 2:Nat):Int)) (Z_ 64) (Z_ 1) W:=by
   intro W hD v;refine⟨1,c,c % 128 / 2,64,rfl,rfl,rfl,rfl,M_,M_,M_,M_,F,M_,M_,zy ⟨hD,v⟩,?_⟩;have e0:2*(c % 128 / 2)+c % 2=c % 128:=M_;rw[e0];by_cases h1:c<128
   .right;refine⟨h1,?_⟩;rw[u,qP M_ M_ (by rw[bs_,hc];exact h1),n_ (λx=>M_),bs_,hc];unfold af;simp only;rw[i_ M_,show 0+128 ^ 0*c=c by omega,cg_ h1]
   .left;refine⟨M_,M_,rfl,M_,?_⟩;rw[u,kI M_ M_ (by rw[bs_,hc];exact h1),n_ M_,(show bt s (i+0)=c from hc),show 0+128 ^ 0*(c-128)=c % 128 by omega]
  replace g:=zy g;replace hC:=zy hC;replace u:=zy u;have N:c % 2<=1:=M_;have C:(c:Int) % 2=((c % 2:Nat):Int):=M_;have D:(c:Int) % 128 / 2=((c % 128 / 2:Nat):Int):=M_;generalize O:c % 2=sg at *;generalize u:c % 128 / 2=m0 at *;clear h hc O u;go_in;go_wp2_with (go_at_call 46;apply hC.o.mono;rintro e w1 ⟨rfl,h1,hf1⟩;replace g:=zy (g.o w1 h1 hf1);clear h1 hf1);go_loopg [3,5,6,7,8] 9 (λq z A H I Q W=>QT R_ w bd s bz i n sg q z A H I W);case atStart=>(rw[D];exact g)
  case round=>
   clear g hC D;obtain⟨k,c,m,a,rfl,rfl,rfl,rfl,g,g,g,hik,F,g,g,hD,g⟩:=hrel;have c2:=hD.o.1.c2;rcases g with⟨g,hk9,hw2,hm2,hR⟩|⟨g,hR⟩
   .clear C;have K:(c:Int)≥128:=M_;have hF:=zy (λ(W:World) (j:Nat) (er:Int) (h:DAt W bd s bz j er n)=>vh (e0:=6) h);by_cases hend:i+k=s.size
    .exact cwqg1_
    .have hlt:i+k<s.size:=M_;obtain⟨c',hc'⟩:=x_ (bt s (i+k));have hC:=fW hD.o.1 hs hlt;rw[hc']at hC;replace hC:=zy hC;have g:c'<256:=ze_
     by_cases h9:k=9/\1<c'
     .have cc1:=Nat;exact cwqg1_
     .have b:((k:Int)==9)=false\/((k:Int)=9/\¬(c':Int) > 1):=by
       by_cases G:k=9
       .exact .inr ⟨M_,M_⟩
       .exact .inl x4_
      by_cases h0:c'=0
      .subst h0;have hr:=zy (show R_=none by rw[hR,qP hk9 hlt M_,i_ ⟨hc',M_⟩];rfl);clear hR hw2 hm2 hend hc' h9;rcases b with b|⟨b,_⟩;all_goals
        go_wp2_with (first
         |(go_at_call 46;apply hC.o.mono;rintro e w1 ⟨rfl,h1,hf1⟩;replace h1:=zy h1;replace hf1:=zy hf1)
         |(go_at_call 45;apply(hF.o _ _ _ h1).mono;rintro e w2 ⟨rfl,h2,hf2⟩;replace h2:=zy h2;replace hf2:=zy hf2))
        all_goals (try go_ret)
        all_goals (rw[Q_.o,hr.o];exact⟨(hD.o.2.trans hf1 u_).trans hf2 u_,rfl,_,hlt,h2⟩)
      .have g:((c':Int)==0)=false:=x4_
       have l:=zy (λ(W:World)=>KR (W:=W) (w:=w) (bd:=bd) (bz:=bz) (n:=n) N hk9 hlt hc' h0 h9 hw2 hm2 hR);have y:=zy (show(m:Int)+(c':Int) % 128*(a:Int)=((m+c' % 128*a:Nat):Int) by simp);have e0:c' % 128*a<=127*a:=b1_ _ M_;have E:2*m+2*(c' % 128*a)<18446744073709551616:=by
        by_cases G:k=9
        .subst G;have C:c' % 128*a<=1*a:=b1_ _ M_;omega
        .have:=fp (k:=k) M_;omega
       have u:(0:Int)<=(c':Int) % 128*(a:Int):=Int.mul_nonneg M_ M_;have u:(m:Int)+(c':Int) % 128*(a:Int)<=9223372036854775807:=by rw[y.o];omega
       by_cases u:k<8
       .have J:(k:Int)<8:=M_;have L:((k:Int)==9)=false:=x4_
        have u:128*a<=4611686018427387904:=by
         have:=fp (k:=k) M_;omega
        replace l:=zy (λ(W:World) (h:DAt W bd s bz (i+k+1) 0 n) v=>l.o W h v (128*a) (λ_=>rfl) u);clear hR hw2 hm2 hend hc' h9 b e0 E;go_wp2_with (go_at_call 46;apply hC.o.mono;rintro e w1 ⟨rfl,h1,hf1⟩;replace h1:=zy h1;replace hf1:=zy hf1);go_roundg (10-(k+1));case measure=>omega
        case rel=>
         have:=l.o w1 h1 (hD.o.2.trans hf1 u_);rw[y.o];exact this
       .have J:¬(k:Int)<8:=M_;replace l:=zy (λ(W:World) (h:DAt W bd s bz (i+k+1) 0 n) v=>l.o W h v 4611686018427387904 (λh=>by
         obtain rfl:k=8:=M_
         omega) M_)
        clear hR hw2 hm2 hend hc' h9 e0 E;rcases b with b|⟨b,L⟩;all_goals
         go_wp2_with (go_at_call 46;apply hC.o.mono;rintro e w1 ⟨rfl,h1,hf1⟩;replace h1:=zy h1;replace hf1:=zy hf1);go_roundg (10-(k+1));case measure=>omega
         case rel=>
          have:=l.o w1 h1 (hD.o.2.trans hf1 u_);rw[y.o];first
           |exact this
           |(obtain rfl:k=9:=by omega
             exact this)
   .have K:¬(c:Int)≥128:=M_;rcases Nat.lt_or_ge sg 1 with h1|h1
    .obtain rfl:sg=0:=M_;replace hR:=zy (show R_=some ((m:Int),i+k) by rw[hR];unfold kB;rw[n_ M_,show(2*m+0) / 2=m by omega]);go_wp2;all_goals (try go_ret)
     all_goals (rw[Q_.o,hR.o];exact⟨hD.o.2,rfl,hik,hD.o.1⟩)
    .obtain rfl:sg=1:=M_;replace hR:=zy (show R_=some (-(m:Int)-1,i+k) by rw[hR];unfold kB;rw[i_ M_,show(2*m+1) / 2=m by omega]);go_wp2;all_goals (try go_ret)
     all_goals (rw[Q_.o,hR.o];exact⟨hD.o.2,rfl,hik,hD.o.1⟩)
def ki{s:BA}{i k:Nat}(h:i+k<=zX s i):zX s (i+k)=zX s i:=by
 induction k with
 |zero=>rfl
 |succ k ih=>
  have h1:=ih M_;rw[<- h1];unfold zX at *;conv=>rhs;rw[zU]
  split
  .split
   .rfl
   .rename_i a b;rw[zU,dif_pos a,n_ b]at h1;omega
  .rename_i a;rw[zU,dif_neg a]at h1;omega
def GT(w:Aw)(bd:Nat)(s:BA)(bz n:Nat)(r:Option (BA×Nat))(e:Ah)(w':Aw):Prop:=
 Fr w w' (· = bd)/\match r with
 |some (tx,j)=>e=.returned (.string tx)/\j<=s.size/\DAt w' bd s bz j 0 n
 |none=>e=.returned (.string noB)/\∃j,j<=s.size/\DAt w' bd s bz j 6 n
def GP(R_:Option (BA×Nat))(w:Aw)(bd:Nat)(s:BA)(bz i n m:Nat)(q:Nat)(v6:Ax)(W:Aw):Prop:=
 ∃k:Nat,v6=I_ k/\k<=4001/\H_ (Fr w W (· = bd))/\((k<=m/\i+k<=s.size/\s.size+1-(i+k)<=q/\i+k<=zX s i/\DAt W bd s bz (i+k) 0 n)\/(R_=none/\∃j,j<=s.size/\DAt W bd s bz j 6 n))
def uL{w:Aw}{bd:Nat}{s:BA}{bz i n m:Nat}(h:DAt w bd s bz i 0 n)(hs:s.size<=4000)(O:i<=s.size)(hm:m<=9223372036854775807):Calls prog 49 #[P_ bd,I_ m] w (GT w bd s bz n (xU s i m)):=by
 refine hq_ λR C=>?_;obtain⟨u,l⟩:=e_ (xU s i m);rw[<- l]at C;have L:H_ (GP u w bd s bz i n m (s.size+1) (O_) w):=zy ⟨0,rfl,M_,zy (A_ _ _),.inl ⟨M_,M_,M_,vM s i,h⟩⟩;have c1:=h.c1;have M:=zy (λ(W:World) (j:Nat) (er:Int) (h:DAt W bd s bz j er n)=>vh (e0:=6) h);replace l:=zy l;clear h;go_in;go_wp2;clear c1;go_loopg [6,7] (s.size+1) (λq R S W=>GP u w bd s bz i n m q R W);case atStart=>exact L
 case round=>
  clear L;obtain⟨k,rfl,L,v,L⟩:=hrel;rcases L with⟨L,F,L,G,a⟩|⟨hr,j,z,a⟩
  .obtain⟨c0,c1,c2⟩:=a.d3;by_cases N:k=m
   .subst N;have Q:¬(k:Int)<(k:Int):=M_;have hr:=zy (show u=some (s.extract i (i+k),i+k) by rw[l.o];unfold xU;rw[i_ G]);have y:(i:Int)+(k:Int)=((i+k:Nat):Int):=M_;obtain⟨j,z⟩:=e_ (i+k);rw[<- z]at c1 hr F a;have b:i<=j:=M_;have b:(i:Int)<=(j:Int):=M_;have b:(j:Int)<=(s.size:Int):=M_;replace a:=zy a;clear z y;go_wp2;go_quiet (fail);go_wp2;try go_ret
    rw[C.o,hr.o];exact⟨v.o.si (zw.drewN _ _),rfl,F,a.o.si (zw.drewN _ _)⟩
   .have Q:(k:Int)<(m:Int):=M_;by_cases hz:i+k=s.size
    .have g:=zy (bC a hz);have hr:=zy (show u=none by rw[l.o];unfold xU;rw[n_ (by have:=pg O;omega)]);clear a c0 c1;go_wp2_with (go_at_call 46;apply g.o.mono;rintro e w1 ⟨rfl,h1,b⟩;have J:=h1.c2;replace h1:=zy h1;replace b:=zy b);go_roundg 0;case measure=>omega
     case rel=>exact⟨k+1,rfl,M_,zy (v.o.trans b u_),.inr ⟨hr,_,F,h1⟩⟩
    .have A:i+k<s.size:=M_;obtain⟨c,hc⟩:=x_ (bt s (i+k));have g:=fW a hs A;rw[hc]at g;replace g:=zy g;have F:c<256:=ze_
     by_cases K:97<=c/\c<=122
     .have I:=zy (show(decide ((97:Int)<=(c:Int))&&decide ((c:Int)<=122))=true by simp;omega);have D:i+(k+1)<=zX s i:=by
       rw[<- ki G];unfold zX;rw[kL A (by rw[hc];exact K)];exact vM s (i+k+1)
      clear a c0 c1;go_wp2_with (first
       |(go_at_call 46;apply g.o.mono;rintro e w1 ⟨rfl,h1,b⟩;have J:=h1.c2;replace h1:=zy h1;replace b:=zy b)
       |(go_at_call 39;apply(ya _ _ _ _).mono;rintro e w' ⟨rfl,H⟩;rw[H,I.o]))
      go_roundg (s.size+1-(i+(k+1)));case measure=>omega
      case rel=>exact⟨k+1,rfl,M_,zy (v.o.trans b u_),.inl ⟨M_,M_,M_,D,h1⟩⟩
     .have I:=zy (show(decide ((97:Int)<=(c:Int))&&decide ((c:Int)<=122))=false by simp;omega);have hr:=zy (show u=none by
       rw[l.o]
       unfold xU
       rw[n_ (λx=>by
        have y:=ki G
        unfold zX at y x
        rw[vX (by rw[hc];exact K)]at y
        omega)])
      clear a c0 c1;go_wp2_with (first
       |(go_at_call 46;apply g.o.mono;rintro e w1 ⟨rfl,h1,b⟩;have J:=h1.c2;replace h1:=zy h1;replace b:=zy b)
       |(go_at_call 39;apply(ya _ _ _ _).mono;rintro e w' ⟨rfl,H⟩;rw[H,I.o])
       |(go_at_call 45;apply(M.o _ _ _ h1).mono;rintro e g ⟨rfl,D,E⟩;replace D:=zy D;replace E:=zy E))
      go_roundg 0;case measure=>omega
      case rel=>exact⟨k+1,rfl,M_,zy ((v.o.trans b u_).trans E u_),.inr ⟨hr,_,A,D⟩⟩
  .have c2:=a.c2;replace a:=zy a;by_cases A:(k:Int)<(m:Int);all_goals
    go_wp2;try go_ret
    rw[C.o,hr];exact⟨v,rfl,j,z,a⟩
def tU{w:Aw}{bd:Nat}{s:BA}{bz i n:Nat}{er m:Int}(h:DAt w bd s bz i er n)(he:er≠0):Calls prog 49 #[P_ bd,Z_ m] w λe w'=>e=.returned (.string noB)/\w'=w:=by
 have c1:=h.c1;have c2:=h.c2;have a:(er==0)=false:=by simp[he]
 go_in;go_wp2;go_loopg [6,7] 0 (λ_ a b W=>a=O_/\W=w);case atStart=>exact⟨rfl,rfl⟩
 case round=>
  obtain⟨rfl,rfl⟩:=hrel;by_cases a:0<m;all_goals
   go_wp2;try go_ret
   exact⟨rfl,rfl⟩
def uH{w:Aw}{bd:Nat}{s:BA}{bz i n:Nat}(h:DAt w bd s bz i 0 n)(hs:s.size<=4000)(y:i<=s.size):Calls prog 48 #[P_ bd] w λe w'=>Fr w w' (· = bd)/\match vA s i with
  |some (v,j)=>e=.returned (Z_ v)/\0<=v/\v<=9223372036854775807/\j<=s.size/\DAt w' bd s bz j 0 n
  |none=>∃v j,e=.returned (Z_ v)/\v<=0/\j<=s.size/\DAt w' bd s bz j 6 n:=by
 obtain⟨z,g⟩:∃Q,H_ (Q=λ(e:Ending) (w':World)=>Fr w w' (· = bd)/\match vA s i with
  |some (v,j)=>e=.returned (Z_ v)/\0<=v/\v<=9223372036854775807/\j<=s.size/\DAt w' bd s bz j 0 n
  |none=>∃v j,e=.returned (Z_ v)/\v<=0/\j<=s.size/\DAt w' bd s bz j 6 n):=⟨_,rfl⟩
 rw[<- g.o];have a:=qg h hs y;have u:=zy (λ(W:World) (j:Nat) (er:Int) (h:DAt W bd s bz j er n)=>vh (e0:=6) h);cases hb:bL s i with
 |none=>
  rw[hb]at a;have hr:=zy (show vA s i=none by unfold vA vu;rw[hb]);replace a:=zy a;go_in;go_wp2_with (go_at_call 47;apply a.o.mono;rintro e w1 ⟨b,rfl,j,x,h1⟩;replace h1:=zy h1;replace b:=zy b);try go_ret
  rw[g.o,hr.o];exact⟨b,0,j,rfl,M_,x,h1⟩
 |some q=>
  obtain⟨v,j⟩:=q;have hg:=fF hb;rw[hb]at a;by_cases y:v<0
  .have hr:=zy (show vA s i=none by unfold vA vu;rw[hb];simp only;rw[n_ M_]);replace a:=zy a;go_in;go_wp2_with (first
    |(go_at_call 47;apply a.o.mono;rintro e w1 ⟨b,rfl,x,h1⟩;replace h1:=zy h1;replace b:=zy b)
    |(go_at_call 45;apply(u.o _ _ _ h1).mono;rintro e u ⟨rfl,l,u⟩;replace l:=zy l;replace u:=zy u))
   try go_ret
   rw[g.o,hr.o];exact⟨b.o.trans u u_,v,j,rfl,M_,hg.2.1,l⟩
  .have hr:=zy (show vA s i=some (v,j) by unfold vA vu;rw[hb];simp only;rw[i_ M_]);replace a:=zy a;go_in;go_wp2_with (go_at_call 47;apply a.o.mono;rintro e w1 ⟨b,rfl,x,h1⟩;replace h1:=zy h1;replace b:=zy b);try go_ret
   rw[g.o,hr.o];exact⟨b,rfl,M_,hg.2.2.2,hg.2.1,h1⟩
structure XBM(w:Aw)(P:Au)(bd:Nat)(s:BA)(bz i n:Nat)(er:Int)(ts:Aq)(env:Ay)(W:Aw):Prop where
 L:DAt W bd s bz i er n
 Z:ZAt W P bz ts env
 nP:¬P bd
 Plt:∀g,P g->g<w.heap.size
 lt:bd<w.heap.size
 fr:Fr w W (· = bd)
 jl:i<=s.size
 sl:s.size<=4000
section
variable {w W W':Aw} {P:Au} {bd:Nat} {s:BA} {bz i n i' n':Nat} {er er':Int} {ts:Aq} {env:Ay}
def XBM.call(M:XBM w P bd s bz i n er ts env W)(b:DAt W' bd s bz i' er' n')(a:Fr W W' (· = bd))(g:i'<=s.size):XBM w P bd s bz i' n' er' ts env W':=
 ⟨b,M.Z.fr a (λ_ hg e=>M.nP (e▸hg)),M.nP,M.Plt,M.lt,M.fr.trans a u_,g,M.sl⟩
def XBM.si(M:XBM w P bd s bz i n er ts env W)(h:zw W W'):XBM w P bd s bz i n er ts env W':=M.call (M.L.si h) ((A_ W _).si h) M.jl
def XBM.node(M:XBM w P bd s bz i n er ts env W):XBM w P bd s bz i (n+1) er ts env (W.setCell ⟨bd,4,none⟩ (Z_ ((n:Int)+1))):=M.call M.L.node (V_ _ _ _) M.jl
def XBM.own(M:XBM w P bd s bz i n er ts env W)(a:Fr W W' (λg=>w.heap.size<=g)):XBM w P bd s bz i n er ts env W':=by
 have:=M.lt;exact⟨a.bl M.L M_,M.Z.fr a (λg hg=>by have:=M.Plt g hg;omega),M.nP,M.Plt,M.lt,M.fr.trans a (λx hx e=>absurd e M_),M.jl,M.sl⟩
def XBM.alloc(M:XBM w P bd s bz i n er ts env W)(o:Cj):XBM w P bd s bz i n er ts env (W.alloc o):=M.own ((A_ W _).alloc o)
def XBM.put(M:XBM w P bd s bz i n er ts env W)(a:Addr)(v:Ax)(h:w.heap.size<=a.block):XBM w P bd s bz i n er ts env (W.setCell a v):=M.own ((A_ W _).setCell a v (λ_=>h))
def XBM.here(M:XBM w P bd s bz i n er ts env W):XBM W P bd s bz i n er ts env W:=
 ⟨M.L,M.Z,M.nP,λg hg=>bg_ (M.Plt g hg) M.fr.size,bg_ M.lt M.fr.size,A_ _ _,M.jl,M.sl⟩
end
def ve(w:Aw)(bd:Nat)(s:BA)(bz:Nat)(r:Except Nat (DT×Nat×Nat))(e:Ah)(w':Aw):Prop:=
 ∃(k:Nat) (n:Int) (tx:BA) (vk vs:Value),e=.returned (.agg (zq k n tx vk vs).toArray)/\(∃a m c,vk=.slice a m c)/\(∃a m c,vs=.slice a m c)/\Fr w w' (· = bd)/\
 match r with
 | .error e0=>e0≠0/\∃j m,j<=s.size/\m<=301/\DAt w' bd s bz j (e0:Int) m
 | .ok (d,j,m)=>j<=s.size/\m<=300/\DAt w' bd s bz j 0 m/\zF w' (λg=>w.heap.size<=g) d (zq k n tx vk vs)
def wu(s:BA)(env:Ay)(ts:Aq)(f:Nat)(t:PT)(i n:Nat):Prop:=
 ∀(w:World) (P:Nat->Prop) (bd bz k:Nat),XBM w P bd s bz i n 0 ts env w->n<=300->isT ts k t->
  Calls prog 26 #[P_ bd,I_ k] w (ve w bd s bz (rdB s env f t i n))
section
variable {w W W':Aw} {P:Au} {bd:Nat} {s:BA} {bz j m:Nat} {er:Int} {ts:Aq} {env:Ay} {k:Nat} {n:Int} {tx:BA} {vk vs:Ax} {d:DT} {r:Except Nat (DT×Nat×Nat)}
def bD(M:XBM w P bd s bz j m 0 ts env W)(hm:m<=300)(hD:zF W (λg=>w.heap.size<g) d (zq k n tx vk vs))(hF:Fr W W' (λg=>g=w.heap.size))(hr:r=.ok (d,j,m)):ve w bd s bz r (.returned (.agg (zq k n tx vk vs).toArray)) W':=by
 have cc1:=Nat
 exact cq14_
def wL{e0:Nat}(h0:e0≠0)(M:XBM w P bd s bz j m (e0:Int) ts env W)(hm:m<=301)(h1:∃a m c,vk=.slice a m c)(h:∃a m c,vs=.slice a m c)(l:Fr W W' (λg=>g=w.heap.size))(hr:r=.error e0):ve w bd s bz r (.returned (.agg (zq k n tx vk vs).toArray)) W':=by
 have b:=M.own (l.mono (λ_ _ e=>M_));refine⟨k,n,tx,vk,vs,rfl,h1,h,b.fr,?_⟩;subst hr;exact⟨h0,j,m,M.jl,hm,b.L⟩
end
def dwn(w:Aw)(bd n c:Nat)(sv:Ax):World:=(dw w c sv).setCell ⟨bd,4,none⟩ (Z_ ((n:Int)+1))
section
variable {w:Aw} {P:Au} {bd:Nat} {s:BA} {bz i n:Nat} {er:Int} {ts:Aq} {env:Ay}
def Bk(M:XBM w P bd s bz i n er ts env w)(c:Nat)(sv:Ax):XBM w P bd s bz i n er ts env (dw w c sv):=((M.alloc _).alloc _).alloc _
def ke(M:XBM w P bd s bz i n er ts env w)(c:Nat)(sv:Ax):XBM w P bd s bz i (n+1) er ts env (dwn w bd n c sv):=(Bk M c sv).node
def fR(h:bd<w.heap.size)(c:Nat)(sv:Ax):Blk (dwn w bd n c sv) w.heap.size zf 32:=(cg w c sv).ot _ x4_
def wj(h:bd<w.heap.size)(c:Nat)(sv:Ax):Blk (dwn w bd n c sv) (w.heap.size+1) [U_ c,sv] 57:=(dQ w c sv).ot _ x4_
def fH(h:bd<w.heap.size)(c:Nat)(sv:Ax):Blk (dwn w bd n c sv) (w.heap.size+2) (zq c 0 noB (L_) (L_)) 32:=(dJ w c sv).ot _ x4_
end
def fU{w:Aw}{b t:Nat}{cs:Az}(h:Blk w b cs t)(o:Nat)(X Y Z:Cj):(((w.alloc X).alloc Y).alloc Z).frozen? ⟨b,o,none⟩=false:=(((h.alloc X).alloc Y).alloc Z).th o
def BH{s:BA}{env:Ay}{ts:Aq}{i n:Nat}(hn:n<300):wu s env ts (f+1) (.leaf 110 p) i n:=by
 intro w P bd bz k M C hk;simp only[isT]at hk;obtain⟨g,m,C,sv,z0,C,l,A,ho,u⟩:=M.Z.type hk;simp only[af_]at l;refine hq_ λC y=>?_;have h:=M.lt;have C:=zo z0;have C:=zo l;have c2:=M.L.c2;have c3:=M.L.c3;have c4:=M.L.c4;obtain⟨a,sn,b,rfl⟩:=zW ho;have z:=λX Y Z=>zJ c2 X Y Z;have d4:=λX Y Z=>zJ c4 X Y Z;have d5:=λX Y Z=>fU M.L 4 X Y Z;have C:(k:Int)<(m:Int):=M_;have C:¬(n:Int)+1 > 300:=M_;have x:=zy (ke M 110 (.slice a sn b));have e:=zy (fR (n:=n) h 110 (.slice a sn b));have q:=zy (wj (n:=n) h 110 (.slice a sn b));have v:=zy (fH (n:=n) h 110 (.slice a sn b));replace M:=zy M;replace ho:=zy ho;replace u:=zy u;have hr:=zy (show rdB s env (f+1) (.leaf 110 p) i n=.ok (.mk 110 0 noB [] [],i,n+1) by unfold rdB;rw[n_ M_];simp[vO]);go_in;go_upto_if 39 with fail;change Code.wp _ _ _ _ (dwn w bd n 110 (.slice a sn b));generalize dwn w bd n 110 (.slice a sn b)=W0 at *;have u0:=q.o.cell 0;have a:=q.o.cell 1;simp only[aa_,ab_,af_]at u0 a;obtain⟨r0,r1,a,b,h⟩:=e.o.f5;obtain⟨l,q,u,t3,t4⟩:=v.o.f5;obtain⟨v,v,v,v,v⟩:=e.o.t5;simp only[zf,zq,aa_,ab_,af_]at r0 r1 a b h l q u t3 t4;go_wp2;refine zi results26 e.o (λa a _=>?_);rw[y.o];rw[hr.o];exact bD x M_ (zF.bare _ _ 110 0 noB) a rfl
def cwBM1_{p:Prop}(h:p:=by
 (first|(have:=cc2;have hr:=zy (show rdB s env (f+1) (.leaf 116 p) i n=.error 6 by rw[hrd,n_ M_]))|(rw[hb]at hC));(first|(have:=cc1;have hr:=zy (show rdB s env (f+1) (.leaf 108 p) i n=.error 6 by rw[hrd];rw[hb]))|(have:=cc2;have hC:=zy (bC M0.o.L hl))|(have hr:=zy (show rdB s env (f+1) (.leaf 105 p) i n=.error 6 by rw[hrd];unfold vu;rw[hb])));(first|(have:=cc2;clear hrd)|(replace hC:=zy hC;clear hrd hb));go_wp2_with ((first|go_at_call 47|go_at_call 46);apply hC.o.mono;(first|(have:=cc2;rintro e w1 ⟨rfl,h1,F1⟩)|(rintro e w1 ⟨F1,rfl,j,hj,h1⟩));(first|(have:=cc2;have M1:=M0.o.call h1 F1 hjl)|(have M1:=M0.o.call h1 F1 hj));have D0:=F1.bl B0.o M_;have D1:=F1.bl B1.o M_;have D2:=F1.bl B2.o M_;have p1:=D2.cell 1;have p2:=D2.th 1;simp only[zq,aa_,ab_]at p1;have M2:=M1.put ⟨w.heap.size+1+1,1,none⟩ (O_) x4_;have E2:=C_ D2 1 (O_);have E0:=E_ D0 (a:=⟨w.heap.size+2,1,none⟩) (O_) x8_;(first|(have:=cc2)|(have E1:=E_ D1 (a:=⟨w.heap.size+2,1,none⟩) (O_) x8_;have v0:=E1.cell 0;simp only[aa_,af_]at v0;clear E1));obtain⟨r0,r1,r2,r3,r4⟩:=E0.f5;obtain⟨t0,t1,t2,t3,t4⟩:=E2.f5;obtain⟨g0,g1,g2,g3,g4⟩:=E0.t5;simp only[zf,zq,aa_,ab_,an_,ao_,af_]at r0 r1 r2 r3 r4 t0 t1 t2 t3 t4;replace M1:=zy M1;replace D0:=zy D0;replace D1:=zy D1;replace D2:=zy D2;replace M2:=zy M2;replace E0:=zy E0;replace E2:=zy E2;replace F1:=zy F1);refine zi results26 E0.o (λW5 hF _=>?_);rw[Q_.o];rw[hr.o];exact wL D_ M2.o M_ ⟨_,_,_,rfl⟩ ⟨_,_,_,rfl⟩ hF rfl):p:=h
def BM{s:BA}{env:Ay}{ts:Aq}{i n:Nat}(hn:n<300):wu s env ts (f+1) (.leaf 116 p) i n:=by
 intro w P bd bz k M a0 hk;simp only[isT]at hk;obtain⟨g,m,Q,sv,z0,R,C,N,ho,E⟩:=M.Z.type hk;simp only[af_]at C;refine hq_ λO Q_=>?_;have A:=M.lt;have T:=zo z0;have U:=zo C;have c2:=M.L.c2;have c3:=M.L.c3;have c4:=M.L.c4;have hjl:=M.jl;have J:=M.sl;obtain⟨b,sn,l,rfl⟩:=zW ho;have F:=λX Y Z=>zJ c2 X Y Z;have d4:=λX Y Z=>zJ c4 X Y Z;have d5:=λX Y Z=>fU M.L 4 X Y Z;have S:(k:Int)<(m:Int):=M_;have V:¬(n:Int)+1 > 300:=M_;have M0:=zy (ke M 116 (.slice b sn l));have B0:=zy (fR (n:=n) A 116 (.slice b sn l));have B1:=zy (wj (n:=n) A 116 (.slice b sn l));have B2:=zy (fH (n:=n) A 116 (.slice b sn l));replace M:=zy M;replace ho:=zy ho;replace E:=zy E;have H:=zy (λ(W:World) (j n:Nat) (er:Int) (h:DAt W bd s bz j er n)=>vh (e0:=6) h);go_in;go_upto_if 39 with fail;change Code.wp _ _ _ _ (dwn w bd n 116 (.slice b sn l));generalize dwn w bd n 116 (.slice b sn l)=W0 at *;have u0:=B1.o.cell 0;have K:=B1.o.cell 1;simp only[aa_,ab_,af_]at u0 K;have hrd:rdB s env (f+1) (.leaf 116 p) i n=if i<s.size/\bt s i<=1 then .ok (.mk 116 (bt s i:Int) noB [] [],i+1,n+1) else .error 6:=by unfold rdB;rw[n_ M_];simp[vO]
 by_cases hl:i=s.size
 .have cc2:=Nat;exact cwBM1_
 .have v:i<s.size:=M_;obtain⟨c,hc⟩:=x_ (bt s i);have hC:=fW M0.o.L J v;rw[hc]at hC hrd;replace hC:=zy hC;by_cases D:c<=1
  .have I:¬(c:Int) > 1:=M_;have hr:=zy (show rdB s env (f+1) (.leaf 116 p) i n=.ok (.mk 116 (c:Int) noB [] [],i+1,n+1) by rw[hrd,i_ ⟨v,D⟩]);go_wp2_with (go_at_call 46;apply hC.o.mono;rintro e w1 ⟨rfl,h1,F1⟩;have M1:=M0.o.call h1 F1 v;have D0:=F1.bl B0 M_;have D1:=F1.bl B1 M_;have D2:=F1.bl B2 M_;have p1:=D2.cell 1;have p2:=D2.th 1;simp only[zq,aa_,ab_]at p1;have M2:=M1.put ⟨w.heap.size+1+1,1,none⟩ (I_ c) x4_;have E2:=C_ D2 1 (I_ c);have E0:=E_ D0 (a:=⟨w.heap.size+2,1,none⟩) (I_ c) x8_;obtain⟨r0,r1,r2,r3,r4⟩:=E0.f5;obtain⟨t0,t1,t2,t3,t4⟩:=E2.f5;obtain⟨g0,g1,g2,g3,g4⟩:=E0.t5;simp only[zf,zq,aa_,ab_,an_,ao_,af_]at r0 r1 r2 r3 r4 t0 t1 t2 t3 t4;revert F1 M1 D0 D1 D2;refine k_ λF1 M1 D0 D1 D2=>?_;revert M2 E2 E0;refine h_ λM2 E2 E0=>?_);refine zi results26 E0.o (λW5 hF _=>?_);rw[Q_.o];rw[hr.o];exact bD M2 M_ (zF.bare _ _ 116 (c:Int) noB) hF rfl
  .have I:(c:Int) > 1:=M_;have hr:=zy (show rdB s env (f+1) (.leaf 116 p) i n=.error 6 by rw[hrd,n_ (λx=>D x.2)]);go_wp2_with (first
    |(go_at_call 46;apply hC.o.mono;rintro e w1 ⟨rfl,h1,F1⟩;have M1:=M0.o.call h1 F1 v;have D0:=F1.bl B0 M_;have D1:=F1.bl B1 M_;have D2:=F1.bl B2 M_;have p1:=D2.cell 1;have p2:=D2.th 1;simp only[zq,aa_,ab_]at p1;have M2:=M1.put ⟨w.heap.size+1+1,1,none⟩ (I_ c) x4_;have E2:=C_ D2 1 (I_ c);have E0:=E_ D0 (a:=⟨w.heap.size+2,1,none⟩) (I_ c) x8_;have E1:=E_ D1 (a:=⟨w.heap.size+2,1,none⟩) (I_ c) x8_;have t1:=E2.cell 1;have v0:=E1.cell 0;simp only[zq,aa_,ab_,an_,ao_,af_]at t1 v0;revert F1 M1 D0 D1 D2 M2;refine m_ λF1 M1 D0 D1 D2 M2=>?_;revert E2 E0 E1;refine h_ λE2 E0 E1=>?_)
    |(go_at_call 45;apply(H.o _ _ _ _ M2.o.L).mono;rintro e w2 ⟨rfl,G,q⟩;have z:=M2.o.call G q M2.o.jl;have u:=q.bl E0 M_;have y:=q.bl E2 M_;obtain⟨r0,r1,r2,r3,r4⟩:=u.f5;obtain⟨t0,t1,t2,t3,t4⟩:=y.f5;obtain⟨g0,g1,g2,g3,g4⟩:=u.t5;simp only[zf,zq,aa_,ab_,an_,ao_,af_]at r0 r1 r2 r3 r4 t0 t1 t2 t3 t4;revert q z u y;refine g_ λq z u y=>?_))
   refine zi results26 u.o (λW5 hF _=>?_);rw[Q_.o];rw[hr.o];exact wL D_ z M_ ⟨_,_,_,rfl⟩ ⟨_,_,_,rfl⟩ hF rfl
def cwBD1_{p:Prop}(h:p:=by
 obtain⟨v,j⟩:=q;rw[hb]at hC;(first|(have:=cc1;by_cases b:0<=v/\v<=(l.length:Int)-1)|(by_cases b : -2147483648<=v/\v<=2147483647))
 ·(first|(have:=cc1;have hr:=zy (show yX (rdB s env f) s (.enum l unk) i n=.ok (.mk 101 v noB [] [],j,n) by unfold yX vu;simp only;rw[hb];simp only;rw[i_ b]))|(have hr:=zy (show rdB s env (f+1) (.leaf 105 p) i n=.ok (.mk 105 v noB [] [],j,n+1) by rw[hrd];unfold vu;rw[hb];simp only;rw[i_ b])));(first|(have:=cc1;have g:¬v<0:=M_)|(obtain⟨x,y⟩:=b));(first|(have:=cc1;have u:¬v≥(sb.size:Int):=by have:=hsb.o;omega)|(have g:¬v < -2147483648:=M_;have u:¬v > 2147483647:=M_));replace hC:=zy hC;(first|(have:=cc1;clear hb;go_in)|(clear hrd hb));go_wp2_with (go_at_call 47;apply hC.o.mono;rintro e w1 ⟨F1,rfl,hj,h1⟩;have M1:=M0.o.call h1 F1 hj;have D0:=F1.bl B0.o M_;have D1:=F1.bl B1.o M_;have D2:=F1.bl B2.o M_;have p1:=D2.cell 1;have p2:=D2.th 1;simp only[zq,aa_,ab_]at p1;have M2:=M1.put ⟨w.heap.size+1+1,1,none⟩ (Z_ v) x4_;have E2:=C_ D2 1 (Z_ v);(try have:=cc1;have E1:=E_ D1 (a:=⟨w.heap.size+2,1,none⟩) (Z_ v) x8_);have E0:=E_ D0 (a:=⟨w.heap.size+2,1,none⟩) (Z_ v) x8_;(first|(have:=cc1;have v2:=E0.c2)|(have E1:=E_ D1 (a:=⟨w.heap.size+2,1,none⟩) (Z_ v) x8_));(first|(have:=cc1;obtain⟨r0,r1,r2,r3,r4⟩:=E1.f5)|(have v0:=E1.cell 0;simp only[aa_,af_]at v0;clear E1;obtain⟨r0,r1,r2,r3,r4⟩:=E0.f5));obtain⟨t0,t1,t2,t3,t4⟩:=E2.f5;(first|(have:=cc1;obtain⟨g0,g1,g2,g3,g4⟩:=E1.t5)|(obtain⟨g0,g1,g2,g3,g4⟩:=E0.t5));simp only[zf,zq,aa_,ab_,an_,ao_,af_]at r0 r1 r2 r3 r4 t0 t1 t2 t3 t4;replace M1:=zy M1;(try have:=cc1;replace M2:=zy M2);revert D0 D1 D2;refine h_ λD0 D1 D2=>?_;(first|(have:=cc1;replace E0:=zy E0)|(replace M2:=zy M2));(first|(have:=cc1;replace E1:=zy E1)|(replace E0:=zy E0));replace E2:=zy E2;replace F1:=zy F1);(first|(have:=cc1;refine zi results51 E1.o (λW5 hF _=>?_))|(refine zi results26 E0.o (λW5 hF _=>?_)));rw[Q_.o];rw[hr.o];(first|(have:=cc1;exact qN M2.o hn M_ (zF.bare _ _ 101 v noB) ⟨_,_,_,rfl⟩ ⟨_,_,_,rfl⟩ hF rfl)|(exact bD M2.o M_ (zF.bare _ _ 105 v noB) hF rfl))
 ·(first|(have:=cc1;have hr:=zy (show yX (rdB s env f) s (.enum l unk) i n=.error 6 by unfold yX vu;simp only;rw[hb];simp only;rw[n_ b]))|(have hr:=zy (show rdB s env (f+1) (.leaf 105 p) i n=.error 6 by rw[hrd];unfold vu;rw[hb];simp only;rw[n_ b])));replace hC:=zy hC;(first|(have:=cc1;clear hb)|(clear hrd hb));(first|(have:=cc1;by_cases g:v<0)|(by_cases x:v < -2147483648));all_goals (try (first|(have:=cc1;have u:v≥(sb.size:Int):=by have:=hsb.o;omega)|(have y:v > 2147483647:=by omega)))
  all_goals
   (try have:=cc1;go_in)
   go_wp2_with (first
    |(go_at_call 47;apply hC.o.mono;rintro e w1 ⟨F1,rfl,hj,h1⟩;have M1:=M0.o.call h1 F1 hj;have D0:=F1.bl B0.o M_;have D1:=F1.bl B1.o M_;have D2:=F1.bl B2.o M_;have p1:=D2.cell 1;have p2:=D2.th 1;simp only[zq,aa_,ab_]at p1;have M2:=M1.put ⟨w.heap.size+1+1,1,none⟩ (Z_ v) x4_;have E2:=C_ D2 1 (Z_ v);(try have:=cc1;have E1:=E_ D1 (a:=⟨w.heap.size+2,1,none⟩) (Z_ v) x8_);have E0:=E_ D0 (a:=⟨w.heap.size+2,1,none⟩) (Z_ v) x8_;(first|(have:=cc1)|(have E1:=E_ D1 (a:=⟨w.heap.size+2,1,none⟩) (Z_ v) x8_));have t1:=E2.cell 1;(first|(have:=cc1;have v2:=E0.cell 2)|(have v0:=E1.cell 0));(first|(have:=cc1;simp only[zq,aa_,ab_,an_,ao_,af_]at t1 v2)|(simp only[zq,aa_,ab_,an_,ao_,af_]at t1 v0;replace E1:=zy E1));replace M1:=zy M1;(try have:=cc1;replace M2:=zy M2);revert D0 D1 D2;refine h_ λD0 D1 D2=>?_;(first|(have:=cc1;replace E0:=zy E0)|(replace M2:=zy M2));(first|(have:=cc1;replace E1:=zy E1)|(replace E0:=zy E0));replace E2:=zy E2;replace F1:=zy F1)
    |(go_at_call 45;apply(hF0.o _ _ _ _ M2.o.L).mono;rintro e w2 ⟨rfl,h2,F2⟩;have M3:=M2.o.call h2 F2 M2.o.jl;(first|(have:=cc1;have G1:=F2.bl E1.o M_)|(have b:=F2.bl E0.o M_));have G2:=F2.bl E2.o M_;(first|(have:=cc1;obtain⟨r0,r1,r2,r3,r4⟩:=G1.f5)|(obtain⟨r0,r1,r2,r3,r4⟩:=b.f5));obtain⟨t0,t1,t2,t3,t4⟩:=G2.f5;(first|(have:=cc1;obtain⟨g0,g1,g2,g3,g4⟩:=G1.t5)|(obtain⟨g0,g1,g2,g3,g4⟩:=b.t5));simp only[zf,zq,aa_,ab_,an_,ao_,af_]at r0 r1 r2 r3 r4 t0 t1 t2 t3 t4;replace M3:=zy M3;(first|(have:=cc1;replace G1:=zy G1)|(replace b:=zy b));replace G2:=zy G2;replace F2:=zy F2))
   (first|(have:=cc1;refine zi results51 G1.o (λW5 hF _=>?_))|(refine zi results26 b.o (λW5 hF _=>?_)));rw[Q_.o];rw[hr.o];(first|(have:=cc1;exact vL (e0:=6) D_ M3.o M_ M_ ⟨_,_,_,rfl⟩ ⟨_,_,_,rfl⟩ hF rfl)|(exact wL D_ M3.o M_ ⟨_,_,_,rfl⟩ ⟨_,_,_,rfl⟩ hF rfl))):p:=h
def BD{s:BA}{env:Ay}{ts:Aq}{i n:Nat}(hn:n<300):wu s env ts (f+1) (.leaf 105 p) i n:=by
 intro w P bd bz k M C hk;simp only[isT]at hk;obtain⟨g,m,C,sv,z0,C,v,A,ho,x⟩:=M.Z.type hk;simp only[af_]at v;refine hq_ λC Q_=>?_;have u:=M.lt;have C:=zo z0;have C:=zo v;have c2:=M.L.c2;have c3:=M.L.c3;have c4:=M.L.c4;have hjl:=M.jl;have z:=M.sl;obtain⟨a,sn,b,rfl⟩:=zW ho;have y:=λX Y Z=>zJ c2 X Y Z;have d4:=λX Y Z=>zJ c4 X Y Z;have d5:=λX Y Z=>fU M.L 4 X Y Z;have C:(k:Int)<(m:Int):=M_;have C:¬(n:Int)+1 > 300:=M_;have M0:=zy (ke M 105 (.slice a sn b));have B0:=zy (fR (n:=n) u 105 (.slice a sn b));have B1:=zy (wj (n:=n) u 105 (.slice a sn b));have B2:=zy (fH (n:=n) u 105 (.slice a sn b));replace M:=zy M;replace ho:=zy ho;replace x:=zy x;have hF0:=zy (λ(W:World) (j n:Nat) (er:Int) (h:DAt W bd s bz j er n)=>vh (e0:=6) h);go_in;go_upto_if 39 with fail;change Code.wp _ _ _ _ (dwn w bd n 105 (.slice a sn b));generalize dwn w bd n 105 (.slice a sn b)=W0 at *;have u0:=B1.o.cell 0;have a:=B1.o.cell 1;simp only[aa_,ab_,af_]at u0 a;have hrd:rdB s env (f+1) (.leaf 105 p) i n=(match vu s (-2147483648) 2147483647 i with|none=>.error 6|some (q,j)=>.ok (.mk 105 q noB [] [],j,n+1)):=by unfold rdB;rw[n_ M_];show vO _ s env 105 i (n+1)=_;unfold vO;rw[n_ D_,n_ D_,i_ rfl];rfl
 have hC:=qg M0.o.L z hjl;cases hb:bL s i with
 |none=>
  exact cwBM1_
 |some q=>
  exact cwBD1_
def BR{s:BA}{env:Ay}{ts:Aq}{i n:Nat}(hn:n<300):wu s env ts (f+1) (.leaf 108 p) i n:=by
 intro w P bd bz k M C hk;simp only[isT]at hk;obtain⟨g,m,C,sv,z0,C,u,A,ho,x⟩:=M.Z.type hk;simp only[af_]at u;refine hq_ λC Q_=>?_;have l:=M.lt;have C:=zo z0;have C:=zo u;have c2:=M.L.c2;have c3:=M.L.c3;have c4:=M.L.c4;have hjl:=M.jl;have z:=M.sl;obtain⟨b,sn,h,rfl⟩:=zW ho;have y:=λX Y Z=>zJ c2 X Y Z;have d4:=λX Y Z=>zJ c4 X Y Z;have d5:=λX Y Z=>fU M.L 4 X Y Z;have C:(k:Int)<(m:Int):=M_;have C:¬(n:Int)+1 > 300:=M_;have M0:=zy (ke M 108 (.slice b sn h));have B0:=zy (fR (n:=n) l 108 (.slice b sn h));have B1:=zy (wj (n:=n) l 108 (.slice b sn h));have B2:=zy (fH (n:=n) l 108 (.slice b sn h));replace M:=zy M;replace ho:=zy ho;replace x:=zy x;go_in;go_upto_if 39 with fail;change Code.wp _ _ _ _ (dwn w bd n 108 (.slice b sn h));generalize dwn w bd n 108 (.slice b sn h)=W0 at *;have u0:=B1.o.cell 0;have b:=B1.o.cell 1;simp only[aa_,ab_,af_]at u0 b;have hrd:rdB s env (f+1) (.leaf 108 p) i n=(match bL s i with|none=>.error 6|some (q,j)=>.ok (.mk 108 q noB [] [],j,n+1)):=by unfold rdB;rw[n_ M_];show vO _ s env 108 i (n+1)=_;unfold vO;rw[n_ D_,n_ D_,n_ D_,i_ rfl];rfl
 have hC:=qg M0.o.L z hjl;cases hb:bL s i with
 |none=>
  have cc1:=Nat;exact cwBM1_
 |some q=>
  obtain⟨v,j⟩:=q;rw[hb]at hC;have hr:=zy (show rdB s env (f+1) (.leaf 108 p) i n=.ok (.mk 108 v noB [] [],j,n+1) by rw[hrd,hb]);replace hC:=zy hC;go_wp2_with (go_at_call 47;apply hC.o.mono;rintro e w1 ⟨F1,rfl,hj,h1⟩;have M1:=M0.o.call h1 F1 hj;have D0:=F1.bl B0 M_;have D1:=F1.bl B1 M_;have D2:=F1.bl B2 M_;have p1:=D2.cell 1;have p2:=D2.th 1;simp only[zq,aa_,ab_]at p1;have M2:=M1.put ⟨w.heap.size+1+1,1,none⟩ (Z_ v) x4_;have E2:=C_ D2 1 (Z_ v);have E0:=E_ D0 (a:=⟨w.heap.size+2,1,none⟩) (Z_ v) x8_;have E1:=E_ D1 (a:=⟨w.heap.size+2,1,none⟩) (Z_ v) x8_;have v0:=E1.cell 0;simp only[aa_,af_]at v0;obtain⟨r0,r1,r2,r3,r4⟩:=E0.f5;obtain⟨t0,t1,t2,t3,t4⟩:=E2.f5;obtain⟨g0,g1,g2,g3,g4⟩:=E0.t5;simp only[zf,zq,aa_,ab_,an_,ao_,af_]at r0 r1 r2 r3 r4 t0 t1 t2 t3 t4;replace M1:=zy M1;replace D0:=zy D0;replace D1:=zy D1;replace D2:=zy D2;replace M2:=zy M2;replace E0:=zy E0;replace E2:=zy E2;replace F1:=zy F1);refine zi results26 E0.o (λW5 hF _=>?_);rw[Q_.o];rw[hr.o];exact bD M2 M_ (zF.bare _ _ 108 v noB) hF rfl
def BC{s:BA}{env:Ay}{ts:Aq}{i n:Nat}(hn:n<300):wu s env ts (f+1) (.leaf 115 p) i n:=by
 intro w P bd bz k M b8 hk;simp only[isT]at hk;obtain⟨g,m,a8,sv,z0,a9,z1,z2,ho,a2⟩:=M.Z.type hk;simp only[af_]at z1;refine hq_ λa7 Q_=>?_;have a1:=M.lt;have b5:=zo z0;have b6:=zo z1;have c2:=M.L.c2;have c3:=M.L.c3;have c4:=M.L.c4;have a4:=M.jl;have a3:=M.sl;obtain⟨G,sn,H,rfl⟩:=zW ho;have d2:=λX Y Z=>zJ c2 X Y Z;have d4:=λX Y Z=>zJ c4 X Y Z;have d5:=λX Y Z=>fU M.L 4 X Y Z;have b4:(k:Int)<(m:Int):=M_;have b7:¬(n:Int)+1 > 300:=M_;have U:=zy (ke M 115 (.slice G sn H));have B0:=zy (fR (n:=n) a1 115 (.slice G sn H));have B1:=zy (wj (n:=n) a1 115 (.slice G sn H));have B2:=zy (fH (n:=n) a1 115 (.slice G sn H));replace M:=zy M;replace ho:=zy ho;replace a2:=zy a2;go_in;go_upto_if 39 with fail;change Code.wp _ _ _ _ (dwn w bd n 115 (.slice G sn H));generalize dwn w bd n 115 (.slice G sn H)=W0 at *;have u0:=B1.o.cell 0;have G:=B1.o.cell 1;simp only[aa_,ab_,af_]at u0 G;have E:rdB s env (f+1) (.leaf 115 p) i n=(match xn s i with|none=>.error 6|some (tx,j)=>.ok (.mk 115 0 tx [] [],j,n+1)):=by unfold rdB;rw[n_ M_];show vO _ s env 115 i (n+1)=_;unfold vO;rw[n_ D_,n_ D_,n_ D_,n_ D_,i_ rfl];rfl
 have A:=uH U.o.L a3 a4;cases hb:vA s i with
 |none=>
  rw[hb]at A;have hr:=zy (show rdB s env (f+1) (.leaf 115 p) i n=.error 6 by rw[E];unfold xn;rw[hb]);replace A:=zy A;go_wp2_with (first
   |(go_at_call 48;apply A.o.mono;rintro e w1 ⟨b,v,j,rfl,F,J,h1⟩;have u:=U.o.call h1 b J;have x:=b.bl B0 M_;have C:=zy (b.bl B2 M_);replace u:=zy u;replace x:=zy x;replace b:=zy b)
   |(go_at_call 49;apply(tU u.o.L D_).mono;rintro e w2 ⟨rfl,D⟩;replace D:=D.symm;subst D;have K:=C.o.cell 2;have p2:=C.o.th 2;simp only[zq,aa_,ab_]at K;have z:=u.o.put ⟨w.heap.size+1+1,2,none⟩ (.string noB) x4_;have y:=C_ C 2 (.string noB);have l:=E_ x (a:=⟨w.heap.size+2,2,none⟩) (.string noB) x8_;obtain⟨r0,r1,N,O,Q⟩:=l.f5;obtain⟨R,S,T,t3,t4⟩:=y.f5;obtain⟨g0,g1,g2,g3,g4⟩:=l.t5;simp only[zf,zq,aa_,ab_,an_,ao_,af_]at r0 r1 N O Q R S T t3 t4;revert z y l;refine h_ λz y l=>?_))
  refine zi results26 l.o (λW5 I _=>?_);rw[Q_.o];rw[hr.o];exact wL D_ z M_ ⟨_,_,_,rfl⟩ ⟨_,_,_,rfl⟩ I rfl
 |some q=>
  obtain⟨v,j⟩:=q;rw[hb]at A;have hg:=yU hb;obtain⟨m,rfl⟩:∃m:Nat,v=(m:Int):=⟨v.toNat,M_⟩;have V:=zy (λ(W:World) (h:DAt W bd s bz j 0 (n+1))=>uL (m:=m) h a3 hg.2.1 M_);cases F:xU s j m with
  |none=>
   have hr:=zy (show rdB s env (f+1) (.leaf 115 p) i n=.error 6 by rw[E];unfold xn;rw[hb];simp only[bb_];rw[F]);replace A:=zy A;rw[F]at V;go_wp2_with (first
    |(go_at_call 48;apply A.o.mono;rintro e w1 ⟨b,rfl,a5,a6,J,h1⟩;have u:=U.o.call h1 b J;have x:=b.bl B0 M_;have C:=zy (b.bl B2 M_);replace u:=zy u;replace x:=zy x;replace b:=zy b)
    |(go_at_call 49;apply(V.o _ u.o.L).mono;rintro e w2 ⟨D,rfl,j2,a0,h2⟩;have M2:=u.o.call h2 D a0;have E0:=D.bl x M_;have E2:=D.bl C M_;have K:=E2.cell 2;have p2:=E2.th 2;simp only[zq,aa_,ab_]at K;have z:=M2.put ⟨w.heap.size+1+1,2,none⟩ (.string noB) x4_;have y:=C_ E2 2 (.string noB);have l:=E_ E0 (a:=⟨w.heap.size+2,2,none⟩) (.string noB) x8_;obtain⟨r0,r1,N,O,Q⟩:=l.f5;obtain⟨R,S,T,t3,t4⟩:=y.f5;obtain⟨g0,g1,g2,g3,g4⟩:=l.t5;simp only[zf,zq,aa_,ab_,an_,ao_,af_]at r0 r1 N O Q R S T t3 t4;revert z y l;refine h_ λz y l=>?_))
   refine zi results26 l.o (λW5 I _=>?_);rw[Q_.o];rw[hr.o];exact wL D_ z M_ ⟨_,_,_,rfl⟩ ⟨_,_,_,rfl⟩ I rfl
  |some q=>
   obtain⟨tx,j2⟩:=q;have hr:=zy (show rdB s env (f+1) (.leaf 115 p) i n=.ok (.mk 115 0 tx [] [],j2,n+1) by rw[E];unfold xn;rw[hb];simp only[bb_];rw[F]);replace A:=zy A;rw[F]at V;go_wp2_with (first
    |(go_at_call 48;apply A.o.mono;rintro e w1 ⟨b,rfl,a5,a6,J,h1⟩;have u:=U.o.call h1 b J;have x:=b.bl B0 M_;have C:=zy (b.bl B2 M_);replace u:=zy u;replace x:=zy x;replace b:=zy b)
    |(go_at_call 49;apply(V.o _ u.o.L).mono;rintro e w2 ⟨D,rfl,a0,h2⟩;have M2:=u.o.call h2 D a0;have E0:=D.bl x M_;have E2:=D.bl C M_;have K:=E2.cell 2;have p2:=E2.th 2;simp only[zq,aa_,ab_]at K;have z:=M2.put ⟨w.heap.size+1+1,2,none⟩ (.string tx) x4_;have y:=C_ E2 2 (.string tx);have l:=E_ E0 (a:=⟨w.heap.size+2,2,none⟩) (.string tx) x8_;obtain⟨r0,r1,N,O,Q⟩:=l.f5;obtain⟨R,S,T,t3,t4⟩:=y.f5;obtain⟨g0,g1,g2,g3,g4⟩:=l.t5;simp only[zf,zq,aa_,ab_,an_,ao_,af_]at r0 r1 N O Q R S T t3 t4;revert z y l;refine h_ λz y l=>?_))
   refine zi results26 l.o (λW5 I _=>?_);rw[Q_.o];rw[hr.o];exact bD z M_ (zF.bare _ _ 115 0 tx) I rfl
structure BL(w:Aw)(P:Au)(bd:Nat)(s:BA)(bz j nn:Nat)(er:Int)(ts:Aq)(env:Ay)(cx:Az)(ct:As)(b0 b1 B c:Nat)(vk vs:Ax)(ks:Aa)(n:Nat)(xs:Az)(W:Aw):Prop where
 M:XBM w P bd s bz j nn er ts env W
 hb:w.heap.size<b0/\b0<b1/\b1<B
 bB:B<=W.heap.size
 rx:Blk W w.heap.size cx ct
 r0:Blk W b0 zf 32
 r1:Blk W b1 (zq c 0 noB vk vs) 32
 kr:W.ownsRow B 9 1 vk ks.length (ks.map Value.string)
 vr:W.ownsRow B 32 5 vs n xs
 ap:∀g,vk.ownBlock=some g->vs.ownBlock≠some g
section
variable {w W W':Aw} {P:Au} {bd:Nat} {s:BA} {bz j j' nn nn':Nat} {er er':Int} {cx:Az} {ct:As} {ts:Aq} {env:Ay} {b0 b1 B c:Nat} {vk vs:Ax} {ks:Aa} {n:Nat} {xs:Az} {ds:Ak}
def BL.call(Q:BL w P bd s bz j nn er ts env cx ct b0 b1 B c vk vs ks n xs W)(b:DAt W' bd s bz j' er' nn')(a:Fr W W' (· = bd))(h:j'<=s.size):BL w P bd s bz j' nn' er' ts env cx ct b0 b1 B c vk vs ks n xs W':=by
 have h1:=Q.M.lt;have l:=Q.hb;exact⟨Q.M.call b a h,Q.hb,ai_ Q.bB a.size,a.bl Q.rx M_,a.bl Q.r0 M_,a.bl Q.r1 M_,zk Q.kr a (λg hg e=>by have:=Q.kr.lt g hg;omega),zk Q.vr a (λg hg e=>by have:=Q.vr.lt g hg;omega),Q.ap⟩
def BL.dts(Q:BL w P bd s bz j nn er ts env cx ct b0 b1 B c vk vs ks n xs W)(D:Dts W B vk vs ds n xs)(a:Fr W W' (· = bd)):Dts W' B vk vs ds n xs:=by
 have h1:=Q.M.lt;have b:=Q.hb;exact D.fr a (λg hg _ _ e=>M_)
def BL.alloc(Q:BL w P bd s bz j nn er ts env cx ct b0 b1 B c vk vs ks n xs W)(o:Cj):BL w P bd s bz j nn er ts env cx ct b0 b1 B c vk vs ks n xs (W.alloc o):=
 ⟨Q.M.alloc o,Q.hb,by have:=Q.bB;simp;omega,Q.rx.alloc o,Q.r0.alloc o,Q.r1.alloc o,World.ownsRow.alloc Q.kr o,World.ownsRow.alloc Q.vr o,Q.ap⟩
def BL.key(Q:BL w P bd s bz j nn er ts env cx ct b0 b1 B c vk vs ks n xs W){l:Ax}{key:BA}(hg:(W.alloc o).grownBy w5 vk.ownBlock)(ho:w5.ownsRow B 9 1 l (ks.length+1) (ks.map Value.string++[.string key]))(hl:l.ownBlock=vk.ownBlock\/l.ownBlock=some (W.alloc o).heap.size):BL w P bd s bz j nn er ts env cx ct b0 b1 B c l vs (ks++[key]) n xs (w5.setCell ⟨b1,3,none⟩ l)/\(∀ds,Dts W B vk vs ds n xs->Dts (w5.setCell ⟨b1,3,none⟩ l) B l vs ds n xs):=by
 have hb:=Q.hb;have A:=Q.bB;have x:Fr W w5 (λg=>vk.ownBlock=some g):=T_ ((A_ W _).alloc o) hg (λk e _=>e);have v:∀g,l.ownBlock=some g->B<=g/\(vk.ownBlock=some g\/W.heap.size<=g):=λg h=>by
  rcases hl with e|e
  .exact⟨(Q.kr.lt g (e▸h)).1,.inl (e▸h)⟩
  .rw[e]at h;simp only[ae_]at h;have:(W.alloc o).heap.size=W.heap.size+1:=x8_
   exact⟨M_,.inr M_⟩
 have y:Fr w5 (w5.setCell ⟨b1,3,none⟩ l) (λg=>g=b1):=(A_ w5 (λg=>g=b1)).setCell ⟨b1,3,none⟩ l (λ_=>rfl);have u:Fr W (w5.setCell ⟨b1,3,none⟩ l) (λg=>vk.ownBlock=some g\/g=b1):=(x.mono (λ_ _ e=>.inl e)).trans y (λ_ _ e=>.inr e);have z:=x.bl Q.r1 (λe=>by have:=Q.kr.lt _ e;omega);refine⟨⟨Q.M.own (u.mono (λg _ e=>?_)),Q.hb,ai_ A u.size,u.bl Q.rx (λe=>?_),u.bl Q.r0 (λe=>?_),z.set 3 l,?_,zk Q.vr u (λg h e=>?_),λg h e=>?_⟩,λds D=>?_⟩
 .rcases e with e|e
  .have:=Q.kr.lt g e;omega
  .omega
 .rcases e with e|e
  .have:=Q.kr.lt _ e;omega
  .omega
 .rcases e with e|e
  .have:=Q.kr.lt _ e;omega
  .omega
 .rw[ah_,ap_,bh_,aw_,a5_];exact zk ho y (λg h e=>by have:=v g h;omega)
 .rcases e with e|e
  .exact Q.ap g e h
  .have:=Q.vr.lt _ h;omega
 .rcases(v g h).2 with q|q
  .exact Q.ap g q e
  .have:=Q.vr.lt _ e;omega
 .obtain⟨a,X,b,c⟩:=D;refine⟨a,X,b,λi d e=>((fB (c i d e)).fr u (λg h e=>?_)).mono (λg _ h=>⟨h.1.1,λe=>?_,h.1.2.2⟩)⟩
  .rcases e with e|e
   .exact h.1.2.1 e
   .have:=h.1.1;omega
  .rcases(v g e).2 with q|q
   .exact h.1.2.1 q
   .have:=h.2;omega
def BL.item(Q:BL w P bd s bz j nn er ts env cx ct b0 b1 B c vk vs ks n xs W){v5:Ax}{v:Az}(hg:(W.alloc o).grownBy w5 vs.ownBlock)(ho:w5.ownsRow B 32 5 v5 (n+1) (xs++v))(hl:v5.ownBlock=vs.ownBlock\/v5.ownBlock=some (W.alloc o).heap.size):BL w P bd s bz j nn er ts env cx ct b0 b1 B c vk v5 ks (n+1) (xs++v) (w5.setCell ⟨b1,4,none⟩ v5)/\
  (∀ds d,Dts W B vk vs ds n xs->zF W (λg=>B<=g/\vk.ownBlock≠some g/\vs.ownBlock≠some g) d v->Dts (w5.setCell ⟨b1,4,none⟩ v5) B vk v5 (ds++[d]) (n+1) (xs++v)):=by
 have hb:=Q.hb;have l:=Q.bB;have a:Fr W w5 (λg=>vs.ownBlock=some g):=T_ ((A_ W _).alloc o) hg (λk e _=>e);have hv:∀g,v5.ownBlock=some g->B<=g/\(vs.ownBlock=some g\/W.heap.size<=g):=λg hg'=>by
  rcases hl with e|e
  .exact⟨(Q.vr.lt g (e▸hg')).1,.inl (e▸hg')⟩
  .rw[e]at hg';simp only[ae_]at hg';have:(W.alloc o).heap.size=W.heap.size+1:=x8_
   exact⟨M_,.inr M_⟩
 have b:Fr w5 (w5.setCell ⟨b1,4,none⟩ v5) (λg=>g=b1):=(A_ w5 (λg=>g=b1)).setCell ⟨b1,4,none⟩ v5 (λ_=>rfl);have hH:Fr W (w5.setCell ⟨b1,4,none⟩ v5) (λg=>vs.ownBlock=some g\/g=b1):=(a.mono (λ_ _ e=>.inl e)).trans b (λ_ _ e=>.inr e);have h:=a.bl Q.r1 (λe=>by have:=Q.vr.lt _ e;omega);refine⟨⟨Q.M.own (hH.mono (λg _ e=>?_)),Q.hb,ai_ l hH.size,hH.bl Q.rx (λe=>?_),hH.bl Q.r0 (λe=>?_),h.set 4 v5,zk Q.kr hH (λg hg' e=>?_),zk ho b (λg hg' e=>by have:=hv g hg';omega),λg hg' e=>?_⟩,λds d D hd=>?_⟩
 .rcases e with e|e
  .have:=Q.vr.lt g e;omega
  .omega
 .rcases e with e|e
  .have:=Q.vr.lt _ e;omega
  .omega
 .rcases e with e|e
  .have:=Q.vr.lt _ e;omega
  .omega
 .rcases e with e|e
  .exact Q.ap g hg' e
  .have:=Q.kr.lt _ hg';omega
 .rcases(hv g e).2 with q|q
  .exact Q.ap g hg' q
  .have:=Q.kr.lt _ hg';omega
 .have cc1:=Nat;exact cwLMitem1_
def BL.ie(Q:BL w P bd s bz j nn er ts env cx ct b0 b1 B c vk vs ks n xs W)(hg:(W.alloc o).grownBy w5 vs.ownBlock):w5.cell? ⟨b1,4,none⟩=some vs/\w5.frozen? ⟨b1,4,none⟩=false:=by
 have cc1:=Nat
 exact cq33_
def BL.keyCell(Q:BL w P bd s bz j nn er ts env cx ct b0 b1 B c vk vs ks n xs W)(hg:(W.alloc o).grownBy w5 vk.ownBlock):w5.cell? ⟨b1,3,none⟩=some vk/\w5.frozen? ⟨b1,3,none⟩=false:=by
 have cc1:=Nat
 exact cq32_
def BL.dval(Q:BL w P bd s bz j nn er ts env cx ct b0 b1 B c vk vs ks n xs W)(D:Dts W B vk vs ds n xs)(k:Nat):zF W (λg=>B<=g) (.mk k 0 noB ks ds) (zq k 0 noB vk vs):=by
 have cc1:=Nat
 exact cq37_
end
def tN{s:BA}{env:Ay}{ts:Aq}{w:Aw}{P:Au}{bd bz k i n:Nat}{er:Int}(M:XBM w P bd s bz i n er ts env w)(he:er≠0)(hk:isT ts k t):Calls prog 26 #[P_ bd,I_ k] w (λe w'=>∃(k:Nat) (v:Int) (tx:BA) (a1:Option Addr) (m1 c1:Nat) (a2:Option Addr) (m2 c2:Nat),e=.returned (.agg (zq k v tx (.slice a1 m1 c1) (.slice a2 m2 c2)).toArray)/\Fr w w' (· = bd)/\DAt w' bd s bz i er n):=by
 have cc1:=Nat
 exact cq8_
def FN{s:BA}{env:Ay}{ts:Aq}{i n:Nat}(hn:300<=n):wu s env ts (f+1) t i n:=by
 intro w P bd bz k M a7 hk;obtain⟨l,hk⟩:=lH hk;obtain⟨c,hc⟩:=x_ t.kind;rw[hc]at hk;obtain⟨g,m,a0,sv,z0,a2,A,T,ho,C⟩:=M.Z.type hk;simp only at A;refine hq_ λV F=>?_;have z:=M.lt;have a4:=zo z0;have a5:=zo A;have c2:=M.L.c2;have c3:=M.L.c3;have c4:=M.L.c4;obtain⟨a,sn,b,rfl⟩:=zW ho;have G:=λX Y Z=>zJ c2 X Y Z;have d4:=λX Y Z=>zJ c4 X Y Z;have d5:=λX Y Z=>fU M.L 4 X Y Z;have a3:(k:Int)<(m:Int):=M_;have a6:(n:Int)+1 > 300:=M_;have x:=zy (ke M c (.slice a sn b));have D:=zy (fR (n:=n) z c (.slice a sn b));have U:=zy (wj (n:=n) z c (.slice a sn b));have E:=zy (fH (n:=n) z c (.slice a sn b));replace M:=zy M;replace ho:=zy ho;replace C:=zy C;have J:=zy (λ(W:World) (j n:Nat) (er:Int) (h:DAt W bd s bz j er n)=>vh (e0:=7) h);have hr:=zy (show rdB s env (f+1) t i n=.error 7 by unfold rdB;rw[i_ hn]);go_in;go_upto_if 39 with fail;change Code.wp _ _ _ _ (dwn w bd n c (.slice a sn b));generalize dwn w bd n c (.slice a sn b)=W0 at *;go_wp2_with (go_at_call 45;apply(J.o _ _ _ _ x.o.L).mono;rintro e w2 ⟨rfl,H,q⟩;have y:=x.o.call H q x.o.jl;have u:=q.bl D M_;have v:=q.bl E M_;obtain⟨r0,r1,K,N,O⟩:=u.f5;obtain⟨Q,R,S,t3,t4⟩:=v.f5;obtain⟨g0,g1,g2,g3,g4⟩:=u.t5;simp only[zf,zq,aa_,ab_,af_]at r0 r1 K N O Q R S t3 t4;revert q y u v;refine g_ λq y u v=>?_);refine zi results26 u.o (λW5 I _=>?_);rw[F.o];rw[hr.o];exact wL D_ y M_ ⟨_,_,_,rfl⟩ ⟨_,_,_,rfl⟩ I rfl
def Ze{w:Aw}{bd:Nat}{s:BA}{bz i n:Nat}(h:DAt w bd s bz i 0 n)(hs:s.size<=4000)(D:i<=s.size):Calls prog 48 #[P_ bd] w λe w1=>∃v,e=.returned (Z_ v)/\Fr w w1 (· = bd)/\(∃j er,j<=s.size/\DAt w1 bd s bz j er n)/\
  Calls prog 49 #[P_ bd,Z_ v] w1 λe l=>∃key j er,e=.returned (.string key)/\Fr w1 l (· = bd)/\j<=s.size/\key.size<=4000/\DAt l bd s bz j er n/\((er=0/\xn s i=some (key,j))\/(er=6/\xn s i=none)):=by
 apply(uH h hs D).mono;rintro e w1 ⟨A,hm⟩;cases hb:vA s i with
 |none=>
  rw[hb]at hm;obtain⟨v,j,rfl,b,a,h1⟩:=hm;refine⟨v,rfl,A,⟨j,6,a,h1⟩,(tU h1 D_).mono ?_⟩;rintro e l ⟨rfl,rfl⟩;exact⟨noB,j,6,rfl,A_ _ _,a,aj_ _,h1,.inr ⟨rfl,by unfold xn;rw[hb]⟩⟩
 |some q=>
  obtain⟨v,j⟩:=q;rw[hb]at hm;obtain⟨rfl,D,D,a,h1⟩:=hm;obtain⟨m,rfl⟩:∃m:Nat,v=(m:Int):=⟨v.toNat,M_⟩;refine⟨_,rfl,A,⟨j,0,a,h1⟩,(uL h1 hs a M_).mono ?_⟩;rintro e l ⟨C,g⟩;have z:xn s i=xU s j m:=by unfold xn;rw[hb];simp only[bb_]
  cases b:xU s j m with
  |none=>
   rw[b]at g;obtain⟨rfl,y,x,u⟩:=g;exact⟨noB,y,6,rfl,C,x,aj_ _,u,.inr ⟨rfl,by rw[z,b]⟩⟩
  |some q=>
   obtain⟨tx,y⟩:=q;rw[b]at g;obtain⟨rfl,x,u⟩:=g;have:=qS a b;exact⟨tx,y,0,rfl,C,x,M_,u,.inl ⟨rfl,by rw[z,b]⟩⟩
def BL.datum{w W:Aw}{P:Au}{bd:Nat}{s:BA}{bz j nn:Nat}{er:Int}{ts:Aq}{env:Ay}{cx:Az}{ct:As}{b0 b1 B c:Nat}{vk vs:Ax}{ks:Aa}{n:Nat}{xs:Az}{k:Nat}(Q:BL w P bd s bz j nn er ts env cx ct b0 b1 B c vk vs ks n xs W)(hn:nn<=301)(y:er=0->nn<=300)(hk:isT ts k t)(hB:er=0->wu s env ts f t j nn):Calls prog 26 #[P_ bd,I_ k] W λe W'=>∃(k:Nat) (m:Int) (tx:BA) (a:Option Addr) (l c1:Nat) (b:Option Addr) (u c2:Nat) (j' nn':Nat) (er':Int),e=.returned (.agg #[U_ k,Z_ m,.string tx,.slice a l c1,.slice b u c2])/\BL w P bd s bz j' nn' er' ts env cx ct b0 b1 B c vk vs ks n xs W'/\Fr W W' (· = bd)/\nn'<=301/\
  H_ ((er=0/\∃d,rdB s env f t j nn=.ok (d,j',nn')/\er'=0/\zF W' (λg=>B<=g/\vk.ownBlock≠some g/\vs.ownBlock≠some g) d (zq k m tx (.slice a l c1) (.slice b u c2)))\/(er=0/\∃x:Nat,rdB s env f t j nn=.error x/\er'=(x:Int)/\x≠0)\/(er≠0/\er'=er)):=by
 by_cases he:er=0
 .subst he;apply(hB rfl W P bd bz k Q.M.here (y rfl) hk).mono;rintro e W' ⟨z,m,tx,D,D,rfl,⟨a,l,c1,rfl⟩,⟨b,u,c2,rfl⟩,h,hm⟩;have D:=Q.bB;cases hr:rdB s env f t j nn with
  |error x=>
   rw[hr]at hm;obtain⟨h0,j',nn',h1,A,y⟩:=hm;exact⟨z,m,tx,a,l,c1,b,u,c2,j',nn',x,rfl,Q.call y h h1,h,A,zy (.inr (.inl ⟨rfl,x,rfl,rfl,h0⟩))⟩
  |ok q=>
   obtain⟨d,j',nn'⟩:=q;rw[hr]at hm;obtain⟨h1,A,y,C⟩:=hm;refine⟨z,m,tx,a,l,c1,b,u,c2,j',nn',0,rfl,Q.call y h h1,h,M_,zy (.inl ⟨rfl,d,rfl,rfl,C.mono (λg _ hg=>⟨M_,λe=>?_,λe=>?_⟩)⟩)⟩
   .have:=Q.kr.lt g e;omega
   .have:=Q.vr.lt g e;omega
 .apply(tN Q.M.here he hk).mono;rintro e W' ⟨z,v,tx,a,l,c1,b,u,c2,rfl,h,h1⟩;exact⟨z,v,tx,a,l,c1,b,u,c2,j,nn,er,rfl,Q.call h1 h Q.M.jl,h,hn,zy (.inr (.inr ⟨he,rfl⟩))⟩
end Go.Proofs.YtahhhgbojlkjnaaGreatDoor
