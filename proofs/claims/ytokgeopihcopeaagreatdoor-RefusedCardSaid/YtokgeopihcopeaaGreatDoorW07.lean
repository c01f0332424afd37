import Derived.Test.YtokgeopihcopeaaGreatDoorW06
set_option linter.unusedVariables false
set_option maxHeartbeats 16000000
set_option maxRecDepth 100000
set_option linter.defProp false
set_option linter.unusedSimpArgs false
open Go.Proofs.Tryz
namespace Go.Proofs.YtokgeopihcopeaaGreatDoor
open Go.RowKit
variable {pl:Aq}{P:Az}{i c j b q0:Nat}{pb:PB}{ds:Ar}{fs:An}{t:PT}{xs:Ay}{x:Ax}{m:Int}
def po(ds:Ae):Option (List DT×Nat)->Option (List DT×Nat)
 |none=>none
 |some (l,e)=>some (ds++l,e)
def Xu(x:Eo):po [] x=x:=by
 match x with
 |none=>rfl
 |some (r,j)=>rfl
def pz(R:Aj)(s:BA)(ds:Ae)(t:PT)(r:Af)(j:Nat):Option (List DT×Nat):=
 match R t j with
 |none=>none
 |some (d,e)=>po (ds++[d]) (zQ R s false r e)
def dG(R:Aj)(s:BA)(ds:Ae)(first:Aq)(t:PT)(r:Af)(j:Nat):po ds (zQ R s first (t::r) j)=if first=true then pz R s ds t r j else if bt s j=44 then pz R s ds t r (j+1) else none:=by
 conv=>lhs;rw[zQ]
 unfold pz;split
 .cases R t j with
  |none=>rfl
  |some q=>
   obtain⟨d,e⟩:=q;simp only;cases zQ R s false r e with
   |none=>rfl
   |some q=>simp[po]
 .split
  .cases R t (j+1) with
   |none=>rfl
   |some q=>
    obtain⟨d,e⟩:=q;simp only;cases zQ R s false r e with
    |none=>rfl
    |some q=>simp[po]
  .rfl
def ez(s:BA):Option (List DT×Nat)->Option (DT×Nat)
 |none=>none
 |some (ds,j)=>if bt s j=41 then some (.mk 114 0 noB [] ds,j+1) else none
def sC(R:Aj)(s:BA)(fs:An)(i:Nat):yv R s (.recd fs) i=ez s (if bt s i=40 then zQ R s true (fs.map PF.ty) (i+1) else none):=by
 unfold yv ez;by_cases a:bt s i=40
 .simp only[i_ a];rfl
 .simp only[n_ a]
def Cn(R_:Eo)(R:Aj)(fs:An)(i:Nat)(w:Aw)(P:Az)(bl:Nat)(s:BA)(bz:Nat)(pl:Aq)(ts:Ap)(env:Au)(fa:Am)(fc:Nat)(sb:BA)(o n:Int)(mm:Nat)(iv:Ax)(W:Aw):Prop:=
 ∃q:Nat,iv=I_ q/\q<=fs.length/\fs.length+1-q<=mm/\Blk W w.heap.size [.int .u8 114,.slice fa fs.length fc,.string sb,Z_ o,Z_ n] 62/\∃sa m sc xs,
  ((∃ds j,LM w P bl s bz pl j false ts env (w.heap.size+1) (w.heap.size+2) (w.heap.size+3) 114 (L_) (.slice sa m sc) [] m xs W/\m=ds.length/\ds.length=q/\i+1+q<=j/\R_=po ds (zQ R s (decide (q=0)) ((fs.map PF.ty).drop q) j))\/
   (∃j,LM w P bl s bz pl j true ts env (w.heap.size+1) (w.heap.size+2) (w.heap.size+3) 114 (L_) (.slice sa m sc) [] m xs W/\R_=none))
def CV(R_:Eo)(R:Aj)(s:BA)(ds:Ae)(t:PT)(r:Af)(j j':Nat)(bad':Aq):Prop:=
 (bad'=false/\j<=j'/\R_=pz R s ds t r j')\/(bad'=true/\R_=none)
def LM.itemKeep{w W a:Aw}{bl:Nat}{s:BA}{bz:Nat}{bad:Aq}{ts:Ap}{env:Au}{b0 b1 B:Nat}{vk vs:Ax}{ks:Dq}{n:Nat}{o:Obj}{t:Nat}{cs:Ay}(Q:LM w P bl s bz pl j bad ts env b0 b1 B c vk vs ks n xs W)(hg:(W.alloc o).grownBy a vs.ownBlock)(hb:Blk W b cs t)(h1:b<B)(f:b≠b1)(d:Ax):Blk (a.setCell ⟨b1,4,none⟩ d) b cs t:=by
 have h:Fr W a (λg=>vs.ownBlock=some g):=Y_ ((A_ W _).alloc o) hg (λk e _=>e);exact T_ (h.bl hb (λe=>o1_ (Q.vr.lt _ e))) d f
def Jv{w:Aw}{bl:Nat}{s:BA}{bz:Nat}{bad:Aq}{ts:Ap}{env:Au}{fv:Ax}{sb:BA}{o n:Int}(M:DM w P bl s bz pl i bad ts env w):LM w P bl s bz pl i bad ts env (w.heap.size+1) (w.heap.size+2) (w.heap.size+3) 114 (L_) (L_) [] 0 [] (nw w 114 fv sb o n):=
 ⟨Uk M 114 fv sb o n,M_,by simp[nw],Ug w 114 fv sb o n,Uw w 114 fv sb o n,World.ownsRow_nil _ _ _ _,World.ownsRow_nil _ _ _ _,λg hg=>by simp[Value.ownBlock]at hg⟩
def FY{s:BA}{env:Au}{ts:Ap}{f:Nat}(hR:∀g∈fs,∀j,i<j->j<=s.size->vS s env pl ts f g.ty j):PJ s env pl ts f (.recd fs) i:=by
 intro w P bl bz so fv sb o n M hN;obtain⟨⟨S,fn,B,rfl⟩,a2,rfl,e4,hown,a3⟩:=hN;have d2:=mV hown;subst d2;obtain⟨z,C⟩:=e_ (if bt s i=40 then zQ (rdT s env pl f) s true (fs.map PF.ty) (i+1) else none);have b9:yv (rdT s env pl f) s (.recd fs) i=ez s z:=by rw[C];exact sC _ _ _ _
 rw[b9];refine hq_ λe3 Q_=>?_;have e5:=M.lt;have e0:=M.jl;have a8:=M.sl;have Q0:=zy (Jv (fv:=.slice S fs.length B) (sb:=sb) (o:=o) (n:=n) M);have B0:=zy (Uf w 114 (.slice S fs.length B) sb o n);replace M:=zy M;replace a2:=zy a2;replace hown:=zy hown;replace a3:=zy a3;replace C:=zy C;replace hR:=zy hR;obtain⟨R,E⟩:=e_ (rdT s env pl f);replace E:=zy E;go_in;go_wp2_with (go_at_call 99;apply(xQ 40 Q0.o.M.L a8 e0 rfl D_).mono;rintro e w1 ⟨rfl,v⟩;obtain⟨A,a9,a,G,y⟩:=kY.lm D_ Q0 v;have u:=zy (G.bl B0 M_);replace a:=zy a;replace G:=zy G);have start:Cn z R fs i w P bl s bz pl ts env S B sb o n (fs.length+1) (O_) w1:=by
  refine⟨0,rfl,M_,M_,u,none,0,0,[],?_⟩;rcases y.o with⟨_,a0,rfl,rfl⟩|⟨a0,_,rfl⟩
  .refine .inl ⟨[],i+1,a,rfl,rfl,M_,?_⟩;rw[C.o,i_ a0,E.o,Xu];rfl
  .refine .inr ⟨A,a,?_⟩;rw[C.o,n_ (by simpa using a0)]
 replace start:=zy start;go_loopg [6] (fs.length+1) (λmm iv W=>Cn z R fs i w P bl s bz pl ts env S B sb o n mm iv W);case atStart=>exact start
 case round=>
  obtain⟨q,rfl,C,hm,X,sa,m,sc,xs,C|hB⟩:=hrel
  .obtain⟨ds,j,Q,D,a1,G,l⟩:=C;have b6:=Q.M.jl;have c2:=Q.M.L.c2;have x1:=X.c1;have e1:m=q:=M_;subst e1;replace X:=zy X;replace D:=zy D;replace a1:=zy a1;by_cases F:m<fs.length
   .have C:(m:Int)<(fs.length:Int):=M_;obtain⟨g,hg⟩:∃g,fs[m]?=some g:=⟨_,aj_ F⟩;have a4:g∈fs:=ai_ hg;obtain⟨num,a6,a5⟩:=a3.o m g hg;obtain⟨gf,C,b5⟩:=zg hown M_;simp only[Value.slice.injEq,true_and]at b5;obtain⟨rfl,rfl⟩:=b5;obtain⟨rest,U⟩:=e_ ((fs.map PF.ty).drop (m+1));have C:(fs.map PF.ty).drop m=g.ty::rest:=by
     rw[U,bs_ (by simpa using F)]
     congr 1
     rw[List.getElem_map]
     congr 1
     exact(ak_.1 hg).2
    rw[C,dG]at l;have G:m<=4000:=M_;replace l:=zy l;replace U:=zy U;replace a6:=zy a6;replace a5:=zy a5;replace a4:=zy a4;replace Q:=zy Q;go_upto_if 32 with fail;go_cut [] (λW=>∃j' C,LM w P bl s bz pl j' C ts env (w.heap.size+1) (w.heap.size+2) (w.heap.size+3) 114 (L_) (.slice sa m sc) [] m xs W/\Blk W w.heap.size [.int .u8 114,S_ gf fs.length B,.string sb,Z_ o,Z_ n] 62/\CV z R s ds g.ty rest j j' C);case first=>
     by_cases b8:m=0
     .subst b8;go_wp2;go_meet;case rel=>exact⟨j,false,Q,X,.inl ⟨rfl,l_,by rw[l.o];exact i_ D_⟩⟩
     .have h0:(0:Int)<(m:Int):=M_;go_wp2_with (go_at_call 99;apply(xQ 44 Q.o.M.L a8 b6 rfl D_).mono;rintro e w2 ⟨rfl,v⟩;obtain⟨j2,b4,k,F2,y⟩:=kY.lm D_ Q v;have B:=zy (F2.bl X M_);replace k:=zy k);go_meet;case rel=>
       refine⟨j2,b4,k,B,?_⟩;have hr:=l.o;rw[n_ (by simpa using b8)]at hr;rcases y.o with⟨_,p,rfl,rfl⟩|⟨p,_,rfl⟩
       .exact .inl ⟨rfl,M_,by rw[hr,i_ p]⟩
       .exact .inr ⟨rfl,by rw[hr,n_ (by simpa using p)]⟩
    case rest=>
     obtain⟨A,a9,a,u,o1⟩:=hcut;have G:=a.M.jl;have B:=a.M.L.c2;cases a9 with
     |true=>
      have p:z=none:=by
       rcases o1 with⟨h,_⟩|⟨_,h⟩
       .cases h
       .exact h
      replace a:=zy a;replace u:=zy u;replace p:=zy p;go_wp2;go_roundg (fs.length+1-(m+1));case measure=>omega
      case rel=>exact⟨m+1,by simp,M_,l_,u,sa,m,sc,xs,.inr ⟨A,a,p⟩⟩
     |false=>
      have B:j<=A/\z=pz R s ds g.ty rest A:=by
       rcases o1 with⟨_,h⟩|⟨h,_⟩
       .exact h
       .cases h
      obtain⟨C,p⟩:=B;have x1:=u.c1;have B:=zj hown a.M.fr (λg hg e=>a.M.nP (e▸a2.o g hg));have C:=zr B rfl a6;rw[bh_]at C;obtain⟨ti,d6,d7,d8,d9⟩:=info_parts XS;have C:=zy (hR.o g a4 A M_ G wc P bl bz num a.M.here a5);have G:=a.bB;replace a:=zy a;replace u:=zy u;replace p:=zy p;go_wp2_with (first
       |(go_at_call 66;apply C.o.mono;intro e B hP;obtain⟨K,N,O,I,V,c1,J,Y,c2,j3,B,rfl,B,G,y⟩:=zL.lm a hP;have C:=G.bl u M_;have a:=B.alloc (.cells (zW K N O (.slice I V c1) (.slice J Y c2)).toArray 108);have u:=C.alloc (.cells (zW K N O (.slice I V c1) (.slice J Y c2)).toArray 108);have t4:=a.r1.cell 4;simp only[zW,aa_,ab_]at t4;have G:=B.bB;revert B C a u;refine g_ λB C a u=>?_)
       |(at_builtin;go_must (refine wpList_append_own_at _ rfl _ _ 106 rfl (w.heap.size+3) 108 ti _ 5 80 Xa d6 d7 d8 d9 rfl D_ (.slice sa m sc) m xs rfl ?hown _ 1 1 (zW K N O (.slice I V c1) (.slice J Y c2)) rfl rfl (zK _ (zW K N O (.slice I V c1) (.slice J Y c2)).toArray _ _ ?nn) ?one ?b1 ?b2 ?b3 ?_)
         case hown=>exact World.ownsRow.alloc a.o.vr _
         case nn=>simp
         case one=>simp[zW,Value.oneCell']
         case b1=>unfold maxLen;omega
         case b2=>omega
         case b3=>simp;omega
         intro B C a7 T e2 b7
         have Z:=a.o.item T a7 b7
         have H:=a.o.itemKeep T u M_ M_ B
         obtain⟨u,f5⟩:=a.o.ie T
         obtain⟨a,a,rfl⟩:=zg a7 M_
         replace Z:=zy Z
         replace H:=zy H))
      have Q5:=Z.o;rcases y.o with⟨d,hr,rfl⟩|⟨hr,rfl⟩
      .have a:=vD s env pl f g.ty A d j3 hr;go_roundg (fs.length+1-(m+1));case measure=>omega
       case rel=>
        refine⟨m+1,by simp,M_,l_,H,_,m+1,_,_,.inl ⟨ds++[d],j3,Q5,by rw[ag_,ao_,D.o],by rw[ag_,ao_,a1.o],M_,?_⟩⟩;rw[p.o,pz,E.o,hr,<- U.o];rfl
      .go_roundg (fs.length+1-(m+1));case measure=>omega
       case rel=>
        refine⟨m+1,by simp,M_,l_,H,_,m+1,_,_,.inr ⟨j3,Q5,?_⟩⟩;rw[p.o,pz,E.o,hr]
   .have a:¬((m:Int)<(fs.length:Int)):=M_;have he:m=fs.length:=M_;have p:=zy (show z=some (ds,j) by rw[l,he,List.drop_of_length_le x6_];simp[zQ,po]);replace he:=zy he;replace Q:=zy Q;go_wp2_with (go_at_call 99;apply(xQ 41 Q.o.M.L a8 b6 rfl D_).mono;rintro e w2 ⟨rfl,v⟩;obtain⟨j2,b4,k,F2,y⟩:=kY.lm D_ Q v;obtain⟨r0,r1,K,N,O⟩:=k.r0.f5;obtain⟨Z,g1,g2,g3,g4⟩:=k.r0.t5;obtain⟨T,U,V,t3,t4⟩:=k.r1.f5;simp only[zV,zW,aa_,ab_,az_]at r0 r1 K N O T U V t3 t4;have I:=zy k.r0;replace k:=zy k);refine zU results105 I.o (λY H _=>?_);rw[Q_.o];rcases y.o with⟨_,J,rfl,rfl⟩|⟨J,_,rfl⟩
    .exact fi (w.heap.size+1) M_ k.o.M H (by rw[p.o];exact congrArg (Option.map Prod.snd) (i_ J))
    .exact gX (w.heap.size+1) M_ k.o.M H (by rw[p.o];exact n_ (by simpa using J))
  .obtain⟨j,Q,l⟩:=hB;have c2:=Q.M.L.c2;have x1:=X.c1;obtain⟨r0,r1,K,N,O⟩:=Q.r0.f5;obtain⟨Z,g1,g2,g3,g4⟩:=Q.r0.t5;obtain⟨T,U,V,t3,t4⟩:=Q.r1.f5;simp only[zV,zW,aa_,ab_,az_]at r0 r1 K N O T U V t3 t4;have I:=zy Q.r0;revert X Q l;refine h_ λX Q l=>?_;by_cases F:(q:Int)<(fs.length:Int);all_goals
    go_wp2;refine zU results105 I.o (λY H _=>?_);rw[Q_.o];exact gX (w.heap.size+1) M_ Q.o.M H (by rw[l.o];rfl)
def ZAt.named{w:Aw}{bz:Nat}{ts:Ap}{env:Au}(h:ZAt w P bz ts env){q:Nat}(d:q<6)(hp:env (65+q)=some pb):∃(so:Int) (fv:Value) (sb:BA) (o n:Int),fX w P ts pb so fv sb n/\w.cell? ⟨bz,1+q*5,none⟩=some (.int .u8 so)/\w.cell? ⟨bz,1+q*5+1,none⟩=some fv/\w.cell? ⟨bz,1+q*5+2,none⟩=some (.string sb)/\w.cell? ⟨bz,1+q*5+3,none⟩=some (Z_ o)/\w.cell? ⟨bz,1+q*5+4,none⟩=some (Z_ n):=by
 obtain⟨tv,zs,a,_,c⟩:=h.z;obtain⟨so,fv,sb,o,n,c1,c2⟩:=c q d pb hp;have key:∀p,p<5->w.cell? ⟨bz,1+q*5+p,none⟩=[Value.int .u8 so,fv,Value.string sb,Value.int .i64 o,Value.int .i64 n][p]?:=λp hp=>by
  rw[a.cell,show 1+q*5+p=(5*q+p)+1 by omega,ab_];exact c1 p hp
 exact⟨so,fv,sb,o,n,c2,key 0 M_,key 1 M_,key 2 M_,key 3 M_,key 4 M_⟩
def tX(q c:Nat)(h:c=65+q)(a:q<6):IntKind.i64.wrap (IntKind.i64.wrap (c:Int)-65)=(q:Int):=by
 subst h
 match q,a with
 | 0,_=>rfl
 | 1,_=>rfl
 | 2,_=>rfl
 | 3,_=>rfl
 | 4,_=>rfl
 | 5,_=>rfl
def WH{s:BA}{env:Au}{ts:Ap}{f p:Nat}(hc:zY c=true)(A:env c=some pb)(F:PJ s env pl ts f pb i):vS s env pl ts (f+1) (.leaf c p) i:=by
 intro w P bl bz k M hk;simp only[isT]at hk;have a3:65<=c/\c<=70:=z7_
 obtain⟨q,B⟩:∃q,c=65+q:=⟨c-65,M_⟩;have T:q<6:=M_;obtain⟨g,m,a2,sv,z0,a5,z1,z2,ho,S⟩:=M.Z.type hk;simp only at z1;have U:rdT s env pl (f+1) (.leaf c p) i=yv (rdT s env pl f) s pb i:=by
  simp only[rdT];unfold xz;rw[n_ M_,n_ M_,n_ M_,n_ M_,A]
 rw[U];refine hq_ λa1 Q_=>?_;have a7:=M.lt;have a8:=yt z0;have a9:=yt z1;have c3:=M.L.c3;have c2:=M.L.c2;have a4:=M.jl;have b4:=M.sl;obtain⟨u,sn,v,rfl⟩:=yE ho;have M0:=zy (iS M c (.slice u sn v));have B0:=zy (tk w c (.slice u sn v));have O:=zy (iI w c (.slice u sn v));have a0:=zy (show(dw w c (.slice u sn v)).heap.size=w.heap.size+3 by simp[dw]);have d2:=λX Y Z=>yZ c2 X Y Z;have a6:(k:Int)<(m:Int):=M_;have n1:((c:Int)==110)=false:=x1_
 have n2:((c:Int)==116)=false:=x1_
 have n3:((c:Int)==105)=false:=x1_
 have n4:((c:Int)==108)=false:=x1_
 have n5:((c:Int)==115)=false:=x1_
 have n6:((c:Int)==91)=false:=x1_
 have n7:((c:Int)==123)=false:=x1_
 have n8:((c:Int)==40)=false:=x1_
 replace M:=zy M;replace ho:=zy ho;replace S:=zy S;replace hk:=zy hk;replace F:=zy F;replace A:=zy A;replace B:=zy B;go_in;go_wp2;change Code.wp _ _ _ _ (dw w c (.slice u sn v));generalize dw w c (.slice u sn v)=W0 at *;have l:=M0.o.si (zq.drew W0);obtain⟨so,fv,sb,o,n,y,G,H,I,J,N⟩:=l.Z.named T (by rw[<- B.o];exact A);obtain⟨C,E,D,rfl⟩:=y.1;have V:=l.L.c3;have u0:=O.o.c0;have hwq:=tX q c B T;have u:(q:Int)<6:=M_;have hC:=zy (F.o _ P bl bz so (.slice C E D) sb o n l.here y);replace y:=zy y;refine tr_ 14 (λW=>(z_ W bl 3 (P_ bz)/\z_ W (w.heap.size+1) 0 (U_ c)/\z_ W bz (1+q*5) (.int .u8 so)/\z_ W bz (1+q*5+1) (.slice C E D)/\z_ W bz (1+q*5+2) (.string sb)/\z_ W bz (1+q*5+3) (Z_ o)/\z_ W bz (1+q*5+4) (Z_ n))) ?_;refine tb_ 0 rfl K_ (λ_ _ _ h=>h) xo_ x2_ ?_;refine tb_ 1 rfl K_ (λ_ _ _ h=>h) xo_ x2_ ?_;refine tb_ 2 rfl K_ (λ_ _ _ h=>h) xo_ x2_ ?_;refine tb_ 3 rfl K_ (λ_ _ _ h=>h) xo_ x2_ ?_;refine tb_ 4 rfl K_ (λ_ _ _ h=>h) xo_ x2_ ?_;refine tb_ 5 rfl K_ (λ_ _ _ h=>h) xo_ x2_ ?_;refine tb_ 6 rfl K_ (λ_ _ _ h=>h) xo_ x2_ ?_;refine tb_ 7 rfl K_ (λ_ _ _ h=>h) xo_ x2_ ?_;refine qL 8 (I_ q) rfl K_ (λ_ _ _ h=>h) xo_ ?y8 ?_;case y8=>(rintro W ⟨h1,h2,h3,h4,h5,h6,h7⟩;go_simp<;>first|rfl|exact hwq)
 refine tb_ 9 rfl K_ (λ_ _ _ h=>h) xo_ x2_ ?_;refine tb_ 10 rfl K_ (λ_ _ _ h=>h) xo_ x2_ ?_;refine tb_ 11 rfl K_ (λ_ _ _ h=>h) xo_ x2_ ?_;refine tb_ 12 rfl K_ (λ_ _ _ h=>h) xo_ x2_ ?_;refine zh 13 rfl K_ (λ_=>⟨V,u0,G,H,I,J,N⟩) (λK R=>?_);go_simp;apply hC.o.mono;intro e r hP;obtain⟨u,u,u,u,u,c1,u,u,c2,u,u,rfl,z,y,S⟩:=zL.any l hP;refine R _ _ ?_;have v:=y.bl B0 M_;have B:=y.bl O M_;obtain⟨r0,r1,u,A,F⟩:=v.f5;obtain⟨O,O,O,O,O⟩:=v.t5;simp only[zV,zW,aa_,ab_,az_]at r0 r1 u A F;have F:bz<W0.heap.size:=by rw[a0.o];omega
 have O:bz≠bl:=λe=>l.nP (e▸l.Z.zP);have u:∀A,r.cell? ⟨bz,A,none⟩=W0.cell? ⟨bz,A,none⟩:=λA=>World.cell?_of_block (a:=⟨bz,A,none⟩) (y.block bz F O);have F:=B.c0;have A:(r.cell? ⟨bl,3,none⟩=some (P_ bz)/\r.cell? ⟨w.heap.size+1,0,none⟩=some (U_ c)/\r.cell? ⟨bz,1+q*5,none⟩=some (.int .u8 so)/\r.cell? ⟨bz,1+q*5+1,none⟩=some (.slice C E D)/\r.cell? ⟨bz,1+q*5+2,none⟩=some (.string sb)/\r.cell? ⟨bz,1+q*5+3,none⟩=some (Z_ o)/\r.cell? ⟨bz,1+q*5+4,none⟩=some (Z_ n)):=⟨z.L.c3,F,(u _).trans G,(u _).trans H,(u _).trans I,(u _).trans J,(u _).trans N⟩;refine t1_ 14 A ?_;refine td_ ?_ _;replace l:=zy l;replace z:=zy z;replace y:=zy y;replace v:=zy v;go_wp2;refine zU results66 v.o (λl Q _=>?_);rw[Q_.o];rcases S.o with⟨d,hr,rfl⟩|⟨hr,rfl⟩
 .exact vb z Q (by rw[hr];rfl)
 .exact vA z Q hr
def Mv(s:BA)(env:Au)(pl:Aq)(ts:Ap)(f:Nat)(l:Af)(i:Nat):Prop:=
 ∀t∈l,∀j,(pl=true->j=i)->(pl=false->i<j)->j<=s.size->vS s env pl ts f t j
def UV{s:BA}{env:Au}{ts:Ap}(v:qW env)(r:∀f l i,l≠[]->i<=s.size->Mv s env pl ts f l i->Mm s env pl ts f l i):∀(f:Nat) (t:PT) (i:Nat),okT env t->i<=s.size->2*(s.size-i)+(if t.isAlts=true then 1 else 0)<f->vS s env pl ts f t i:=by
 intro f;induction f with
 |zero=>intro t i _ _ h;omega
 |succ f ih=>
  intro t i k hi hm;have d:∀u j,okT env u->i<j->j<=s.size->t.isAlts=false->vS s env pl ts f u j:=λu j hu h1 a e=>ih u j hu a (by
   rw[e]at hm
   simp only[a1_,if_false]at hm
   split<;>omega)
  cases t with
  |leaf c p=>
   rcases k with hb|⟨hn,pb,q⟩
   .simp only[zi,ay_,beq_iff_eq]at hb;rcases hb with(((rfl|rfl)|rfl)|rfl)|rfl
    .exact Cq
    .exact Cv
    .exact Cw
    .exact Ck
    .exact Cj
   .refine WH hn q ?_;have hB:=v c pb q;cases pb with
    |recd fs=>exact FY (λg hg j h1 a=>d g.ty j (hB g hg) h1 a rfl)
    |enum l o=>exact FV hB.1 hB.2
    |bytes n=>exact KS
  |wrap c p u=>
   obtain⟨hc,hu⟩:=k;rcases hc with rfl|rfl
   .exact YE (λj h1 a=>d u j hu h1 a rfl)
   .exact oT (λj h1 a=>d u j hu h1 a rfl)
  |alts p l=>
   obtain⟨hl,q⟩:=k;refine WR hl (r f l i hl hi (λu hu j h1 a e=>?_));obtain⟨d,k⟩:=vI q u hu;have q:i<=j:=by
    cases pl with
    |true=>have:=h1 rfl;omega
    |false=>have:=a rfl;omega
   refine ih u j k e ?_;rw[d];simp only[PT.isAlts,if_true]at hm;simp only[a1_,if_false];omega
def JE{s:BA}{env:Au}{ts:Ap}(a:qW env)(d:okT env t):vS s env true ts (2*s.size+2) t 0:=by
 refine UV a (λf l i hl hi a=>Gy hl (λt h=>a t h i (λ_=>rfl) (λh=>by cases h) hi)) _ t 0 d o_ ?_;split<;>omega
def ym(env:Au)(pl:Aq)(t:PT)(s:BA):Option DT:=
 match rdT s env pl (2*s.size+2) t 0 with
 |none=>none
 |some (d,j)=>if j=s.size then some d else none
def Zk(w:Aw)(r:Option DT)(e:Ak)(w':Aw):Prop:=
 ∃(k:Nat) (n:Int) (tx:BA) (a1:Option Addr) (m1 c1:Nat) (a2:Option Addr) (m2 c2:Nat),e=.returned (.tuple #[.agg #[U_ k,Z_ n,.string tx,.slice a1 m1 c1,.slice a2 m2 c2],.bool r.isSome])/\Fr w w' N_
def lw(w:Aw)(s:BA)(bz:Nat)(pl:Aq):World:=
 (w.alloc (.cells zV.toArray 108)).alloc (.cells #[.string s,O_,.bool false,P_ bz,.bool pl] 173)
def Ce{w:Aw}{s:BA}{bz:Nat}{ts:Ap}{env:Au}(Z:ZAt w P bz ts env)(hP:∀g,P g->g<w.heap.size)(hs:s.size<=4000):DM (lw w s bz pl) P (w.heap.size+1) s bz pl 0 false ts env (lw w s bz pl):=by
 refine⟨?_,Z.fr (((A_ w N_).alloc _).alloc _) u_,λh=>o1_ (hP _ h),λg hg=>by have:=hP g hg;simp[lw];omega,by simp[lw],A_ _ _,am_ _,hs⟩;have:=B_ (w.alloc (.cells zV.toArray 108)) #[.string s,O_,.bool false,P_ bz,.bool pl] 173;have e:(w.alloc (.cells zV.toArray 108)).heap.size=w.heap.size+1:=x6_
 rw[e]at this;exact this
def Fq{w:Aw}{s:BA}{bz:Nat}{ts:Ap}{env:Au}{k:Nat}(Z:ZAt w P bz ts env)(hP:∀g,P g->g<w.heap.size)(hs:s.size<=4000)(hk:isT ts k t)(E:vS s env pl ts (2*s.size+2) t 0):Calls prog 39 #[P_ bz,.string s,I_ k,.bool pl] w (Zk w (ym env pl t s)):=by
 refine hq_ λQ Q_=>?_;have Y:=zy (Ce (s:=s) (pl:=pl) Z hP hs);have B0:=zy (show Blk (lw w s bz pl) w.heap.size zV 108 from(B_ w _ _).alloc _);have a2:=zy (show(lw w s bz pl).heap.size=w.heap.size+2 by simp[lw]);have F0:=zy (show Fr w (lw w s bz pl) N_ from((A_ w _).alloc _).alloc _);revert Z hP hk E;refine g_ λZ hP hk E=>?_;go_in;go_wp2_with (go_at_call 66;apply(E.o _ P (w.heap.size+1) bz k Y hk).mono;intro e u hQ;obtain⟨l,n,p,a,q,c1,f,r,c2,A,a0,rfl,Q,E,a1⟩:=zL.any Y hQ;have Y:=zy (E.bl B0 M_);replace Q:=zy Q;replace E:=zy E);change Code.wp _ _ _ _ (u.alloc (.cells #[U_ l,Z_ n,.string p,.slice a q c1,.slice f r c2] 108));have a3:=E.o.size;rw[a2.o]at a3;have B:=Q.o.alloc (.cells #[U_ l,Z_ n,.string p,.slice a q c1,.slice f r c2] 108);have C:=Y.o.alloc (.cells #[U_ l,Z_ n,.string p,.slice a q c1,.slice f r c2] 108);have M:=B_ u #[U_ l,Z_ n,.string p,.slice a q c1,.slice f r c2] 108;have K:Fr w (u.alloc (.cells #[U_ l,Z_ n,.string p,.slice a q c1,.slice f r c2] 108)) N_:=(F0.o.trans E (λx hx e=>M_)).alloc _;have X:Fr u (u.alloc (.cells #[U_ l,Z_ n,.string p,.slice a q c1,.slice f r c2] 108)) N_:=(A_ u _).alloc _;generalize u.alloc (.cells #[U_ l,Z_ n,.string p,.slice a q c1,.slice f r c2] 108)=W3 at *;generalize E:u.heap.size=bx at *;have O:=B.L.c2;have N:=B.L.c1;obtain⟨F,G,H,I,J⟩:=M.f5;obtain⟨r0,r1,T,U,V⟩:=C.f5;obtain⟨g0,g1,g2,g3,g4⟩:=C.t5;simp only[zV,zW,aa_,ab_,az_]at r0 r1 T U V F G H I J;have D:∀W',Fr W3 W' (λg=>g=w.heap.size)->W'.cell? ⟨w.heap.size+1,2,none⟩=some (.bool a0)/\W'.cell? ⟨w.heap.size+1,1,none⟩=some (I_ A)/\W'.cell? ⟨bx,0,none⟩=some (U_ l)/\W'.cell? ⟨bx,1,none⟩=some (Z_ n)/\W'.cell? ⟨bx,2,none⟩=some (.string p)/\W'.cell? ⟨bx,3,none⟩=some (.slice a q c1)/\W'.cell? ⟨bx,4,none⟩=some (.slice f r c2):=λW' hf=>by
  have u:=hf.bl B.L M_;have hX:=hf.bl M M_;exact⟨u.cell 2,u.cell 1,hX.cell 0,hX.cell 1,hX.cell 2,hX.cell 3,hX.cell 4⟩
 replace D:=D _ ((Fr.fi W3 w.heap.size (U_ l) (Z_ n) (.string p) (.slice a q c1) (.slice f r c2)).drew);have u:=B.jl;replace B:=zy B;replace C:=zy C;replace M:=zy M;replace K:=zy K;replace X:=zy X;cases hb:a0 with
 |false=>
  subst hb;refine tr_ 16 (λW=>z_ W (w.heap.size+1) 2 (.bool false)/\z_ W (w.heap.size+1) 1 (I_ A)/\z_ W bx 0 (U_ l)/\z_ W bx 1 (Z_ n)/\z_ W bx 2 (.string p)/\z_ W bx 3 (.slice a q c1)/\z_ W bx 4 (.slice f r c2)) ?_;refine tz_ 0 ?_;refine tz_ 1 ?_;refine tz_ 2 ?_;refine tz_ 3 ?_;refine tz_ 4 ?_;refine tz_ 5 ?_;refine tz_ 6 ?_;refine tz_ 7 ?_;refine tz_ 8 ?_;refine tz_ 9 ?_;refine tz_ 10 ?_;refine tz_ 11 ?_;refine tz_ 12 ?_;refine tz_ 13 ?_;refine tz_ 14 ?_;refine t1_ 15 ⟨O,N,F,G,H,I,J⟩ ?_;refine t1_ 16 D ?_;refine td_ ?_ _;have y:=(Blk.fi C (U_ l) (Z_ n) (.string p) (.slice a q c1) (.slice f r c2)).drew;obtain⟨q0,q1,q2,q3,q4⟩:=y.d5;have R:=zy ((Fr.fi W3 w.heap.size (U_ l) (Z_ n) (.string p) (.slice a q c1) (.slice f r c2)).drew);have z:Fr w _ N_:=K.o.trans R (λx hx e=>M_);replace z:=zy z;replace y:=zy y;generalize (World.setCell (World.setCell (World.setCell (World.setCell (World.setCell W3 ⟨w.heap.size,0,none⟩ (U_ l)) ⟨w.heap.size,1,none⟩ (Z_ n)) ⟨w.heap.size,2,none⟩ (.string p)) ⟨w.heap.size,3,none⟩ (.slice a q c1)) ⟨w.heap.size,4,none⟩ (.slice f r c2)).drew=W5 at *;go_wp2;refine bodyPost_ret (v:=.tuple #[.agg #[U_ l,Z_ n,.string p,.slice a q c1,.slice f r c2],.bool ((A:Int)==(s.size:Int))]) yq_ rfl ?_;rw[Q_.o];rcases a1.o with⟨d,hr,_⟩|⟨_,h⟩
  .have S:ym env pl t s=if A=s.size then some d else none:=by unfold ym;rw[hr]
   refine⟨l,n,p,a,q,c1,f,r,c2,?_,z⟩
   .rw[S];by_cases u:A=s.size
    .rw[i_ u,u];simp
    .rw[n_ u,show(((A:Nat):Int)==((s.size:Nat):Int))=false by simp;omega];rfl
  .cases h
 |true=>
  subst hb;refine tr_ 16 (λW=>z_ W (w.heap.size+1) 2 (.bool true)/\z_ W (w.heap.size+1) 1 (I_ A)/\z_ W bx 0 (U_ l)/\z_ W bx 1 (Z_ n)/\z_ W bx 2 (.string p)/\z_ W bx 3 (.slice a q c1)/\z_ W bx 4 (.slice f r c2)) ?_;refine tz_ 0 ?_;refine tz_ 1 ?_;refine tz_ 2 ?_;refine tz_ 3 ?_;refine tz_ 4 ?_;refine tz_ 5 ?_;refine tz_ 6 ?_;refine ve 7 rfl K_ (λ_ _ _ h=>h) K_ ?_;refine ve 8 rfl K_ (λ_ _ _ h=>h) K_ ?_;refine ve 9 rfl K_ (λ_ _ _ h=>h) K_ ?_;refine ve 10 rfl K_ (λ_ _ _ h=>h) K_ ?_;refine ve 11 rfl K_ (λ_ _ _ h=>h) K_ ?_;refine ve 12 rfl K_ (λ_ _ _ h=>h) K_ ?_;refine ve 13 rfl K_ (λ_ _ _ h=>h) K_ ?_;refine tz_ 14 ?_;refine t1_ 15 ⟨O,N,F,G,H,I,J⟩ ?_;refine t1_ 16 D ?_;refine td_ ?_ _;have y:=(Blk.fi C (U_ l) (Z_ n) (.string p) (.slice a q c1) (.slice f r c2)).drew;obtain⟨q0,q1,q2,q3,q4⟩:=y.d5;have R:=zy ((Fr.fi W3 w.heap.size (U_ l) (Z_ n) (.string p) (.slice a q c1) (.slice f r c2)).drew);have z:Fr w _ N_:=K.o.trans R (λx hx e=>M_);replace z:=zy z;replace y:=zy y;generalize (World.setCell (World.setCell (World.setCell (World.setCell (World.setCell W3 ⟨w.heap.size,0,none⟩ (U_ l)) ⟨w.heap.size,1,none⟩ (Z_ n)) ⟨w.heap.size,2,none⟩ (.string p)) ⟨w.heap.size,3,none⟩ (.slice a q c1)) ⟨w.heap.size,4,none⟩ (.slice f r c2)).drew=W5 at *;go_wp2;refine bodyPost_ret (v:=.tuple #[.agg #[U_ l,Z_ n,.string p,.slice a q c1,.slice f r c2],.bool false]) yq_ rfl ?_;rw[Q_.o];rcases a1.o with⟨_,_,h⟩|⟨hr,_⟩
  .cases h
  .have S:ym env pl t s=none:=by unfold ym;rw[hr]
   rw[S];exact⟨l,n,p,a,q,c1,f,r,c2,rfl,z⟩
def xK(env:Au)(k:Nat):List PF:=match env (65+k) with|some (.recd fs)=>fs|_=>[]
def Vb:Nat->Value->Prop
 | 5,v=>∃a,v=.int .u8 a
 | 6,v=>∃a,v=Z_ a
 | 7,v=>∃a,v=.string a
 | 8,v=>∃a m c,v=.slice a m c
 | 9,v=>∃a m c,v=.slice a m c
 | _,_=>False
def Pz(s:BA)(f:PF):BA:=match f.dflt with|none=>⟨#[]⟩|some (a,b)=>s.extract a b
def Px(f:PF):Nat:=(f.dflt.map Prod.fst).getD 0
def GQ(s:BA)(ts:Ap)(fs:An)(xs:Ay):Prop:=
 ∀q f,fs[q]?=some f->(∃num:Nat,isT ts num f.ty/\xs[10*q+1]?=some (I_ num))/\xs[10*q]?=some (U_ f.letter)/\xs[10*q+2]?=some (.bool f.dflt.isSome)/\xs[10*q+3]?=some (Z_ (Px f:Int))/\xs[10*q+4]?=some (.string (Pz s f))/\
  ∀p,5<=p->p<10->∃v,xs[10*q+p]?=some v/\Vb p v
def Mu(pb:Option PB)(so:Int)(sb:BA)(o n:Int):Prop:=
 match pb with
 |none=>so=0
 |some (.recd _)=>so=114
 |some (.enum l u)=>so=101/\sb.data.toList.map UInt8.toNat=l.map Prod.fst/\o=(match u with|none=>-1|some (c,_)=>plc sb c)
 |some (.bytes k)=>so=102/\n=(k:Int)
structure SZ(W:Aw)(P1 P2:Az)(bz:Nat)(s:BA)(ts:Ap)(env:Au)(rt:Ax):Prop where
 dis:∀g,P2 g->¬P1 g
 zP:P1 bz
 z:∃tv zs,Blk W bz (tv::zs) 65/\zs[30]?=some rt/\cw W P1 tv ts/\
  ∀k,k<6->∃(so:Int) (fv:Value) (sb:BA) (o n:Int) (xs:List Value),(∀p,p<5->zs[5*k+p]?=[Value.int .u8 so,fv,Value.string sb,Value.int .i64 o,Value.int .i64 n][p]?)/\
   W.ownsRow 0 110 10 fv (xK env k).length xs/\(∀g,fv.ownBlock=some g->P2 g)/\GQ s ts (xK env k) xs/\Mu (env (65+k)) so sb o n
section
variable {W W':Aw} {P1 P2:Az} {bz:Nat} {s:BA} {ts:Ap} {env:Au} {rt:Ax}
def SZ.fr{S:Az}(h:SZ W P1 P2 bz s ts env rt)(hf:Fr W W' S)(h1:∀g,P1 g->¬S g)(f:∀g,P2 g->¬S g):SZ W' P1 P2 bz s ts env rt:=by
 refine⟨h.dis,h.zP,?_⟩;obtain⟨tv,zs,a,d,b,c⟩:=h.z;refine⟨tv,zs,hf.bl a (h1 _ h.zP),d,b.fr hf h1,λk hk=>?_⟩;obtain⟨so,fv,sb,o,n,xs,c1,c2,c3,c4,c5⟩:=c k hk;exact⟨so,fv,sb,o,n,xs,c1,zj c2 hf (λg e=>f g (c3 g e)),c3,c4,c5⟩
def cw.mono{Q:Nat->Prop}{tv:Value}(h:cw W P tv ts)(d:∀g,P g->Q g):cw W Q tv ts:=by
 obtain⟨xs,a,b,c⟩:=h;refine⟨xs,a,λg e=>d g (b g e),λk t f=>?_⟩;obtain⟨sv,c1,c2,c3,c4⟩:=c k t f;exact⟨sv,c1,c2,c3,λg e=>d g (c4 g e)⟩
def SZ.toZ(h:SZ W P1 P2 bz s ts env rt):ZAt W (λg=>P1 g\/P2 g) bz ts env:=by
 refine⟨.inl h.zP,?_⟩;obtain⟨tv,zs,a,d,b,c⟩:=h.z;refine⟨tv,zs,a,b.mono (λg hg=>.inl hg),λk hk pb hp=>?_⟩;obtain⟨so,fv,sb,o,n,xs,c1,c2,c3,c4,c5⟩:=c k hk;refine⟨so,fv,sb,o,n,c1,yE c2,λg e=>.inr (c3 g e),?_⟩;rw[hp]at c5;cases pb with
 |recd fs=>
  have e:xK env k=fs:=by unfold xK;rw[hp]
  rw[e]at c2 c4;refine⟨c5,xs,c2,λq f hf=>?_⟩;obtain⟨⟨num,d1,d⟩,_⟩:=c4 q f hf;exact⟨num,d,d1⟩
 |enum l u=>exact⟨c5.1,c5.2.1⟩
 |bytes m=>exact c5
def Fx{e:Av}{v:Ax}{n:Nat}(h:W.ownsRow 0 e 10 v n xs)(g o:Nat)(x:Ax):∃ys,(W.setCell ⟨g,o,none⟩ x).ownsRow 0 e 10 v n ys/\ys.length=xs.length/\∀i,(i≠o->ys[i]?=xs[i]?)/\(i=o->ys[i]?=xs[i]?\/(i<xs.length/\ys[i]?=some x)):=by
 by_cases hg:v.ownBlock=some g
 .rcases h.2 with⟨rfl,_⟩|⟨g',a,d,rfl,hb,p,h1,f,k,l⟩
  .simp[Value.ownBlock]at hg
  .simp only[Value.ownBlock,af_]at hg;subst hg;refine⟨xs.set o x,⟨by rw[br_];exact h.1,.inr ⟨g',a,d.setIfInBounds o x,rfl,hb,?_,h1,f,by rw[Array.size_setIfInBounds];exact k,?_⟩⟩,br_,λi=>⟨λhi=>bz_ (Ne.symm hi),λhi=>?_⟩⟩
   .simp[World.setCell,Array.getElem?_modify,p]
   .rw[Array.toList_setIfInBounds,List.take_set,l]
   .subst hi;by_cases hl:i<xs.length
    .exact .inr ⟨hl,by rw[cj_ hl]⟩
    .left;rw[bm_ (by rw[br_];omega),bm_ M_]
 .refine⟨xs,zj h ((A_ W (λb=>b=g)).setCell ⟨g,o,none⟩ x (λ_=>rfl)) (λb hb e=>hg (e▸hb)),rfl,λi=>⟨λ_=>rfl,λ_=>.inl rfl⟩⟩
def GQ.set{ys:Ay}{a:Nat}(h:GQ s ts fs xs)(hp:5<=a/\a<10)(hx:Vb a x)(h1:∀i,(i≠10*q0+a->ys[i]?=xs[i]?)/\(i=10*q0+a->ys[i]?=xs[i]?\/(i<xs.length/\ys[i]?=some x))):GQ s ts fs ys:=by
 intro q f hf;obtain⟨⟨num,g,k⟩,d,l,n,o,r⟩:=h q f hf;refine⟨⟨num,g,by rw[(h1 _).1 M_];exact k⟩,by rw[(h1 _).1 M_];exact d,by rw[(h1 _).1 M_];exact l,by rw[(h1 _).1 M_];exact n,by rw[(h1 _).1 M_];exact o,λp d g=>?_⟩;obtain⟨v,b1,b2⟩:=r p d g;by_cases he:10*q+p=10*q0+a
 .rcases(h1 _).2 he with e|⟨_,e⟩
  .exact⟨v,by rw[e];exact b1,b2⟩
  .have:p=a:=M_;subst this;exact⟨x,e,hx⟩
 .exact⟨v,by rw[(h1 _).1 he];exact b1,b2⟩
def SZ.store(h:SZ W P1 P2 bz s ts env rt){g d:Nat}(hg:P2 g)(hp:5<=d/\d<10)(hx:Vb d x):SZ (W.setCell ⟨g,10*q0+d,none⟩ x) P1 P2 bz s ts env rt:=by
 refine⟨h.dis,h.zP,?_⟩;have hf:Fr W (W.setCell ⟨g,10*q0+d,none⟩ x) (λb=>b=g):=(A_ W (λb=>b=g)).setCell ⟨g,10*q0+d,none⟩ x (λ_=>rfl);have hn:∀b,P1 b->¬b=g:=λb hb e=>h.dis g hg (e▸hb);obtain⟨tv,zs,a,f,b,c⟩:=h.z;refine⟨tv,zs,hf.bl a (hn _ h.zP),f,b.fr hf hn,λk hk=>?_⟩;obtain⟨so,fv,sb,o,n,xs,c1,c2,c3,c4,c5⟩:=c k hk;obtain⟨ys,d1,_,f⟩:=Fx c2 g (10*q0+d) x;exact⟨so,fv,sb,o,n,ys,c1,d1,c3,c4.set hp hx f,c5⟩
def SZ.fields(h:SZ W P1 P2 bz s ts env rt){k:Nat}(hk:k<6):∃l r,W.cell? ⟨bz,1+k*5+1,none⟩=some (.slice l (xK env k).length r)/\
 ∀q f,(xK env k)[q]?=some f->∃g num a b tx p G c1 e H c2,l=some ⟨g,0,none⟩/\P2 g/\isT ts num f.ty/\
  W.cell? ⟨g,q*10,none⟩=some (U_ f.letter)/\W.cell? ⟨g,q*10+1,none⟩=some (I_ num)/\W.cell? ⟨g,q*10+2,none⟩=some (.bool f.dflt.isSome)/\W.cell? ⟨g,q*10+3,none⟩=some (Z_ (Px f:Int))/\W.cell? ⟨g,q*10+4,none⟩=some (.string (Pz s f))/\
  W.cell? ⟨g,q*10+5,none⟩=some (.int .u8 a)/\W.cell? ⟨g,q*10+6,none⟩=some (Z_ b)/\W.cell? ⟨g,q*10+7,none⟩=some (.string tx)/\W.cell? ⟨g,q*10+8,none⟩=some (.slice p G c1)/\W.cell? ⟨g,q*10+9,none⟩=some (.slice e H c2)/\∀o,W.frozen? ⟨g,o,none⟩=false:=by
 obtain⟨tv,zs,a,_,b,c⟩:=h.z;obtain⟨so,fv,sb,o,n,xs,c1,c2,c3,c4,c5⟩:=c k hk;obtain⟨l,r,rfl⟩:=zw c2;refine⟨l,r,?_,λq f hf=>?_⟩
 .rw[a.cell,show 1+k*5+1=(5*k+1)+1 by omega,ab_];exact c1 1 M_
 .have l:0<(xK env k).length:=by have:=(ak_.1 hf).1;omega
  obtain⟨g,r,hv⟩:=zg c2 l;simp only[Value.slice.injEq,true_and]at hv;obtain⟨rfl,rfl⟩:=hv;obtain⟨⟨num,p,e⟩,u,v,y,A,d⟩:=c4 q f hf;obtain⟨_,B,⟨I,rfl⟩⟩:=d 5 M_ M_;obtain⟨_,C,⟨J,rfl⟩⟩:=d 6 M_ M_;obtain⟨_,D,⟨K,rfl⟩⟩:=d 7 M_ M_;obtain⟨_,E,⟨L,M,N,rfl⟩⟩:=d 8 M_ M_;obtain⟨_,F,⟨O,Q,R,rfl⟩⟩:=d 9 M_ M_;have cell:=λ{i:Nat} {x:Value} (hx:xs[i]?=some x)=>zr c2 rfl hx;rw[bh_]at u e v y A B C D E F;refine⟨g,num,I,J,K,L,M,N,O,Q,R,rfl,c3 g rfl,p,cell u,cell e,cell v,cell y,cell A,cell B,cell C,cell D,cell E,cell F,λo=>?_⟩;rcases c2.2 with⟨hn,_⟩|⟨g',d,d,e,_,d,_⟩
  .cases hn
  .cases e;simp[World.frozen?,d]
end
def tw(s:BA)(env:Au)(fs:An)(m:Int):Int:=
 fs.foldl (λm f=>match f.dflt with|none=>m|some (a,b)=>if (ym env true f.ty (s.extract a b)).isSome=true then m else zF (a:Int) m) m
def xk(s:BA)(env:Au):Nat->Int
 | 0=>-1
 |k+1=>tw s env (xK env k) (xk s env k)
def nK(s:BA)(env:Au)(m:Int)(f:PF):Int:=
 match f.dflt with|none=>m|some (a,b)=>if (ym env true f.ty (s.extract a b)).isSome=true then m else zF (a:Int) m
def JL{s:BA}{env:Au}{q:Nat}{f:PF}(h:fs[q]?=some f)(m:Int):tw s env (fs.take (q+1)) m=nK s env (tw s env (fs.take q) m) f:=by
 rw[a8_,h];unfold tw;rw[List.foldl_append];rfl
structure jo(w:Aw)(P1 P2:Az)(bz:Nat)(s:BA)(ts:Ap)(env:Au)(rt:Ax)(W:Aw):Prop where
 Z:SZ W P1 P2 bz s ts env rt
 fr:Fr w W P2
 l1:∀g,P1 g->g<w.heap.size
 l2:∀g,P2 g->g<w.heap.size
section
variable {w W W':Aw} {P1 P2:Az} {bz:Nat} {s:BA} {ts:Ap} {env:Au} {rt:Ax}
def jo.own(M:jo w P1 P2 bz s ts env rt W)(hf:Fr W W' (λg=>w.heap.size<=g)):jo w P1 P2 bz s ts env rt W':=
 ⟨M.Z.fr hf (λg hg=>o1_ (M.l1 g hg)) (λg hg=>o1_ (M.l2 g hg)),M.fr.trans hf (λx hx e=>absurd e M_),M.l1,M.l2⟩
def jo.alloc(M:jo w P1 P2 bz s ts env rt W)(o:Obj):jo w P1 P2 bz s ts env rt (W.alloc o):=M.own ((A_ W _).alloc o)
def jo.store(M:jo w P1 P2 bz s ts env rt W){g:Nat}(a:Nat)(hg:P2 g)(hp:5<=a/\a<10)(hx:Vb a x):jo w P1 P2 bz s ts env rt (W.setCell ⟨g,q0*10+a,none⟩ x):=by
 rw[bh_];exact⟨M.Z.store hg hp hx,M.fr.setCell _ _ (λ_=>hg),M.l1,M.l2⟩
end
def mI{w:Aw}{P1 P2:Az}{bz:Nat}{s:BA}{ts:Ap}{env:Au}{rt:Ax}(M:jo w P1 P2 bz s ts env rt w)(hs:s.size<=300)(Y:qW env)(a3:∀k,k<6->(xK env k).length<=300)(a5:∀k f,k<6->f∈xK env k->okT env f.ty):Calls prog 22 #[.pointer (some ⟨bz,0,none⟩)] w λe w'=>e=.returned (Z_ (xk s env 6))/\jo w P1 P2 bz s ts env rt w':=by
 refine hq_ λe0 Q_=>?_;replace Y:=zy Y;replace a3:=zy a3;replace a5:=zy a5;have start:=zy (⟨0,M_,M_,rfl,rfl,M⟩:∃k:Nat,k<=6/\7-k<=7/\Value.int .i64 0=Z_ (k:Int)/\Value.int .i64 (-1)=Z_ (xk s env k)/\jo w P1 P2 bz s ts env rt w);clear M;go_in;go_wp2_with fail;go_loopg [3,4] 7 (λmm v3 v4 W=>∃k:Nat,k<=6/\7-k<=mm/\v4=Z_ (k:Int)/\v3=Z_ (xk s env k)/\jo w P1 P2 bz s ts env rt W);case atStart=>exact start.o
 case round=>
  clear start;obtain⟨k,hk,f2,rfl,rfl,M⟩:=hrel;by_cases a2:k<6
  .have b9:(k:Int)<6:=M_;have f1:=a3.o k a2;have b4:=zy (⟨0,M_,M_,rfl,rfl,M⟩:∃q:Nat,q<=(xK env k).length/\(xK env k).length+1-q<=(xK env k).length+1/\Value.int .i64 0=Z_ (q:Int)/\Value.int .i64 (xk s env k)=Z_ (tw s env ((xK env k).take q) (xk s env k))/\jo w P1 P2 bz s ts env rt wr);clear M;go_wp2_with fail;go_loopg [3,5] ((xK env k).length+1) (λmm v3 v5 W=>∃q:Nat,q<=(xK env k).length/\(xK env k).length+1-q<=mm/\v5=Z_ (q:Int)/\v3=Z_ (tw s env ((xK env k).take q) (xk s env k))/\jo w P1 P2 bz s ts env rt W);case atStart=>exact b4.o
   case round=>
    clear b4;obtain⟨q,hq,f6,rfl,rfl,M⟩:=hrel;obtain⟨fa,fc,a8,a0⟩:=M.Z.fields a2;by_cases d7:q<(xK env k).length
    .have d8:(q:Int)<((xK env k).length:Int):=M_;obtain⟨f,hf⟩:∃f,(xK env k)[q]?=some f:=⟨_,aj_ d7⟩;have b8:=zy (a5.o k f a2 (ai_ hf));have F:=zy (JL (s:=s) (env:=env) hf (xk s env k));obtain⟨g,num,xa,xb,xt,y1,y2,y3,y4,y5,y6,rfl,hg,a1,X,e1,e2,e3,e4,e5,e6,e7,e8,e9,a6⟩:=a0 q f hf;obtain⟨m,hm⟩:∃m,tw s env ((xK env k).take q) (xk s env k)=m:=⟨_,rfl⟩;rw[hm]at F⊢;have f0:=yt a8;have b6:=yt X;clear a0 hf;replace hm:=zy hm;replace M:=zy M;replace hg:=zy hg;replace a1:=zy a1;replace a6:=zy a6;cases d:f.dflt with
     |none=>
      simp only[d,cc_]at e2;replace d:=zy d;go_wp2_with fail;go_roundg ((xK env k).length+1-(q+1));case measure=>omega
      case rel=>exact⟨q+1,M_,l_,by simp,by rw[F.o];unfold nK;rw[d.o],M.o.alloc _⟩
     |some ab=>
      obtain⟨a,b⟩:=ab;simp only[d,Option.isSome_some]at e2;rw[show Px f=a by simp[Px,d]]at e3;rw[show Pz s f=s.extract a b by simp[Pz,d]]at e4;obtain⟨tx,C⟩:∃t,t=s.extract a b:=⟨_,rfl⟩;rw[<- C]at e4;have d9:tx.size<=4000:=by rw[C,a6_];omega
      obtain⟨r,hr⟩:∃r,ym env true f.ty tx=r:=⟨_,rfl⟩;replace C:=zy C;replace hr:=zy hr;replace d:=zy d;obtain⟨a9,a4⟩:∃x,x=(f.letter:Int):=⟨_,rfl⟩;change _=some (Value.int .u8 (f.letter:Int)) at X;rw[<- a4]at X;replace a4:=zy a4;go_wp2_with (go_at_call 39;refine(Fq (M.o.alloc _).Z.toZ (λx hx=>by have h1:=M.o.fr.size;rcases hx with hx|hx;have:=M.o.l1 x hx;simp;omega;have:=M.o.l2 x hx;simp;omega) d9 a1.o (JE Y.o b8.o)).mono ?_;intro e G hP;rw[hr.o]at hP;obtain⟨p,u,z,l,A,c1,n,B,c2,rfl,H⟩:=hP;have M2:=zy ((M.o.alloc (.cells #[.int .u8 a9,Z_ (num:Int),.bool true,Z_ (a:Int),.string tx,.int .u8 xa,Z_ xb,.string xt,.slice y1 y2 y3,.slice y4 y5 y6] 110)).own (H.mono v_));have Bf:=zy (H.bl (B_ wr #[.int .u8 a9,Z_ (num:Int),.bool true,Z_ (a:Int),.string tx,.int .u8 xa,Z_ xb,.string xt,.slice y1 y2 y3,.slice y4 y5 y6] 110) id);replace H:=zy H);change Code.wp _ _ _ _ (G.alloc (.cells #[.int .u8 (p:Int),Z_ u,.string z,.slice l A c1,.slice n B c2] 108));have U:=M2.o.alloc (.cells #[.int .u8 (p:Int),Z_ u,.string z,.slice l A c1,.slice n B c2] 108);have V:=B_ G #[.int .u8 (p:Int),Z_ u,.string z,.slice l A c1,.slice n B c2] 108;have S:=Bf.o.alloc (.cells #[.int .u8 (p:Int),Z_ u,.string z,.slice l A c1,.slice n B c2] 108);have I:Fr wr (G.alloc (.cells #[.int .u8 (p:Int),Z_ u,.string z,.slice l A c1,.slice n B c2] 108)) (λ_=>False):=(((A_ wr (λ_=>False)).alloc _).trans H.o u_).alloc _;have b7:=Bf.o.lt;have f7:wr.heap.size<G.heap.size:=b7;generalize G.alloc (.cells #[.int .u8 (p:Int),Z_ u,.string z,.slice l A c1,.slice n B c2] 108)=W3 at *;generalize G.heap.size=bx at *;have D:=λ(b o:Nat) (v:Value) (h:wr.cell? ⟨b,o,none⟩=some v)=>(World.cell?_of_block (a:=⟨b,o,none⟩) (I.block b (yt h) id)).trans h;have kf:=λ(o:Nat)=>(World.frozen?_of_block (a:=⟨g,o,none⟩) (I.block g b6 id)).trans (a6.o o);have K:=D _ _ _ a8;have w5:=D _ _ _ e5;have w6:=D _ (q*10+5+1) _ e6;have w7:=D _ (q*10+5+2) _ e7;have w8:=D _ (q*10+5+3) _ e8;have w9:=D _ (q*10+5+4) _ e9;have z5:=kf (q*10+5);have z6:=kf (q*10+5+1);have z7:=kf (q*10+5+2);have z8:=kf (q*10+5+3);have z9:=kf (q*10+5+4);obtain⟨L,N,O,Q,R⟩:=V.d5;replace U:=zy U;replace V:=zy V;replace S:=zy S;replace I:=zy I;clear D kf;refine tr_ 11 (λW=>z_ W bz (1+k*5+1) (S_ g (xK env k).length fc)/\z_ W bx 0 (.int .u8 (p:Int))/\z_ W bx 1 (Z_ u)/\z_ W bx 2 (.string z)/\z_ W bx 3 (.slice l A c1)/\z_ W bx 4 (.slice n B c2)) ?_;refine tz_ 0 ?_;refine tz_ 1 ?_;refine tz_ 2 ?_;refine tz_ 3 ?_;refine tz_ 4 ?_;refine tz_ 5 ?_;refine tz_ 6 ?_;refine tz_ 7 ?_;refine tz_ 8 ?_;refine t1_ 9 ⟨K,L,N,O,Q,R⟩ ?_;refine t1_ 10 ⟨K,L,N,O,Q,R⟩ ?_;refine t1_ 11 ⟨K,L,N,O,Q,R⟩ ?_;refine td_ ?_ _;have M4:jo w P1 P2 bz s ts env rt (World.setCell (World.setCell (World.setCell (World.setCell (World.setCell W3 ⟨g,q*10+5,none⟩ (.int .u8 (p:Int))) ⟨g,q*10+5+1,none⟩ (Z_ u)) ⟨g,q*10+5+2,none⟩ (.string z)) ⟨g,q*10+5+3,none⟩ (.slice l A c1)) ⟨g,q*10+5+4,none⟩ (.slice n B c2)):=((((U.o.store (q0:=q) 5 hg.o M_ ⟨_,rfl⟩).store (q0:=q) 6 hg.o M_ ⟨_,rfl⟩).store (q0:=q) 7 hg.o M_ ⟨_,rfl⟩).store (q0:=q) 8 hg.o M_ ⟨_,_,_,rfl⟩).store (q0:=q) 9 hg.o M_ ⟨_,_,_,rfl⟩;have E:jo w P1 P2 bz s ts env rt (World.setCell (World.setCell (World.setCell (World.setCell (World.setCell W3 ⟨g,q*10+5,none⟩ (.int .u8 (p:Int))) ⟨g,q*10+5+1,none⟩ (Z_ u)) ⟨g,q*10+5+2,none⟩ (.string z)) ⟨g,q*10+5+3,none⟩ (.slice l A c1)) ⟨g,q*10+5+4,none⟩ (.slice n B c2)).drew:=M4.own ((A_ _ _).drew);have a7:Fr W3 (World.setCell (World.setCell (World.setCell (World.setCell (World.setCell W3 ⟨g,q*10+5,none⟩ (.int .u8 (p:Int))) ⟨g,q*10+5+1,none⟩ (Z_ u)) ⟨g,q*10+5+2,none⟩ (.string z)) ⟨g,q*10+5+3,none⟩ (.slice l A c1)) ⟨g,q*10+5+4,none⟩ (.slice n B c2)).drew (λb=>b=g):=((((((A_ W3 (λb=>b=g)).setCell ⟨g,q*10+5,none⟩ (.int .u8 (p:Int)) (λ_=>rfl)).setCell ⟨g,q*10+5+1,none⟩ (Z_ u) (λ_=>rfl)).setCell ⟨g,q*10+5+2,none⟩ (.string z) (λ_=>rfl)).setCell ⟨g,q*10+5+3,none⟩ (.slice l A c1) (λ_=>rfl)).setCell ⟨g,q*10+5+4,none⟩ (.slice n B c2) (λ_=>rfl)).drew;have T:=a7.bl S.o M_;clear M4 a7;generalize (World.setCell (World.setCell (World.setCell (World.setCell (World.setCell W3 ⟨g,q*10+5,none⟩ (.int .u8 (p:Int))) ⟨g,q*10+5+1,none⟩ (Z_ u)) ⟨g,q*10+5+2,none⟩ (.string z)) ⟨g,q*10+5+3,none⟩ (.slice l A c1)) ⟨g,q*10+5+4,none⟩ (.slice n B c2)).drew=W5 at *;have b3:=T.c3;replace E:=zy E;replace T:=zy T;clear K L N O Q R w5 w6 w7 w8 w9 z5 z6 z7 z8 z9;cases J:r.isSome with
      |true=>
       go_wp2_with fail;go_roundg ((xK env k).length+1-(q+1));case measure=>omega
       case rel=>exact⟨q+1,M_,l_,by simp,by rw[F.o];unfold nK;rw[d.o];simp only;rw[<- C.o,hr.o,if_pos J],E.o⟩
      |false=>
       by_cases d2:m<0
       .go_wp2_with fail;go_roundg ((xK env k).length+1-(q+1));case measure=>omega
        case rel=>exact⟨q+1,M_,l_,by simp,by rw[F.o];unfold nK;rw[d.o];simp only;rw[<- C.o,hr.o,if_neg (by rw[J];decide),zF,if_pos (.inl d2)],E.o⟩
       .by_cases b5:(a:Int)<m
        .go_wp2_with fail;go_roundg ((xK env k).length+1-(q+1));case measure=>omega
         case rel=>exact⟨q+1,M_,l_,by simp,by rw[F.o];unfold nK;rw[d.o];simp only;rw[<- C.o,hr.o,if_neg (by rw[J];decide),zF,if_pos (.inr b5)],E.o⟩
        .go_wp2_with fail;go_roundg ((xK env k).length+1-(q+1));case measure=>omega
         case rel=>exact⟨q+1,M_,l_,by simp,by rw[F.o];unfold nK;rw[d.o];simp only;rw[<- C.o,hr.o,if_neg (by rw[J];decide),zF,if_neg (λx=>x.elim (λy=>M_) (λy=>M_))],E.o⟩
    .have d8:¬(q:Int)<((xK env k).length:Int):=M_;have d6:=zy (show tw s env ((xK env k).take q) (xk s env k)=xk s env (k+1) by rw[bc_ M_];rfl);rw[d6.o];clear a0;replace M:=zy M;go_wp2_with fail;go_roundg (7-(k+1));case measure=>omega
     case rel=>exact⟨k+1,M_,l_,by simp,rfl,M.o⟩
  .have b9:¬(k:Int)<6:=M_;have d:=zy (show k=6 by omega);replace M:=zy M;go_wp2_with fail;rw[Q_.o];exact⟨by rw[d.o],M.o⟩
def shB(N:Nat):PB->Prop
 | .recd fs=>(∀f∈fs,shT f.ty)/\fs.length<=N
 | .enum l _=>(∀c∈l.map Prod.fst,0<c)/\l.length<=N
 | .bytes n=>n<=9
def ik{s:BA}{f:PF}(h:zR s i=.ok (f,j)):shT f.ty:=by
 unfold zR at h;split at h
 .split at h
  .split at h
   .cases h
   .rename_i t k hp;have:=aa hp;split at h
    .split at h
     .cases h
     .cases h;exact this
    .cases h;exact this
  .cases h
 .cases h
def lW(s:BA):∀(n i:Nat) (l:List PF) (j:Nat),i<=s.size->yW s n i=.ok (l,j)->(∀f∈l,shT f.ty)/\i+l.length<=s.size:=by
 intro n;induction n with
 |zero=>intro i l j _ h;cases h
 |succ n ih=>
  intro i l j hi h;unfold yW at h;split at h
  .cases h
  .rename_i f k hf;have h1:=(vu hi).1 f k hf;have a:=ik hf;split at h
   .cases h;exact⟨λg hg=>by rw[a2_]at hg;subst hg;exact a,by simp;omega⟩
   .split at h
    .rename_i o;have:=zp (s:=s) (i:=k) M_;split at h
     .cases h
     .rename_i fs e hr;cases h;have d:=ih _ _ _ M_ hr;refine⟨λg hg=>?_,by rw[au_];omega⟩;rcases aq_.1 hg with rfl|hg
      .exact a
      .exact d.1 g hg
    .cases h
def iy(s:BA):∀(n i:Nat) (l:List (Nat×Nat)) (j:Nat),jr s n i=.ok (l,j)->(∀c∈l.map Prod.fst,0<c)/\i+l.length<=s.size:=by
 intro n;induction n with
 |zero=>intro i l j h;cases h
 |succ n ih=>
  intro i l j h;unfold jr at h;split at h
  .rename_i hs;have h0:=xX hs;have h1:=zp h0;split at h
   .split at h
    .cases h
    .rename_i fs e hr;cases h;have a:=ih _ _ _ hr;refine⟨λg hg=>?_,by rw[au_];omega⟩;rw[a0_]at hg;rcases aq_.1 hg with rfl|hg
     .exact h0
     .exact a.1 g hg
   .cases h;exact⟨λg hg=>by simp only[a0_,bn_,a2_]at hg;subst hg;exact h0,by simp;omega⟩
  .cases h
def aF{s:BA}(h:yG s i=.ok (pb,j)):shB s.size pb:=by
 unfold yG at h;split at h
 .rename_i n;have:=zp (s:=s) (i:=i) M_;split at h
  .cases h
  .rename_i fs k hp;cases h;unfold yf at hp;split at hp
   .rename_i p;have:=zp (s:=s) (i:=i+1) M_;split at hp
    .cases hp;exact⟨λf hf=>by simp at hf,am_ _⟩
    .have:=lW s _ _ _ _ M_ hp;exact⟨this.1,M_⟩
   .cases hp
 .split at h
  .split at h
   .cases h
   .rename_i l o k hp;cases h;unfold xY at hp;split at hp
    .split at hp
     .cases hp
     .rename_i g q a;have d:=iy s _ _ _ _ a;have fin:l=g->shB s.size (.enum l o):=λe=>by subst e;exact⟨d.1,M_⟩
      split at hp
      .split at hp
       .split at hp
        .simp only[ae_,ad_]at hp;exact fin hp.1.1.symm
        .cases hp
       .cases hp
      .split at hp
       .simp only[ae_,ad_]at hp;exact fin hp.1.1.symm
       .cases hp
    .cases hp
  .split at h
   .split at h
    .rename_i hd;cases h;simp only[shB];omega
    .cases h
   .cases h
def ig(s:BA):∀(n i:Nat) (ds:List PD) (e:Nat),yi s n i=.ok (ds,e)->∀d∈ds,shB s.size d.body:=by
 intro n;induction n with
 |zero=>intro i ds e h d hd;simp only[yi,ae_,ad_]at h;rw[<- h.1]at hd;simp at hd
 |succ n ih=>
  intro i ds e h;unfold yi at h;split at h
  .split at h
   .split at h
    .cases h
    .rename_i pb j hp;split at h
     .split at h
      .cases h
      .rename_i ds' e' hr;cases h;intro d hd;rcases aq_.1 hd with rfl|hd
       .exact aF hp
       .exact ih _ _ _ hr d hd
     .cases h
   .cases h
  .cases h;intro d hd;simp at hd
def jL{s:BA}(h:ze s=.ok (ds,t)):(∀d∈ds,shB s.size d.body)/\shT t:=by
 unfold ze at h;split at h
 .cases h
 .rename_i ds' i hd;split at h
  .cases h
  .rename_i t' j a;split at h
   .cases h
   .cases h;exact⟨ig s _ _ _ _ hd,aa a⟩
def zx(ds:Ar)(c:Nat):Option PB:=(vh 0 c ds).map Prod.fst
def gh{a:Nat}(h:vh b c ds=some (pb,a)):∃d∈ds,d.body=pb:=by
 induction ds generalizing b with
 |nil=>cases h
 |cons x r ih=>
  simp only[vh]at h;split at h
  .simp only[af_,ad_]at h;exact⟨x,by simp,h.1⟩
  .obtain⟨d,hd,e⟩:=ih h;exact⟨d,by simp[hd],e⟩
def FB{a:Nat}(h:vh b c ds=some (pb,a)):∃o,a=b+o/\∀q x,(pb.ts a)[q]?=some x->(xI b ds)[o+q]?=some x:=by
 induction ds generalizing b with
 |nil=>cases h
 |cons x r ih=>
  simp only[vh]at h;split at h
  .cases h;refine⟨0,rfl,λq y hy=>?_⟩;rw[xI,be_,ar_ (ak_.1 hy).1];exact hy
  .obtain⟨o,e,a⟩:=ih h;refine⟨(x.body.ts b).length+o,M_,λq y hy=>?_⟩;rw[xI,aw_ M_,show(x.body.ts b).length+o+q-(x.body.ts b).length=o+q by omega];exact a q y hy
def oB(a:Nat)(m:Int):0<=zF (a:Int) m:=by
 unfold zF;split<;>omega
def wrU(env:Au)(us:As)(m:Int):Int:=us.foldl (λm u=>if (env u.1).isNone=true then zF (u.2:Int) m else m) m
def Xi{env:Au}{us:As}(h:wrU env us m<0):m<0/\∀u∈us,∃pb,env u.1=some pb:=by
 induction us generalizing m with
 |nil=>exact⟨h,λu hu=>by simp at hu⟩
 |cons u r ih=>
  simp only[wrU,List.foldl_cons]at h;obtain⟨h1,a⟩:=ih h;split at h1
  .have:=oB u.2 m;omega
  .rename_i hn;refine⟨h1,λv hv=>?_⟩;rcases aq_.1 hv with rfl|hv
   .cases he:env v.1 with
    |none=>rw[he]at hn;exact absurd rfl hn
    |some pb=>exact⟨pb,rfl⟩
   .exact a v hv
def Wv{env:Au}(hs:∀f∈fs,shT f.ty)(hu:∀u∈zX (fs.map PF.ty),∃pb,env u.1=some pb)(h:kW fs m<0):m<0/\∀f∈fs,okT env f.ty:=by
 induction fs generalizing m with
 |nil=>exact⟨h,λf hf=>by simp at hf⟩
 |cons f r ih=>
  simp only[kW,List.foldl_cons]at h;simp only[a0_,zX]at hu;obtain⟨h1,d⟩:=ih (λg hg=>hs g (by simp[hg])) (λu h=>hu u (b8_ _ h)) h;have a:=lF env f.ty m (hs f x6_) h1 (λu h=>hu u (b3_ _ h));refine⟨a.1,λg hg=>?_⟩;rcases aq_.1 hg with rfl|hg
  .exact a.2
  .exact d g hg
def Zj{env:Au}{N:Nat}(hs:∀d∈ds,shB N d.body)(hu:∀u∈jm ds,∃pb,env u.1=some pb)(h:qp ds m<0):m<0/\∀d∈ds,∀fs,d.body=.recd fs->∀f∈fs,okT env f.ty:=by
 induction ds generalizing m with
 |nil=>exact⟨h,λf hf=>by simp at hf⟩
 |cons d r ih=>
  simp only[qp,List.foldl_cons]at h;simp only[jm]at hu;obtain⟨h1,k⟩:=ih (λg hg=>hs g (by simp[hg])) (λu h=>hu u (b8_ _ h)) h;have q:=hs d x6_;cases hb:d.body with
  |recd fs=>
   rw[hb]at q h1 hu;have p:=Wv q.1 (λu h=>hu u (b3_ _ h)) h1;refine⟨p.1,λg hg e a=>?_⟩;rcases aq_.1 hg with rfl|hg
   .rw[hb]at a;cases a;exact p.2
   .exact k g hg e a
  |enum l o=>
   rw[hb]at h1;refine⟨h1,λg hg e a=>?_⟩;rcases aq_.1 hg with rfl|hg
   .rw[hb]at a;cases a
   .exact k g hg e a
  |bytes n=>
   rw[hb]at h1;refine⟨h1,λg hg e a=>?_⟩;rcases aq_.1 hg with rfl|hg
   .rw[hb]at a;cases a
   .exact k g hg e a
def uo{s:BA}{m0 m1:Int}(hs:s.size<=300)(hp:ze s=.ok (ds,t))(hw:wrU (zx ds) (jm ds++zZ t) m0<0)(hm:mix t (qp ds m1)<0):qW (zx ds)/\okT (zx ds) t/\(∀k,(xK (zx ds) k).length<=300)/\∀k f,f∈xK (zx ds) k->okT (zx ds) f.ty:=by
 obtain⟨h1,p⟩:=jL hp;obtain⟨_,g⟩:=Xi hw;have h:=lF (zx ds) t _ p hm (λu hu=>g u (b8_ _ hu));have r:=(Zj (env:=zx ds) h1 (λu hu=>g u (b3_ _ hu)) h.1).2;have body:∀c pb,zx ds c=some pb->shB s.size pb/\∀fs,pb=.recd fs->∀f∈fs,okT (zx ds) f.ty:=λc pb he=>by
  unfold zx at he;cases hl:vh 0 c ds with
  |none=>rw[hl]at he;cases he
  |some q=>
   obtain⟨z,v⟩:=q;rw[hl]at he;simp only[by_,af_]at he;subst he;obtain⟨d,hd,rfl⟩:=gh hl;exact⟨h1 d hd,λfs e=>r d hd fs e⟩
 have flds:∀k fs,xK (zx ds) k=fs->fs≠[]->zx ds (65+k)=some (.recd fs):=λk fs e a=>by
  unfold xK at e;split at e
  .rename_i y he;subst e;exact he
  .exact absurd e.symm a
 refine⟨λc pb he=>?_,h.2,λk=>?_,λk f hf=>?_⟩
 .obtain⟨b1,b2⟩:=body c pb he;cases pb with
  |recd fs=>exact b2 fs rfl
  |enum l o=>exact⟨b1.1,al_ b1.2 hs⟩
  |bytes n=>exact b1
 .by_cases a:xK (zx ds) k=[]
  .rw[a];exact am_ _
  .exact al_ (body _ _ (flds k _ rfl a)).1.2 hs
 .have a:xK (zx ds) k≠[]:=λe=>by rw[e]at hf;simp at hf
  exact(body _ _ (flds k _ rfl a)).2 _ rfl f hf
end Go.Proofs.YtokgeopihcopeaaGreatDoor
