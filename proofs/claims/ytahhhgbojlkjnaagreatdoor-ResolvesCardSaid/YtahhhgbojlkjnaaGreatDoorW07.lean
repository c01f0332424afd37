import Derived.Test.YtahhhgbojlkjnaaGreatDoorW06
set_option maxHeartbeats 16000000
set_option maxRecDepth 100000
set_option linter.defProp false
set_option linter.unusedSimpArgs false
open Go.Proofs.Tryz
namespace Go.Proofs.YtahhhgbojlkjnaaGreatDoor
open Go.RowKit
variable {pl bad:Ap}{w:Aw}{P:Au}{i f bl c n k:Nat}{xs:Az}
def Gj(s:BA)(env:Ay)(pl:Ap)(ts:Aq)(f:Nat)(pb:PB)(i:Nat):Prop:=
 ∀(w:World) (P:Nat->Prop) (bl bz:Nat) (so:Int) (fv:Value) (sb:BA) (o n:Int),DM w P bl s bz pl i false ts env w->wR w P ts pb so fv sb n->
  Calls prog 109 #[P_ bl,.agg #[.int .u8 so,fv,.string sb,Z_ o,Z_ n]] w (zD w bl s bz pl (yg (rdT s env pl f) s pb i))
def nw(w:Aw)(c:Nat)(fv:Ax)(sb:BA)(o n:Int):World:=
 ((w.alloc (.cells #[U_ c,fv,.string sb,Z_ o,Z_ n] 39)).alloc (.cells zf.toArray 32)).alloc (.cells (zq c 0 noB (L_) (L_)).toArray 32)
def JJ(w:Aw)(c:Nat)(fv:Ax)(sb:BA)(o n:Int):Blk (nw w c fv sb o n) w.heap.size [U_ c,fv,.string sb,Z_ o,Z_ n] 39:=((B_ w _ _).alloc _).alloc _
def JV(w:Aw)(c:Nat)(fv:Ax)(sb:BA)(o n:Int):Blk (nw w c fv sb o n) (w.heap.size+1) zf 32:=by
 have:=(B_ (w.alloc (.cells #[U_ c,fv,.string sb,Z_ o,Z_ n] 39)) zf.toArray 32).alloc (.cells (zq c 0 noB (L_) (L_)).toArray 32);simpa[nw] using this
def JX(w:Aw)(c:Nat)(fv:Ax)(sb:BA)(o n:Int):Blk (nw w c fv sb o n) (w.heap.size+2) (zq c 0 noB (L_) (L_)) 32:=by
 have:=B_ ((w.alloc (.cells #[U_ c,fv,.string sb,Z_ o,Z_ n] 39)).alloc (.cells zf.toArray 32)) (zq c 0 noB (L_) (L_)).toArray 32;simpa[nw] using this
def Ft{s:BA}{bz:Nat}{j:Nat}{ts:Aq}{env:Ay}(M:DM w P bl s bz pl j bad ts env w)(c:Nat)(fv:Ax)(sb:BA)(o n:Int):DM w P bl s bz pl j bad ts env (nw w c fv sb o n):=((M.alloc _).alloc _).alloc _
def JG{s:BA}{env:Ay}{ts:Aq}{m:Nat}:Gj s env pl ts f (.bytes m) i:=by
 intro w P bl bz so fv sb o n M l;obtain⟨⟨u,x,v,rfl⟩,Y,rfl,l⟩:=l;refine hq_ λa4 Q_=>?_;have a7:=M.lt;have a3:=M.jl;have O:=M.sl;have S:=zy (Ft M 102 (.slice u x v) sb o n);have B0:=zy (JJ w 102 (.slice u x v) sb o n);have B1:=zy (JV w 102 (.slice u x v) sb o n);have B2:=zy (JX w 102 (.slice u x v) sb o n);have a6:=zy (show(nw w 102 (.slice u x v) sb o n).heap.size=w.heap.size+3 by simp[nw]);replace M:=zy M;replace Y:=zy Y;replace l:=zy l;have hn:=l.o;subst hn;go_in;go_upto_if 94 with(first
  |(go_at_call 106;apply(kn t.o.L O t.o.jl).mono;intro e w2 X;obtain⟨tx,j2,rfl,I,q,hx,hK⟩:=X.any t;have B:=q.bl z M_;have E1:=q.bl A M_;have E2:=q.bl R M_;have p1:=E2.cell 2;have p2:=E2.th 2;have b:=I.put ⟨w.heap.size+1+1,2,none⟩ (.string tx) xs_;have d:=C_ E2 2 (.string tx);have g:=E_ E1 (a:=⟨w.heap.size+1+1,2,none⟩) (.string tx) yw_;have D:=E_ B (a:=⟨w.heap.size+1+1,2,none⟩) (.string tx) (by show ¬(w.heap.size=w.heap.size+1+1);omega);have p3:=d.cell 2;have p4:=D.cell 4;have a0:=b.L.c2;have a1:=b.L.th 2;simp only[zq,aa_,ab_,an_,ao_]at p1 p3 p4;revert I q B E1 E2 b;refine m_ λI q B E1 E2 b=>?_;revert d g D;refine h_ λd g D=>?_)
  |(go_at_call 103;apply(xX 39 S.o.L O a3 rfl D_).mono;rintro e w1 ⟨rfl,y⟩;obtain⟨j1,T,t,p,V⟩:=kF.any D_ S y;have z:=p.bl B0 M_;have A:=p.bl B1 M_;have R:=zy (p.bl B2 M_);revert t p z A;refine g_ λt p z A=>?_))
 go_cut [] (λW=>∃F,DM w P bl s bz pl j2 F ts env W/\Blk W (w.heap.size+1) zf 32/\Blk W (w.heap.size+2) (zq 102 0 tx (L_) (L_)) 32/\((F=T/\tx.size=m)\/(F=true/\tx.size≠m)));case first=>
  by_cases h:tx.size=m
  .have en:(((tx.size:Nat):Int) != (m:Int))=false:=x4_
   replace h:=zy h;go_wp2;go_meet;case rel=>exact⟨T,b,g,d,.inl ⟨rfl,h⟩⟩
  .have en:(((tx.size:Nat):Int) != (m:Int))=true:=x4_
   replace h:=zy h;go_wp2;go_meet;case rel=>exact⟨true,b.o.sp,E_ g _ ym_,E_ d _ yn_,.inr ⟨rfl,h⟩⟩
 case rest=>
  obtain⟨F,b,g,d,G⟩:=hcut;revert b g d G;refine g_ λb g d G=>?_;go_wp2_with (go_at_call 103;apply(xX 39 b.o.L O b.o.jl rfl D_).mono;rintro e w4 ⟨rfl,y⟩;obtain⟨j4,a5,E,C,a2⟩:=kF.any D_ b y;have r:=C.bl g M_;have H:=C.bl d M_;obtain⟨r0,r1,r2,r3,r4⟩:=r.f5;obtain⟨t0,t1,t2,t3,t4⟩:=H.f5;obtain⟨g0,g1,g2,g3,g4⟩:=r.t5;simp only[zf,zq,aa_,ab_,af_]at r0 r1 r2 r3 r4 t0 t1 t2 t3 t4;revert E C r H;refine g_ λE C r H=>?_);refine zi results109 r.o (λW5 U _=>?_);rw[Q_.o];obtain⟨Q,a8,Z⟩:=hK.o;rcases a2.o with⟨rfl,j,rfl,rfl⟩|⟨j,_,rfl⟩
  .rcases G.o with⟨hb,h⟩|⟨hb,_⟩
   .subst hb;rcases V.o with⟨_,h1,rfl,_⟩|⟨_,_,hb⟩
    .have J:=Z rfl;have K:j2-(i+1)=m:=by
      rw[<- h,Q,a3_];have:=b.o.jl;omega
     subst Q;refine fG (w.heap.size+1) M_ E (zF.bare _ _ 102 0 _) U ?_;unfold yg;simp only;rw[<- J,i_ ⟨h1,K,j⟩]
    .cases hb
   .cases hb
  .refine gU (w.heap.size+1) M_ E ⟨_,_,_,rfl⟩ ⟨_,_,_,rfl⟩ U ?_;unfold yg;simp only;refine n_ (λN=>?_);rcases V.o with⟨_,h1,rfl,rfl⟩|⟨h1,_,hb⟩
   .have J:=Z rfl;rw[<- J]at N;have K:tx.size=m:=by
     rw[Q,a3_];have:=b.o.jl;omega
    rcases G.o with⟨hb,_⟩|⟨_,hb⟩
    .rcases j with j|j
     .rw[j]at hb;cases hb
     .exact j N.2.2
    .exact hb K
   .rcases h1 with h1|h1
    .cases h1
    .exact h1 N.1
def ly{sb:BA}{l:Av}(h:sb.data.toList.map UInt8.toNat=l.map Prod.fst)(c:Nat):plc sb c=match (l.map Prod.fst).findIdx? (λx=>x==c) with|some k=>(k:Int)|none=>-1:=by
 rw[<- h,List.findIdx?_map];rfl
def KM{s:BA}{env:Ay}{ts:Aq}{l:Av}{b5:Ac}(J:∀c∈l.map Prod.fst,0<c)(d6:l.length<=300):Gj s env pl ts f (.enum l b5) i:=by
 intro w P bl bz so fv sb o n M y;obtain⟨⟨p,t,r,rfl⟩,Y,rfl,y⟩:=y;refine hq_ λb6 X=>?_;have d2:=M.lt;have a3:=M.jl;have a8:=M.sl;have V:=zy (Ft M 101 (.slice p t r) sb o n);have U:=zy (JJ w 101 (.slice p t r) sb o n);have B1:=zy (JV w 101 (.slice p t r) sb o n);have B2:=zy (JX w 101 (.slice p t r) sb o n);have d1:=zy (show(nw w 101 (.slice p t r) sb o n).heap.size=w.heap.size+3 by simp[nw]);replace M:=zy M;replace Y:=zy Y;replace y:=zy y;have a7:sb.size<=100000:=by
  have:=congrArg List.length y;rw[bm_,bm_]at this;have e:sb.size=sb.data.toList.length:=by rw[Array.length_toList];rfl
  omega
 obtain⟨c,hc⟩:=x_ (bt s i);have a4:=zy (show lk s i false=c by simp[lk,hc]);obtain⟨v,E⟩:=x_ (plc sb c);replace hc:=zy hc;replace E:=zy E;replace J:=zy J;go_in;go_wp2;change Code.wp _ _ _ _ (nw w 101 (.slice p t r) sb o n);generalize nw w 101 (.slice p t r) sb o n=W0 at *;have u2:=U.o.c2;refine tr_ 6 (λW=>z_ W w.heap.size 2 (.string sb)) ?_;refine tb_ 0 rfl K_ (λ_ _ _ h=>h) xq_ xi_ ?_;refine tb_ 1 rfl K_ (λ_ _ _ h=>h) xq_ xi_ ?_;refine tb_ 2 rfl K_ (λ_ _ _ h=>h) xq_ xi_ ?_;refine yz 3 rfl K_ (λ_=>u2) (λK C=>?_);go_simp;apply(xv (V.o.si (zw.drew W0)).L a8 a3).mono;rintro e w1 ⟨rfl,b4⟩;rw[a4.o];refine C _ _ ?_;have a1:zw W0 w1:=(zw.drew W0).trans b4;have H:=V.o.si a1;have B:=(A_ W0 (λg=>g=bl)).si a1;have F:=B.bl U M_;have G:=B.bl B1 M_;have A:=B.bl B2 M_;have D:=F.cell 2;have p1:=A.cell 1;have p2:=A.th 1;simp only[zq,aa_,ab_]at D p1;refine yz 4 rfl K_ (λ_=>D) (λK C=>?_);go_simp;apply(jm sb c w1 a7).mono;rintro e w' ⟨rfl,a0⟩;rw[E.o];refine C _ _ ?_;rw[a0];refine t1_ 5 D ?_;refine t1_ 6 D ?_;refine td_ ?_ _;have d:=H.put ⟨w.heap.size+1+1,1,none⟩ (Z_ v) xs_;have E2:=C_ A 1 (Z_ v);have E1:=E_ G (a:=⟨w.heap.size+1+1,1,none⟩) (Z_ v) yw_;have p3:=E2.cell 1;have b7:=d.L.c1;have b8:=d.L.c2;have b9:=d.L.th 1;have d0:=d.L.th 2;simp only[zq,aa_,ab_,an_,ao_]at p3;have z:=ly y c;have a2:=Fd sb c;rw[E.o]at z a2;replace H:=zy H;replace B:=zy B;replace F:=zy F;replace G:=zy G;replace A:=zy A;replace z:=zy z;by_cases a9:v<0
 .have m:=d.sp;have b:=E_ E1 (a:=⟨bl,2,none⟩) (.bool true) ym_;have j:=E_ E2 (a:=⟨bl,2,none⟩) (.bool true) yn_;obtain⟨r0,r1,N,O,Q⟩:=b.f5;obtain⟨R,S,T,t3,t4⟩:=j.f5;obtain⟨g0,g1,g2,g3,g4⟩:=b.t5;simp only[zf,zq,aa_,ab_,an_,ao_,af_]at r0 r1 N O Q R S T t3 t4;revert d E2 E1 m b j;refine m_ λd E2 E1 m b j=>?_;go_wp2;refine zi results109 b.o (λW5 I _=>?_);rw[X.o];refine gU (w.heap.size+1) M_ m ⟨_,_,_,rfl⟩ ⟨_,_,_,rfl⟩ I ?_;unfold yg;simp only;rw[hc.o];have h:=z.o;cases u:(l.map Prod.fst).findIdx? (λx=>x==c) with
  |none=>rw[ite_self]
  |some q=>rw[u]at h;simp only at h;omega
 .have d7:0<=v:=M_;have Z:i<s.size:=by
   refine zr (s:=s) (i:=i) ?_;rw[hc.o];have h:=z.o;cases u:(l.map Prod.fst).findIdx? (λx=>x==c) with
   |none=>rw[u]at h;simp only at h;omega
   |some q=>
    obtain⟨a5,a6,_⟩:=List.findIdx?_eq_some_iff_getElem.1 u;have:=J.o _ (a9_ a5);simp only[beq_iff_eq]at a6;omega
  have m:=d.inc Z;have b:=E_ E1 (a:=⟨bl,1,none⟩) (Z_ ((i:Int)+1)) ym_;have j:=E_ E2 (a:=⟨bl,1,none⟩) (Z_ ((i:Int)+1)) yn_;obtain⟨r0,r1,N,O,Q⟩:=b.f5;obtain⟨R,S,T,t3,t4⟩:=j.f5;obtain⟨g0,g1,g2,g3,g4⟩:=b.t5;simp only[zf,zq,aa_,ab_,an_,ao_,af_]at r0 r1 N O Q R S T t3 t4;revert d E2 E1 m b j;refine m_ λd E2 E1 m b j=>?_;go_wp2;refine zi results109 b.o (λW5 I _=>?_);rw[X.o];refine fG (w.heap.size+1) M_ m (zF.bare _ _ 101 v noB) I ?_;unfold yg;simp only;rw[i_ Z,hc.o];have h:=z.o;cases u:(l.map Prod.fst).findIdx? (λx=>x==c) with
  |none=>rw[u]at h;simp only at h;omega
  |some q=>rw[u]at h;simp only at h;rw[h]
def pX(ds:Ak):Option (List DT×Nat)->Option (List DT×Nat)
 |none=>none
 |some (l,e)=>some (ds++l,e)
def ZC(x:Ds):pX [] x=x:=by
 match x with
 |none=>rfl
 |some (r,j)=>rfl
def ph(R:Ag)(s:BA)(ds:Ak)(t:PT)(r:Af)(j:Nat):Option (List DT×Nat):=
 match R t j with
 |none=>none
 |some (d,e)=>pX (ds++[d]) (zH R s false r e)
def dz(R:Ag)(s:BA)(ds:Ak)(first:Ap)(t:PT)(r:Af)(j:Nat):pX ds (zH R s first (t::r) j)=if first=true then ph R s ds t r j else if bt s j=44 then ph R s ds t r (j+1) else none:=by
 conv=>lhs;rw[zH]
 unfold ph;split
 .cases R t j with
  |none=>rfl
  |some q=>
   obtain⟨d,e⟩:=q;simp only;cases zH R s false r e with
   |none=>rfl
   |some q=>simp[pX]
 .split
  .cases R t (j+1) with
   |none=>rfl
   |some q=>
    obtain⟨d,e⟩:=q;simp only;cases zH R s false r e with
    |none=>rfl
    |some q=>simp[pX]
  .rfl
def iw(s:BA):Option (List DT×Nat)->Option (DT×Nat)
 |none=>none
 |some (ds,j)=>if bt s j=41 then some (.mk 114 0 noB [] ds,j+1) else none
def nH(R:Ag)(s:BA)(fs:Am)(i:Nat):yg R s (.recd fs) i=iw s (if bt s i=40 then zH R s true (fs.map PF.ty) (i+1) else none):=by
 unfold yg iw;by_cases a:bt s i=40
 .simp only[i_ a];rfl
 .simp only[n_ a]
def BX(R_:Ds)(R:Ag)(fs:Am)(i:Nat)(w:Aw)(P:Au)(bl:Nat)(s:BA)(bz:Nat)(pl:Ap)(ts:Aq)(env:Ay)(fa:Ao)(fc:Nat)(sb:BA)(o n:Int)(mm:Nat)(iv:Ax)(W:Aw):Prop:=
 ∃q:Nat,iv=I_ q/\q<=fs.length/\fs.length+1-q<=mm/\Blk W w.heap.size [.int .u8 114,.slice fa fs.length fc,.string sb,Z_ o,Z_ n] 39/\∃sa m sc xs,
  ((∃ds j,LM w P bl s bz pl j false ts env (w.heap.size+1) (w.heap.size+2) (w.heap.size+3) 114 (L_) (.slice sa m sc) [] m xs W/\Dts W (w.heap.size+3) (L_) (.slice sa m sc) ds m xs/\ds.length=q/\i+1+q<=j/\R_=pX ds (zH R s (decide (q=0)) ((fs.map PF.ty).drop q) j))\/
   (∃j,LM w P bl s bz pl j true ts env (w.heap.size+1) (w.heap.size+2) (w.heap.size+3) 114 (L_) (.slice sa m sc) [] m xs W/\R_=none))
def BN(R_:Ds)(R:Ag)(s:BA)(ds:Ak)(t:PT)(r:Af)(j j':Nat)(bad':Ap):Prop:=
 (bad'=false/\j<=j'/\R_=ph R s ds t r j')\/(bad'=true/\R_=none)
def LM.itemKeep{W w5:Aw}{s:BA}{bz:Nat}{j:Nat}{ts:Aq}{env:Ay}{b0 b1 B:Nat}{vk vs:Ax}{ks:Aa}{o:Cj}{b t:Nat}{cs:Az}(Q:LM w P bl s bz pl j bad ts env b0 b1 B c vk vs ks n xs W)(hg:(W.alloc o).grownBy w5 vs.ownBlock)(hb:Blk W b cs t)(h1:b<B)(d:b≠b1)(a:Ax):Blk (w5.setCell ⟨b1,4,none⟩ a) b cs t:=by
 have h:Fr W w5 (λg=>vs.ownBlock=some g):=T_ ((A_ W _).alloc o) hg (λk e _=>e);exact E_ (h.bl hb (λe=>by have:=Q.vr.lt _ e;omega)) a d
def Xi{s:BA}{bz:Nat}{ts:Aq}{env:Ay}{fv:Ax}{sb:BA}{o n:Int}(M:DM w P bl s bz pl i bad ts env w):LM w P bl s bz pl i bad ts env (w.heap.size+1) (w.heap.size+2) (w.heap.size+3) 114 (L_) (L_) [] 0 [] (nw w 114 fv sb o n):=
 ⟨Ft M 114 fv sb o n,M_,by simp[nw],JV w 114 fv sb o n,JX w 114 fv sb o n,World.ownsRow_nil _ _ _ _,World.ownsRow_nil _ _ _ _,λg hg=>by simp[Value.ownBlock]at hg⟩
def KU{s:BA}{env:Ay}{ts:Aq}{fs:Am}(hR:∀g∈fs,∀j,i<j->j<=s.size->jv s env pl ts f g.ty j):Gj s env pl ts f (.recd fs) i:=by
 intro w P bl bz so fv sb o n M hN;obtain⟨⟨Z,fn,I,rfl⟩,a7,rfl,g9,hown,a8⟩:=hN;have e7:=bu hown;subst e7;obtain⟨z,J⟩:=e_ (if bt s i=40 then zH (rdT s env pl f) s true (fs.map PF.ty) (i+1) else none);have e1:yg (rdT s env pl f) s (.recd fs) i=iw s z:=by rw[J];exact nH _ _ _ _
 rw[e1];refine hq_ λf9 Q_=>?_;have h8:=M.lt;have f6:=M.jl;have b7:=M.sl;have U:=zy (Xi (fv:=.slice Z fs.length I) (sb:=sb) (o:=o) (n:=n) M);have B0:=zy (JJ w 114 (.slice Z fs.length I) sb o n);replace M:=zy M;replace a7:=zy a7;replace hown:=zy hown;replace a8:=zy a8;replace J:=zy J;replace hR:=zy hR;obtain⟨R,K⟩:=e_ (rdT s env pl f);replace K:=zy K;go_in;go_wp2_with (go_at_call 103;apply(xX 40 U.o.M.L b7 f6 rfl D_).mono;rintro e w1 ⟨rfl,u⟩;obtain⟨A,d0,a,B,v⟩:=kF.lm D_ U u;have r:=U.o.dts (Dts.nil _ _ _ _) B;have t:=zy (B.bl B0 M_);revert a B r;refine h_ λa B r=>?_);have a2:BX z R fs i w P bl s bz pl ts env Z I sb o n (fs.length+1) (O_) w1:=by
  refine⟨0,rfl,M_,M_,t,none,0,0,[],?_⟩;rcases v.o with⟨_,a3,rfl,rfl⟩|⟨a3,_,rfl⟩
  .refine .inl ⟨[],i+1,a,r,rfl,M_,?_⟩;rw[J.o,i_ a3,K.o,ZC];rfl
  .refine .inr ⟨A,a,?_⟩;rw[J.o,n_ (by simpa using a3)]
 replace a2:=zy a2;go_loopg [6] (fs.length+1) (λmm iv W=>BX z R fs i w P bl s bz pl ts env Z I sb o n mm iv W);case atStart=>exact a2
 case round=>
  obtain⟨q,rfl,hq,hm,X,sa,m,sc,xs,hG|hB⟩:=hrel
  .obtain⟨ds,j,Q,D,a6,h6,l⟩:=hG;have d7:=Q.M.jl;have c2:=Q.M.L.c2;have x1:=X.c1;have f7:m=q:=by have:=D.1;omega
   subst f7;replace X:=zy X;replace D:=zy D;replace a6:=zy a6;by_cases N:m<fs.length
   .have h9:(m:Int)<(fs.length:Int):=M_;obtain⟨g,hg⟩:∃g,fs[m]?=some g:=⟨_,ak_ N⟩;have a9:g∈fs:=al_ hg;obtain⟨num,b5,b4⟩:=a8.o m g hg;obtain⟨gf,cf,d6⟩:=zu hown M_;simp only[Value.slice.injEq,true_and]at d6;obtain⟨rfl,rfl⟩:=d6;obtain⟨rest,a1⟩:=e_ ((fs.map PF.ty).drop (m+1));have d2:(fs.map PF.ty).drop m=g.ty::rest:=by
     rw[a1,bc_ (by simpa using N)]
     congr 1
     rw[List.getElem_map]
     congr 1
     exact(am_.1 hg).2
    rw[d2,dz]at l;have i0:m<=4000:=M_;replace l:=zy l;replace a1:=zy a1;replace b5:=zy b5;replace b4:=zy b4;replace a9:=zy a9;replace Q:=zy Q;go_upto_if 32 with fail;go_cut [] (λW=>∃j' b9,LM w P bl s bz pl j' b9 ts env (w.heap.size+1) (w.heap.size+2) (w.heap.size+3) 114 (L_) (.slice sa m sc) [] m xs W/\Dts W (w.heap.size+3) (L_) (.slice sa m sc) ds m xs/\Blk W w.heap.size [.int .u8 114,S_ gf fs.length I,.string sb,Z_ o,Z_ n] 39/\BN z R s ds g.ty rest j j' b9);case first=>
     by_cases e0:m=0
     .subst e0;go_wp2;go_meet;case rel=>exact⟨j,false,Q,D,X,.inl ⟨rfl,l_,by rw[l.o];exact i_ D_⟩⟩
     .have h0:(0:Int)<(m:Int):=M_;go_wp2_with (go_at_call 103;apply(xX 44 Q.o.M.L b7 d7 rfl D_).mono;rintro e w2 ⟨rfl,u⟩;obtain⟨j2,d1,b,T,v⟩:=kF.lm D_ Q u;have x:=Q.o.dts D T;have X2:=zy (T.bl X M_);replace b:=zy b;replace x:=zy x);go_meet;case rel=>
       refine⟨j2,d1,b,x,X2,?_⟩;have hr:=l.o;rw[n_ (by simpa using e0)]at hr;rcases v.o with⟨_,a5,rfl,rfl⟩|⟨a5,_,rfl⟩
       .exact .inl ⟨rfl,M_,by rw[hr,i_ a5]⟩
       .exact .inr ⟨rfl,by rw[hr,n_ (by simpa using a5)]⟩
    case rest=>
     obtain⟨A,d0,a,r,t,o1⟩:=hcut;have f2:=a.M.jl;have g7:=a.M.L.c2;cases d0 with
     |true=>
      have p:z=none:=by
       rcases o1 with⟨h,_⟩|⟨_,h⟩
       .cases h
       .exact h
      replace a:=zy a;replace r:=zy r;replace t:=zy t;replace p:=zy p;go_wp2;go_roundg (fs.length+1-(m+1));case measure=>omega
      case rel=>exact⟨m+1,by simp,M_,l_,t,sa,m,sc,xs,.inr ⟨A,a,p⟩⟩
     |false=>
      have e4:j<=A/\z=ph R s ds g.ty rest A:=by
       rcases o1 with⟨_,h⟩|⟨h,_⟩
       .exact h
       .cases h
      obtain⟨h7,p⟩:=e4;have x1:=t.c1;have d9:=zk hown a.M.fr (λg hg e=>a.M.nP (e▸a7.o g hg));have e2:=ze d9 rfl b5;rw[a7_]at e2;obtain⟨ti,e8,e9,f0,f1⟩:=info_parts wC;have hC:=zy (hR.o g a9 A M_ f2 wc P bl bz num a.M.here b4);replace a:=zy a;replace r:=zy r;replace t:=zy t;replace p:=zy p;go_wp2_with (first
       |(go_at_call 70;apply hC.o.mono;intro e w3 hP;obtain⟨F,G,H,C,O,c1,E,S,c2,j3,g6,rfl,V,F3,v⟩:=zD.lm a hP;have D3:=a.o.dts r F3;have X3:=F3.bl t M_;have y:=V.alloc (.cells (zq F G H (.slice C O c1) (.slice E S c2)).toArray 32);have D4:=D3.alloc (.cells (zq F G H (.slice C O c1) (.slice E S c2)).toArray 32);have X4:=X3.alloc (.cells (zq F G H (.slice C O c1) (.slice E S c2)).toArray 32);have t4:=y.r1.cell 4;simp only[zq,aa_,ab_]at t4;have h3:=V.bB;revert V D3 X3 y D4 X4;refine m_ λV D3 X3 y D4 X4=>?_)
       |(at_builtin;go_must (refine wpList_append_own_at _ rfl _ _ 30 rfl (w.heap.size+3) 32 ti _ 5 80 wi e8 e9 f0 f1 rfl D_ (.slice sa m sc) m xs rfl ?hown _ 1 1 (zq F G H (.slice C O c1) (.slice E S c2)) rfl rfl (zL _ (zq F G H (.slice C O c1) (.slice E S c2)).toArray _ _ ?nn) ?one ?b1 ?b2 ?b3 ?_)
         case hown=>exact World.ownsRow.alloc y.o.vr _
         case nn=>simp
         case one=>simp[zq,Value.oneCell']
         case b1=>unfold maxLen;omega
         case b2=>omega
         case b3=>simp;omega
         intro v5 w5 b6 a0 f8 d8
         have I5:=y.o.item a0 b6 d8
         have Y:=y.o.itemKeep a0 X4 M_ M_ v5
         obtain⟨e5,f5⟩:=y.o.ie a0
         obtain⟨g5,g8,rfl⟩:=zu b6 M_
         replace I5:=zy I5
         replace Y:=zy Y))
      obtain⟨Q5,e3⟩:=I5.o;rcases v.o with⟨d,hr,rfl,e6⟩|⟨hr,rfl⟩
      .have h5:=qv s env pl f g.ty A d j3 hr;have D5:=e3 _ d D4 (e6.fr ((A_ w3 N_).alloc _) u_);go_roundg (fs.length+1-(m+1));case measure=>omega
       case rel=>
        refine⟨m+1,by simp,M_,l_,Y,_,m+1,_,_,.inl ⟨ds++[d],j3,Q5,D5,by rw[ah_,ap_,a6.o],M_,?_⟩⟩;rw[p.o,ph,K.o,hr,<- a1.o];rfl
      .go_roundg (fs.length+1-(m+1));case measure=>omega
       case rel=>
        refine⟨m+1,by simp,M_,l_,Y,_,m+1,_,_,.inr ⟨j3,Q5,?_⟩⟩;rw[p.o,ph,K.o,hr]
   .have h4:¬((m:Int)<(fs.length:Int)):=M_;have he:m=fs.length:=M_;have p:=zy (show z=some (ds,j) by rw[l,he,ci_ x8_];simp[zH,pX]);replace he:=zy he;replace Q:=zy Q;go_wp2_with (go_at_call 103;apply(xX 41 Q.o.M.L b7 d7 rfl D_).mono;rintro e w2 ⟨rfl,u⟩;obtain⟨j2,d1,b,T,v⟩:=kF.lm D_ Q u;have x:=Q.o.dts D T;obtain⟨r0,r1,r2,r3,r4⟩:=b.r0.f5;obtain⟨g0,g1,g2,g3,g4⟩:=b.r0.t5;obtain⟨t0,t1,t2,t3,t4⟩:=b.r1.f5;simp only[zf,zq,aa_,ab_,af_]at r0 r1 r2 r3 r4 t0 t1 t2 t3 t4;have R0:=zy b.r0;replace b:=zy b;replace x:=zy x);refine zi results109 R0.o (λW5 hF _=>?_);rw[Q_.o];rcases v.o with⟨_,a4,rfl,rfl⟩|⟨a4,_,rfl⟩
    .exact fG (w.heap.size+1) M_ b.o.M ((b.o.dval x 114).mono (λg _ hg=>⟨M_,M_⟩)) hF (by rw[p.o];exact i_ a4)
    .exact gU (w.heap.size+1) M_ b.o.M ⟨_,_,_,rfl⟩ ⟨_,_,_,rfl⟩ hF (by rw[p.o];exact n_ (by simpa using a4))
  .obtain⟨j,Q,l⟩:=hB;have c2:=Q.M.L.c2;have x1:=X.c1;obtain⟨r0,r1,r2,r3,r4⟩:=Q.r0.f5;obtain⟨g0,g1,g2,g3,g4⟩:=Q.r0.t5;obtain⟨t0,t1,t2,t3,t4⟩:=Q.r1.f5;simp only[zf,zq,aa_,ab_,af_]at r0 r1 r2 r3 r4 t0 t1 t2 t3 t4;have R0:=zy Q.r0;revert X Q l;refine h_ λX Q l=>?_;by_cases N:(q:Int)<(fs.length:Int);all_goals
    go_wp2;refine zi results109 R0.o (λW5 hF _=>?_);rw[Q_.o];exact gU (w.heap.size+1) M_ Q.o.M ⟨_,_,_,rfl⟩ ⟨_,_,_,rfl⟩ hF (by rw[l.o];rfl)
def ZAt.named{bz:Nat}{ts:Aq}{env:Ay}(h:ZAt w P bz ts env){q:Nat}(b:q<6){pb:PB}(hp:env (65+q)=some pb):∃(so:Int) (fv:Value) (sb:BA) (o n:Int),wR w P ts pb so fv sb n/\w.cell? ⟨bz,1+q*5,none⟩=some (.int .u8 so)/\w.cell? ⟨bz,1+q*5+1,none⟩=some fv/\w.cell? ⟨bz,1+q*5+2,none⟩=some (.string sb)/\w.cell? ⟨bz,1+q*5+3,none⟩=some (Z_ o)/\w.cell? ⟨bz,1+q*5+4,none⟩=some (Z_ n):=by
 obtain⟨tv,zs,a,_,c⟩:=h.z;obtain⟨so,fv,sb,o,n,c1,c2⟩:=c q b pb hp;have key:∀p,p<5->w.cell? ⟨bz,1+q*5+p,none⟩=[Value.int .u8 so,fv,Value.string sb,Value.int .i64 o,Value.int .i64 n][p]?:=λp hp=>by
  rw[a.cell,show 1+q*5+p=(5*q+p)+1 by omega,ab_];exact c1 p hp
 exact⟨so,fv,sb,o,n,c2,key 0 M_,key 1 M_,key 2 M_,key 3 M_,key 4 M_⟩
def qW(q c:Nat)(h:c=65+q)(a:q<6):IntKind.i64.wrap (IntKind.i64.wrap (c:Int)-65)=(q:Int):=by
 subst h
 match q,a with
 | 0,_=>rfl
 | 1,_=>rfl
 | 2,_=>rfl
 | 3,_=>rfl
 | 4,_=>rfl
 | 5,_=>rfl
def Qt{s:BA}{env:Ay}{ts:Aq}{p:Nat}{pb:PB}(hc:zZ c=true)(z:env c=some pb)(F:Gj s env pl ts f pb i):jv s env pl ts (f+1) (.leaf c p) i:=by
 intro w P bl bz k M hk;simp only[isT]at hk;have b7:65<=c/\c<=70:=yd_
 obtain⟨q,A⟩:∃q,c=65+q:=⟨c-65,M_⟩;have a0:q<6:=M_;obtain⟨g,m,b5,sv,z0,b9,z1,z2,ho,V⟩:=M.Z.type hk;simp only at z1;have a3:rdT s env pl (f+1) (.leaf c p) i=yg (rdT s env pl f) s pb i:=by
  simp only[rdT];unfold xr;rw[n_ M_,n_ M_,n_ M_,n_ M_,z]
 rw[a3];refine hq_ λa9 Q_=>?_;have d1:=M.lt;have d6:=zo z0;have d7:=zo z1;have c3:=M.L.c3;have c2:=M.L.c2;obtain⟨r,sn,t,rfl⟩:=zW ho;have M0:=zy (ix M c (.slice r sn t));have B0:=zy (cg w c (.slice r sn t));have O:=zy (dQ w c (.slice r sn t));have U:=zy (show(dw w c (.slice r sn t)).heap.size=w.heap.size+3 by simp[dw]);have d2:=λX Y Z=>zJ c2 X Y Z;have d0:(k:Int)<(m:Int):=M_;have n1:((c:Int)==110)=false:=x4_
 have n2:((c:Int)==116)=false:=x4_
 have n3:((c:Int)==105)=false:=x4_
 have n4:((c:Int)==108)=false:=x4_
 have n5:((c:Int)==115)=false:=x4_
 have n6:((c:Int)==91)=false:=x4_
 have n7:((c:Int)==123)=false:=x4_
 have n8:((c:Int)==40)=false:=x4_
 replace M:=zy M;replace ho:=zy ho;replace V:=zy V;replace hk:=zy hk;replace F:=zy F;replace z:=zy z;replace A:=zy A;go_in;go_wp2;change Code.wp _ _ _ _ (dw w c (.slice r sn t));generalize dw w c (.slice r sn t)=W0 at *;have b:=M0.o.si (zw.drew W0);obtain⟨so,fv,sb,o,n,y,G,H,I,J,N⟩:=b.Z.named a0 (by rw[<- A.o];exact z);obtain⟨C,E,D,rfl⟩:=y.1;have u3:=b.L.c3;have u0:=O.o.c0;have hwq:=qW q c A a0;have d8:(q:Int)<6:=M_;have hC:=zy (F.o _ P bl bz so (.slice C E D) sb o n b.here y);replace y:=zy y;refine tr_ 14 (λW=>(z_ W bl 3 (P_ bz)/\z_ W (w.heap.size+1) 0 (U_ c)/\z_ W bz (1+q*5) (.int .u8 so)/\z_ W bz (1+q*5+1) (.slice C E D)/\z_ W bz (1+q*5+2) (.string sb)/\z_ W bz (1+q*5+3) (Z_ o)/\z_ W bz (1+q*5+4) (Z_ n))) ?_;refine tb_ 0 rfl K_ (λ_ _ _ h=>h) xq_ x5_ ?_;refine tb_ 1 rfl K_ (λ_ _ _ h=>h) xq_ x5_ ?_;refine tb_ 2 rfl K_ (λ_ _ _ h=>h) xq_ x5_ ?_;refine tb_ 3 rfl K_ (λ_ _ _ h=>h) xq_ x5_ ?_;refine tb_ 4 rfl K_ (λ_ _ _ h=>h) xq_ x5_ ?_;refine tb_ 5 rfl K_ (λ_ _ _ h=>h) xq_ x5_ ?_;refine tb_ 6 rfl K_ (λ_ _ _ h=>h) xq_ x5_ ?_;refine tb_ 7 rfl K_ (λ_ _ _ h=>h) xq_ x5_ ?_;refine qz 8 (I_ q) rfl K_ (λ_ _ _ h=>h) xq_ ?y8 ?_;case y8=>(rintro W ⟨h1,h2,h3,h4,h5,h6,h7⟩;go_simp<;>first|rfl|exact hwq)
 refine tb_ 9 rfl K_ (λ_ _ _ h=>h) xq_ x5_ ?_;refine tb_ 10 rfl K_ (λ_ _ _ h=>h) xq_ x5_ ?_;refine tb_ 11 rfl K_ (λ_ _ _ h=>h) xq_ x5_ ?_;refine tb_ 12 rfl K_ (λ_ _ _ h=>h) xq_ x5_ ?_;refine yz 13 rfl K_ (λ_=>⟨u3,u0,G,H,I,J,N⟩) (λK T=>?_);go_simp;apply hC.o.mono;intro e j hP;obtain⟨dk,dm,b6,a1,m1,c1,a2,m2,c2,j2,b4,rfl,x,v,a5⟩:=zD.any b hP;refine T _ _ ?_;have u:=v.bl B0 M_;have Q:=v.bl O M_;obtain⟨r0,r1,r2,r3,r4⟩:=u.f5;obtain⟨g0,g1,g2,g3,g4⟩:=u.t5;simp only[zf,zq,aa_,ab_,af_]at r0 r1 r2 r3 r4;have a6:bz<W0.heap.size:=by rw[U.o];omega
 have a7:bz≠bl:=λe=>b.nP (e▸b.Z.zP);have l:∀B,j.cell? ⟨bz,B,none⟩=W0.cell? ⟨bz,B,none⟩:=λB=>World.cell?_of_block (a:=⟨bz,B,none⟩) (v.block bz a6 a7);have a4:=Q.c0;have S:(j.cell? ⟨bl,3,none⟩=some (P_ bz)/\j.cell? ⟨w.heap.size+1,0,none⟩=some (U_ c)/\j.cell? ⟨bz,1+q*5,none⟩=some (.int .u8 so)/\j.cell? ⟨bz,1+q*5+1,none⟩=some (.slice C E D)/\j.cell? ⟨bz,1+q*5+2,none⟩=some (.string sb)/\j.cell? ⟨bz,1+q*5+3,none⟩=some (Z_ o)/\j.cell? ⟨bz,1+q*5+4,none⟩=some (Z_ n)):=⟨x.L.c3,a4,(l _).trans G,(l _).trans H,(l _).trans I,(l _).trans J,(l _).trans N⟩;refine t1_ 14 S ?_;refine td_ ?_ _;replace b:=zy b;replace x:=zy x;replace v:=zy v;replace u:=zy u;go_wp2;refine zi results70 u.o (λW5 R _=>?_);rw[Q_.o];rcases a5.o with⟨d,hr,rfl,a8⟩|⟨hr,rfl⟩
 .exact vb x (a8.mono (λg _ hg=>by have:W0.drew.heap.size=W0.heap.size:=rfl;rw[this,U.o]at hg;omega)) R hr
 .exact jq x ⟨_,_,_,rfl⟩ ⟨_,_,_,rfl⟩ R hr
def Pw(s:BA)(env:Ay)(pl:Ap)(ts:Aq)(f:Nat)(l:Af)(i:Nat):Prop:=
 ∀t∈l,∀j,(pl=true->j=i)->(pl=false->i<j)->j<=s.size->jv s env pl ts f t j
def FB{s:BA}{env:Ay}{ts:Aq}(r:jr env)(q:∀f l i,l≠[]->i<=s.size->Pw s env pl ts f l i->Ph s env pl ts f l i):∀(f:Nat) (t:PT) (i:Nat),okT env t->i<=s.size->2*(s.size-i)+(if t.isAlts=true then 1 else 0)<f->jv s env pl ts f t i:=by
 intro f;induction f with
 |zero=>intro t i _ _ h;omega
 |succ f ih=>
  intro t i e v hm;have b:∀u j,okT env u->i<j->j<=s.size->t.isAlts=false->jv s env pl ts f u j:=λu j hu h1 a d=>ih u j hu a (by
   rw[d]at hm
   simp only[a2_,if_false]at hm
   split<;>omega)
  cases t with
  |leaf c p=>
   rcases e with hb|⟨hn,pb,m⟩
   .simp only[zY,av_,beq_iff_eq]at hb;rcases hb with(((rfl|rfl)|rfl)|rfl)|rfl
    .exact Bp
    .exact Bw
    .exact Bu
    .exact Bb
    .exact Bg
   .refine Qt hn m ?_;have hB:=r c pb m;cases pb with
    |recd fs=>exact KU (λg hg j h1 a=>b g.ty j (hB g hg) h1 a rfl)
    |enum l o=>exact KM hB.1 hB.2
    |bytes n=>exact JG
  |wrap c p u=>
   obtain⟨hc,hu⟩:=e;rcases hc with rfl|rfl
   .exact Zo (λj h1 a=>b u j hu h1 a rfl)
   .exact ar (λj h1 a=>b u j hu h1 a rfl)
  |alts p l=>
   obtain⟨hl,m⟩:=e;refine Qn hl (q f l i hl v (λu hu j h1 a d=>?_));obtain⟨b,e⟩:=xC m u hu;have m:i<=j:=by
    cases pl with
    |true=>have:=h1 rfl;omega
    |false=>have:=a rfl;omega
   refine ih u j e d ?_;rw[b];simp only[PT.isAlts,if_true]at hm;simp only[a2_,if_false];omega
def Vf{s:BA}{env:Ay}{ts:Aq}(a:jr env){t:PT}(d:okT env t):jv s env true ts (2*s.size+2) t 0:=by
 refine FB a (λf l i hl b a=>QZ hl (λt h=>a t h i (λ_=>rfl) (λh=>by cases h) b)) _ t 0 d o_ ?_;split<;>omega
def yD(env:Ay)(pl:Ap)(t:PT)(s:BA):Option DT:=
 match rdT s env pl (2*s.size+2) t 0 with
 |none=>none
 |some (d,j)=>if j=s.size then some d else none
def aG(w:Aw)(r:Cg)(e:Ah)(w':Aw):Prop:=
 ∃(k:Nat) (n:Int) (tx:BA) (a1:Option Addr) (m1 c1:Nat) (a2:Option Addr) (m2 c2:Nat),e=.returned (.tuple #[.agg #[U_ k,Z_ n,.string tx,.slice a1 m1 c1,.slice a2 m2 c2],.bool r.isSome])/\Fr w w' N_/\
  ∀d,r=some d->zF w' (λg=>w.heap.size<=g) d (zq k n tx (.slice a1 m1 c1) (.slice a2 m2 c2))
def lw(w:Aw)(s:BA)(bz:Nat)(pl:Ap):World:=
 (w.alloc (.cells zf.toArray 32)).alloc (.cells #[.string s,O_,.bool false,P_ bz,.bool pl] 165)
def BG{s:BA}{bz:Nat}{ts:Aq}{env:Ay}(Z:ZAt w P bz ts env)(hP:∀g,P g->g<w.heap.size)(hs:s.size<=4000):DM (lw w s bz pl) P (w.heap.size+1) s bz pl 0 false ts env (lw w s bz pl):=by
 refine⟨?_,Z.fr (((A_ w N_).alloc _).alloc _) u_,λh=>by have:=hP _ h;omega,λg hg=>by have:=hP g hg;simp[lw];omega,by simp[lw],A_ _ _,aj_ _,hs⟩;have:=B_ (w.alloc (.cells zf.toArray 32)) #[.string s,O_,.bool false,P_ bz,.bool pl] 165;have e:(w.alloc (.cells zf.toArray 32)).heap.size=w.heap.size+1:=x8_
 rw[e]at this;exact this
def Kn{s:BA}{bz:Nat}{ts:Aq}{env:Ay}{t:PT}(Z:ZAt w P bz ts env)(hP:∀g,P g->g<w.heap.size)(hs:s.size<=4000)(hk:isT ts k t)(U:jv s env pl ts (2*s.size+2) t 0):Calls prog 44 #[P_ bz,.string s,I_ k,.bool pl] w (aG w (yD env pl t s)):=by
 refine hq_ λa4 Q_=>?_;have M0:=zy (BG (s:=s) (pl:=pl) Z hP hs);have B0:=zy (show Blk (lw w s bz pl) w.heap.size zf 32 from(B_ w _ _).alloc _);have V:=zy (show(lw w s bz pl).heap.size=w.heap.size+2 by simp[lw]);have F0:=zy (show Fr w (lw w s bz pl) N_ from((A_ w _).alloc _).alloc _);revert Z hP hk U;refine g_ λZ hP hk U=>?_;go_in;go_wp2_with (go_at_call 70;apply(U.o _ P (w.heap.size+1) bz k M0 hk).mono;intro e r hQ;obtain⟨j,l,m,a,p,c1,b,q,c2,A,a0,rfl,T,E,a1⟩:=zD.any M0 hQ;have D0:=zy (E.bl B0 M_);replace T:=zy T;replace E:=zy E);change Code.wp _ _ _ _ (r.alloc (.cells #[U_ j,Z_ l,.string m,.slice a p c1,.slice b q c2] 32));have a3:=E.o.size;rw[V.o]at a3;have B:=T.o.alloc (.cells #[U_ j,Z_ l,.string m,.slice a p c1,.slice b q c2] 32);have C:=D0.o.alloc (.cells #[U_ j,Z_ l,.string m,.slice a p c1,.slice b q c2] 32);have M:=B_ r #[U_ j,Z_ l,.string m,.slice a p c1,.slice b q c2] 32;have K:Fr w (r.alloc (.cells #[U_ j,Z_ l,.string m,.slice a p c1,.slice b q c2] 32)) N_:=(F0.o.trans E (λx hx e=>M_)).alloc _;have S:Fr r (r.alloc (.cells #[U_ j,Z_ l,.string m,.slice a p c1,.slice b q c2] 32)) N_:=(A_ r _).alloc _;generalize r.alloc (.cells #[U_ j,Z_ l,.string m,.slice a p c1,.slice b q c2] 32)=W3 at *;generalize a5:r.heap.size=bx at *;have O:=B.L.c2;have N:=B.L.c1;obtain⟨F,G,H,I,J⟩:=M.f5;obtain⟨r0,r1,Y,r3,r4⟩:=C.f5;obtain⟨g0,g1,g2,g3,g4⟩:=C.t5;simp only[zf,zq,aa_,ab_,af_]at r0 r1 Y r3 r4 F G H I J;have D:∀W',Fr W3 W' (λg=>g=w.heap.size)->W'.cell? ⟨w.heap.size+1,2,none⟩=some (.bool a0)/\W'.cell? ⟨w.heap.size+1,1,none⟩=some (I_ A)/\W'.cell? ⟨bx,0,none⟩=some (U_ j)/\W'.cell? ⟨bx,1,none⟩=some (Z_ l)/\W'.cell? ⟨bx,2,none⟩=some (.string m)/\W'.cell? ⟨bx,3,none⟩=some (.slice a p c1)/\W'.cell? ⟨bx,4,none⟩=some (.slice b q c2):=λW' hf=>by
  have hL:=hf.bl B.L M_;have hX:=hf.bl M M_;exact⟨hL.cell 2,hL.cell 1,hX.cell 0,hX.cell 1,hX.cell 2,hX.cell 3,hX.cell 4⟩
 replace D:=D _ ((Fr.fi W3 w.heap.size (U_ j) (Z_ l) (.string m) (.slice a p c1) (.slice b q c2)).drew);replace B:=zy B;replace C:=zy C;replace M:=zy M;replace K:=zy K;replace S:=zy S;cases hb:a0 with
 |false=>
  subst hb;refine tr_ 16 (λW=>z_ W (w.heap.size+1) 2 (.bool false)/\z_ W (w.heap.size+1) 1 (I_ A)/\z_ W bx 0 (U_ j)/\z_ W bx 1 (Z_ l)/\z_ W bx 2 (.string m)/\z_ W bx 3 (.slice a p c1)/\z_ W bx 4 (.slice b q c2)) ?_;refine tz_ 0 ?_;refine tz_ 1 ?_;refine tz_ 2 ?_;refine tz_ 3 ?_;refine tz_ 4 ?_;refine tz_ 5 ?_;refine tz_ 6 ?_;refine tz_ 7 ?_;refine tz_ 8 ?_;refine tz_ 9 ?_;refine tz_ 10 ?_;refine tz_ 11 ?_;refine tz_ 12 ?_;refine tz_ 13 ?_;refine tz_ 14 ?_;refine t1_ 15 ⟨O,N,F,G,H,I,J⟩ ?_;refine t1_ 16 D ?_;refine td_ ?_ _;have u:=(Blk.fi C (U_ j) (Z_ l) (.string m) (.slice a p c1) (.slice b q c2)).drew;obtain⟨q0,q1,q2,q3,q4⟩:=u.d5;have Q:=zy ((Fr.fi W3 w.heap.size (U_ j) (Z_ l) (.string m) (.slice a p c1) (.slice b q c2)).drew);have y:Fr w _ N_:=K.o.trans Q (λx hx e=>M_);replace y:=zy y;replace u:=zy u;generalize (World.setCell (World.setCell (World.setCell (World.setCell (World.setCell W3 ⟨w.heap.size,0,none⟩ (U_ j)) ⟨w.heap.size,1,none⟩ (Z_ l)) ⟨w.heap.size,2,none⟩ (.string m)) ⟨w.heap.size,3,none⟩ (.slice a p c1)) ⟨w.heap.size,4,none⟩ (.slice b q c2)).drew=W5 at *;go_wp2;refine bodyPost_ret (v:=.tuple #[.agg #[U_ j,Z_ l,.string m,.slice a p c1,.slice b q c2],.bool ((A:Int)==(s.size:Int))]) yr_ rfl ?_;rw[Q_.o];rcases a1.o with⟨d,hr,_,a2⟩|⟨_,h⟩
  .have R:yD env pl t s=if A=s.size then some d else none:=by unfold yD;rw[hr]
   refine⟨j,l,m,a,p,c1,b,q,c2,?_,y,λd' z=>?_⟩
   .rw[R];by_cases X:A=s.size
    .rw[i_ X,X];simp
    .rw[n_ X,show(((A:Nat):Int)==((s.size:Nat):Int))=false by simp;omega];rfl
   .rw[R]at z;split at z
    .simp only[ae_]at z;subst z;exact(((a2.fr S u_).fr Q (λg hg e=>by rw[V.o]at hg;omega))).mono (λg _ hg=>by rw[V.o]at hg;omega)
    .cases z
  .cases h
 |true=>
  subst hb;refine tr_ 16 (λW=>z_ W (w.heap.size+1) 2 (.bool true)/\z_ W (w.heap.size+1) 1 (I_ A)/\z_ W bx 0 (U_ j)/\z_ W bx 1 (Z_ l)/\z_ W bx 2 (.string m)/\z_ W bx 3 (.slice a p c1)/\z_ W bx 4 (.slice b q c2)) ?_;refine tz_ 0 ?_;refine tz_ 1 ?_;refine tz_ 2 ?_;refine tz_ 3 ?_;refine tz_ 4 ?_;refine tz_ 5 ?_;refine tz_ 6 ?_;refine vZ 7 rfl K_ (λ_ _ _ h=>h) K_ ?_;refine vZ 8 rfl K_ (λ_ _ _ h=>h) K_ ?_;refine vZ 9 rfl K_ (λ_ _ _ h=>h) K_ ?_;refine vZ 10 rfl K_ (λ_ _ _ h=>h) K_ ?_;refine vZ 11 rfl K_ (λ_ _ _ h=>h) K_ ?_;refine vZ 12 rfl K_ (λ_ _ _ h=>h) K_ ?_;refine vZ 13 rfl K_ (λ_ _ _ h=>h) K_ ?_;refine tz_ 14 ?_;refine t1_ 15 ⟨O,N,F,G,H,I,J⟩ ?_;refine t1_ 16 D ?_;refine td_ ?_ _;have u:=(Blk.fi C (U_ j) (Z_ l) (.string m) (.slice a p c1) (.slice b q c2)).drew;obtain⟨q0,q1,q2,q3,q4⟩:=u.d5;have Q:=zy ((Fr.fi W3 w.heap.size (U_ j) (Z_ l) (.string m) (.slice a p c1) (.slice b q c2)).drew);have y:Fr w _ N_:=K.o.trans Q (λx hx e=>M_);replace y:=zy y;replace u:=zy u;generalize (World.setCell (World.setCell (World.setCell (World.setCell (World.setCell W3 ⟨w.heap.size,0,none⟩ (U_ j)) ⟨w.heap.size,1,none⟩ (Z_ l)) ⟨w.heap.size,2,none⟩ (.string m)) ⟨w.heap.size,3,none⟩ (.slice a p c1)) ⟨w.heap.size,4,none⟩ (.slice b q c2)).drew=W5 at *;go_wp2;refine bodyPost_ret (v:=.tuple #[.agg #[U_ j,Z_ l,.string m,.slice a p c1,.slice b q c2],.bool false]) yr_ rfl ?_;rw[Q_.o];rcases a1.o with⟨_,_,h,_⟩|⟨hr,_⟩
  .cases h
  .have R:yD env pl t s=none:=by unfold yD;rw[hr]
   rw[R];exact⟨j,l,m,a,p,c1,b,q,c2,rfl,y,λd' z=>by cases z⟩
def Fr.ke{w':Aw}(h:Fr w w' N_){a:Addr}{v:Ax}(hc:w.cell? a=some v):w'.cell? a=some v:=(World.cell?_of_block (h.block a.block (World.block_lt_of_cell? w a hc) id)).trans hc
def yA(env:Ay)(k:Nat):List PF:=match env (65+k) with|some (.recd fs)=>fs|_=>[]
def YY:Nat->Value->Prop
 | 5,v=>∃a,v=.int .u8 a
 | 6,v=>∃a,v=Z_ a
 | 7,v=>∃a,v=.string a
 | 8,v=>∃a m c,v=.slice a m c
 | 9,v=>∃a m c,v=.slice a m c
 | _,_=>False
def Wt(s:BA)(f:PF):BA:=match f.dflt with|none=>⟨#[]⟩|some (a,b)=>s.extract a b
def Wn(f:PF):Nat:=(f.dflt.map Prod.fst).getD 0
def Kz(s:BA)(ts:Aq)(fs:Am)(xs:Az):Prop:=
 ∀q f,fs[q]?=some f->(∃num:Nat,isT ts num f.ty/\xs[10*q+1]?=some (I_ num))/\xs[10*q]?=some (U_ f.letter)/\xs[10*q+2]?=some (.bool f.dflt.isSome)/\xs[10*q+3]?=some (Z_ (Wn f:Int))/\xs[10*q+4]?=some (.string (Wt s f))/\
  ∀p,5<=p->p<10->∃v,xs[10*q+p]?=some v/\YY p v
def rP(pb:Option PB)(so:Int)(sb:BA)(o n:Int):Prop:=
 match pb with
 |none=>so=0
 |some (.recd _)=>so=114
 |some (.enum l u)=>so=101/\sb.data.toList.map UInt8.toNat=l.map Prod.fst/\o=(match u with|none=>-1|some (c,_)=>plc sb c)
 |some (.bytes k)=>so=102/\n=(k:Int)
structure SZ(W:Aw)(P1 P2:Au)(bz:Nat)(s:BA)(ts:Aq)(env:Ay)(rt:Ax):Prop where
 dis:∀g,P2 g->¬P1 g
 zP:P1 bz
 z:∃tv zs,Blk W bz (tv::zs) 42/\(zs[30]?=some rt/\Apt zs)/\mN W P1 tv ts/\
  ∀k,k<6->∃(so:Int) (fv:Value) (sb:BA) (o n:Int) (xs:List Value),(∀p,p<5->zs[5*k+p]?=[Value.int .u8 so,fv,Value.string sb,Value.int .i64 o,Value.int .i64 n][p]?)/\
   W.ownsRow 0 60 10 fv (yA env k).length xs/\(∀g,fv.ownBlock=some g->P2 g)/\Kz s ts (yA env k) xs/\rP (env (65+k)) so sb o n
section
variable {W W':Aw} {P1 P2:Au} {bz:Nat} {s:BA} {ts:Aq} {env:Ay} {rt:Ax}
def SZ.fr{S:Au}(h:SZ W P1 P2 bz s ts env rt)(d:Fr W W' S)(h1:∀g,P1 g->¬S g)(l:∀g,P2 g->¬S g):SZ W' P1 P2 bz s ts env rt:=by
 refine⟨h.dis,h.zP,?_⟩;obtain⟨tv,zs,a,j,b,c⟩:=h.z;refine⟨tv,zs,d.bl a (h1 _ h.zP),j,b.fr d h1,λk hk=>?_⟩;obtain⟨so,fv,sb,o,n,xs,c1,c2,c3,c4,c5⟩:=c k hk;exact⟨so,fv,sb,o,n,xs,c1,zk c2 d (λg e=>l g (c3 g e)),c3,c4,c5⟩
def mN.mono{Q:Au}{tv:Ax}(h:mN W P tv ts)(d:∀g,P g->Q g):mN W Q tv ts:=by
 obtain⟨xs,a,b,c⟩:=h;refine⟨xs,a,λg e=>d g (b g e),λk t j=>?_⟩;obtain⟨sv,c1,c2,c3,c4⟩:=c k t j;exact⟨sv,c1,c2,c3,λg e=>d g (c4 g e)⟩
def SZ.toZ(h:SZ W P1 P2 bz s ts env rt):ZAt W (λg=>P1 g\/P2 g) bz ts env:=by
 refine⟨.inl h.zP,?_⟩;obtain⟨tv,zs,a,d,b,c⟩:=h.z;refine⟨tv,zs,a,b.mono (λg hg=>.inl hg),λk hk pb hp=>?_⟩;obtain⟨so,fv,sb,o,n,xs,c1,c2,c3,c4,c5⟩:=c k hk;refine⟨so,fv,sb,o,n,c1,zW c2,λg e=>.inr (c3 g e),?_⟩;rw[hp]at c5;cases pb with
 |recd fs=>
  have e:yA env k=fs:=by unfold yA;rw[hp]
  rw[e]at c2 c4;refine⟨c5,xs,c2,λq f p=>?_⟩;obtain⟨⟨num,d,j⟩,_⟩:=c4 q f p;exact⟨num,j,d⟩
 |enum l u=>exact⟨c5.1,c5.2.1⟩
 |bytes m=>exact c5
def SZ.apt(h:SZ W P1 P2 bz s ts env rt){b g l d:Nat}(hk:k<6)(j:b<6)(e:W.cell? ⟨bz,1+k*5+1,none⟩=some (S_ g n c))(e':W.cell? ⟨bz,1+b*5+1,none⟩=some (S_ g l d)):k=b:=by
 obtain⟨tv,zs,a,d,_⟩:=h.z;rw[a.cell,show ∀q,1+q*5+1=(5*q+1)+1 from λq=>M_,ab_]at e e';exact d.2 k b _ _ g hk j e e' rfl rfl
def Kh{e:As}{v:Ax}(h:W.ownsRow 0 e 10 v n xs)(g o:Nat)(x:Ax):∃ys,(W.setCell ⟨g,o,none⟩ x).ownsRow 0 e 10 v n ys/\ys.length=xs.length/\∀i,(i≠o->ys[i]?=xs[i]?)/\(i=o->ys[i]?=xs[i]?\/(i<xs.length/\ys[i]?=some x)):=by
 by_cases hg:v.ownBlock=some g
 .rcases h.2 with⟨rfl,_⟩|⟨g',d,j,rfl,hb,q,h1,l,m,p⟩
  .simp[Value.ownBlock]at hg
  .simp only[Value.ownBlock,ae_]at hg;subst hg;refine⟨xs.set o x,⟨by rw[List.length_set];exact h.1,.inr ⟨g',d,j.setIfInBounds o x,rfl,hb,?_,h1,l,by rw[Array.size_setIfInBounds];exact m,?_⟩⟩,List.length_set,λi=>⟨λa=>b0_ (Ne.symm a),λa=>?_⟩⟩
   .simp[World.setCell,Array.getElem?_modify,q]
   .rw[Array.toList_setIfInBounds,List.take_set,p]
   .subst a;by_cases hl:i<xs.length
    .exact .inr ⟨hl,by rw[List.getElem?_set_self hl]⟩
    .left;rw[bq_ (by rw[List.length_set];omega),bq_ M_]
 .refine⟨xs,zk h ((A_ W (λb=>b=g)).setCell ⟨g,o,none⟩ x (λ_=>rfl)) (λb hb e=>hg (e▸hb)),rfl,λi=>⟨λ_=>rfl,λ_=>.inl rfl⟩⟩
def Kz.set{fs:Am}{ys:Az}{q0 a:Nat}{x:Ax}(h:Kz s ts fs xs)(hp:5<=a/\a<10)(hx:YY a x)(h1:∀i,(i≠10*q0+a->ys[i]?=xs[i]?)/\(i=10*q0+a->ys[i]?=xs[i]?\/(i<xs.length/\ys[i]?=some x))):Kz s ts fs ys:=by
 intro q f r;obtain⟨⟨num,d,g⟩,b,j,l,m,o⟩:=h q f r;refine⟨⟨num,d,by rw[(h1 _).1 M_];exact g⟩,by rw[(h1 _).1 M_];exact b,by rw[(h1 _).1 M_];exact j,by rw[(h1 _).1 M_];exact l,by rw[(h1 _).1 M_];exact m,λp b d=>?_⟩;obtain⟨v,b1,b2⟩:=o p b d;by_cases he:10*q+p=10*q0+a
 .rcases(h1 _).2 he with e|⟨_,e⟩
  .exact⟨v,by rw[e];exact b1,b2⟩
  .have:p=a:=M_;subst this;exact⟨x,e,hx⟩
 .exact⟨v,by rw[(h1 _).1 he];exact b1,b2⟩
def SZ.store(h:SZ W P1 P2 bz s ts env rt){g q0 d:Nat}{x:Ax}(hg:P2 g)(hp:5<=d/\d<10)(hx:YY d x):SZ (W.setCell ⟨g,10*q0+d,none⟩ x) P1 P2 bz s ts env rt:=by
 refine⟨h.dis,h.zP,?_⟩;have j:Fr W (W.setCell ⟨g,10*q0+d,none⟩ x) (λb=>b=g):=(A_ W (λb=>b=g)).setCell ⟨g,10*q0+d,none⟩ x (λ_=>rfl);have hn:∀b,P1 b->¬b=g:=λb hb e=>h.dis g hg (e▸hb);obtain⟨tv,zs,a,l,b,c⟩:=h.z;refine⟨tv,zs,j.bl a (hn _ h.zP),l,b.fr j hn,λk hk=>?_⟩;obtain⟨so,fv,sb,o,n,xs,c1,c2,c3,c4,c5⟩:=c k hk;obtain⟨ys,j,_,l⟩:=Kh c2 g (10*q0+d) x;exact⟨so,fv,sb,o,n,ys,c1,j,c3,c4.set hp hx l,c5⟩
def SZ.fields(h:SZ W P1 P2 bz s ts env rt)(hk:k<6):∃j m,W.cell? ⟨bz,1+k*5+1,none⟩=some (.slice j (yA env k).length m)/\
 ∀q f,(yA env k)[q]?=some f->∃g num a b tx l F c1 e G c2,j=some ⟨g,0,none⟩/\P2 g/\isT ts num f.ty/\
  W.cell? ⟨g,q*10,none⟩=some (U_ f.letter)/\W.cell? ⟨g,q*10+1,none⟩=some (I_ num)/\W.cell? ⟨g,q*10+2,none⟩=some (.bool f.dflt.isSome)/\W.cell? ⟨g,q*10+3,none⟩=some (Z_ (Wn f:Int))/\W.cell? ⟨g,q*10+4,none⟩=some (.string (Wt s f))/\
  W.cell? ⟨g,q*10+5,none⟩=some (.int .u8 a)/\W.cell? ⟨g,q*10+6,none⟩=some (Z_ b)/\W.cell? ⟨g,q*10+7,none⟩=some (.string tx)/\W.cell? ⟨g,q*10+8,none⟩=some (.slice l F c1)/\W.cell? ⟨g,q*10+9,none⟩=some (.slice e G c2)/\∀o,W.frozen? ⟨g,o,none⟩=false:=by
 obtain⟨tv,zs,a,_,b,c⟩:=h.z;obtain⟨so,fv,sb,o,n,xs,c1,c2,c3,c4,c5⟩:=c k hk;obtain⟨j,m,rfl⟩:=zh c2;refine⟨j,m,?_,λq f v=>?_⟩
 .rw[a.cell,show 1+k*5+1=(5*k+1)+1 by omega,ab_];exact c1 1 M_
 .have j:0<(yA env k).length:=by have:=(am_.1 v).1;omega
  obtain⟨g,m,y⟩:=zu c2 j;simp only[Value.slice.injEq,true_and]at y;obtain⟨rfl,rfl⟩:=y;obtain⟨⟨num,l,e⟩,p,r,t,u,d⟩:=c4 q f v;obtain⟨_,A,⟨H,rfl⟩⟩:=d 5 M_ M_;obtain⟨_,B,⟨I,rfl⟩⟩:=d 6 M_ M_;obtain⟨_,C,⟨J,rfl⟩⟩:=d 7 M_ M_;obtain⟨_,D,⟨K,L,M,rfl⟩⟩:=d 8 M_ M_;obtain⟨_,E,⟨N,O,Q,rfl⟩⟩:=d 9 M_ M_;have cell:=λ{i:Nat} {x:Value} (hx:xs[i]?=some x)=>ze c2 rfl hx;rw[a7_]at p e r t u A B C D E;refine⟨g,num,H,I,J,K,L,M,N,O,Q,rfl,c3 g rfl,l,cell p,cell e,cell r,cell t,cell u,cell A,cell B,cell C,cell D,cell E,λo=>?_⟩;rcases c2.2 with⟨hn,_⟩|⟨g',d,d,e,_,d,_⟩
  .cases hn
  .cases e;simp[World.frozen?,d]
end
def dK(s:BA)(env:Ay)(fs:Am)(m:Int):Int:=
 fs.foldl (λm f=>match f.dflt with|none=>m|some (a,b)=>if (yD env true f.ty (s.extract a b)).isSome=true then m else zC (a:Int) m) m
def xm(s:BA)(env:Ay):Nat->Int
 | 0=>-1
 |k+1=>dK s env (yA env k) (xm s env k)
end Go.Proofs.YtahhhgbojlkjnaaGreatDoor
