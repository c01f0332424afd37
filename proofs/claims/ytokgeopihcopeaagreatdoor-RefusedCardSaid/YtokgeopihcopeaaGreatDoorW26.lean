import Derived.Test.YtokgeopihcopeaaGreatDoorW25
set_option linter.unusedVariables false
set_option maxHeartbeats 16000000
set_option maxRecDepth 100000
set_option linter.defProp false
set_option linter.unusedSimpArgs false
open Go.Proofs.Tryz
namespace Go.Proofs.YtokgeopihcopeaaGreatDoor
open Go.RowKit
variable {q k p m:Nat}{S J:Az}{v:Ax}{cs:Ay}{W' V':Aw}{s:BA}{t:PT}
section
variable {α ρ:Type} {P:TP α ρ} {kv:α->Value} {Q:α->Prop} {num:α->Nat} {N fb tb mb:Nat} {kf ff:Ax}
def Kq{W:Aw}{r:ρ}{rv:Ax}{T:List (Rw α)}{a:α}{uT:Av}{ux:Ax}(a3:(ID kv Q num N).OK)(O:P.OK (ID kv Q num N) ⟨fb,tb,mb,kf,ff⟩)(h:TbI P (ID kv Q num N) ⟨fb,tb,mb,kf,ff⟩ W r rv false T)(hG:Gd P.Cl T)(hq:P.QV W a [.iface uT ux])(hN:N<=1000000)(hK:∀V,Fr W V N_->Calls prog 89 #[P_ tb,.iface uT ux] V (ju P (ID kv Q num N) ⟨fb,tb,mb,kf,ff⟩ V r rv false T a))(a1:∀V r rv g T,TbI P (ID kv Q num N) ⟨fb,tb,mb,kf,ff⟩ V r rv g T->P.QV V a [.iface uT ux]->a∈T.map Rw.a->Calls prog 89 #[P_ tb,.iface uT ux] V (tZ P (ID kv Q num N) ⟨fb,tb,mb,kf,ff⟩ V r rv g T a))(hL:∀V r rv g T i x,TbI P (ID kv Q num N) ⟨fb,tb,mb,kf,ff⟩ V r rv g T->T[i]?=some x->Calls prog 150 #[P_ tb,Z_ ((i:Nat):Int)] V (cm P (ID kv Q num N) ⟨fb,tb,mb,kf,ff⟩ V r rv g T i)):Calls prog 158 #[P_ tb,.iface uT ux] W (cg P (ID kv Q num N) ⟨fb,tb,mb,kf,ff⟩ W r rv a):=by
 obtain⟨a6,Q_⟩:=y_ (cg P (ID kv Q num N) ⟨fb,tb,mb,kf,ff⟩ W r rv a);rw[<- Q_.o];obtain⟨w1,hw1⟩:=e_ (W.alloc (.cells #[O_,.nilIface] 85));have A1:Fr W w1 N_:=xy_
 have B1:Blk w1 W.heap.size [O_,.nilIface] 85:=ya_
 have Y:∀x,TSS P ⟨fb,tb,mb,kf,ff⟩ rv r x->fb<x/\x<W.heap.size:=λx e=>h.li O e;have a0:fb<tb/\tb<W.heap.size:=Y tb (.inl (.inl rfl));have few:H_ (∀V r rv g (T:List (Rw α)),TbI P (ID kv Q num N) ⟨fb,tb,mb,kf,ff⟩ V r rv g T->T.length<=N):=zy (λ_ _ _ _ _ h=>wL a3 h.t.nd (λx hx=>(h.t.q x hx).1));have start:H_ (∀U r' rv' g' T' (x:Rw α),x∈T'->x.a=a->TbI P (ID kv Q num N) ⟨fb,tb,mb,kf,ff⟩ U r' rv' g' T'->Stp w1 U (TSS P ⟨fb,tb,mb,kf,ff⟩ rv r) (TSS P ⟨fb,tb,mb,kf,ff⟩ rv' r')->Grw P.Cl T T' false g'->wa P (ID kv Q num N) ⟨fb,tb,mb,kf,ff⟩ W r rv a U r' rv' g' T'/\(g'=false->Gd P.Cl T')):=zy (λU r' rv' g' T' x c Z B E k5=>by
  have hb:=E.1.bl B1 (λe=>absurd (Y _ e).2 (a5_ _))
  refine⟨⟨B,(C_ A1 (λ_ h=>h)).trans E,a7_.2 ⟨x,c,Z⟩,hb,λe=>absurd (Y _ (E.2 _ B1.lt e)).2 (a5_ _)⟩,λe y hy=>?_⟩
  obtain⟨R,rfl,_,_,h3⟩:=k5
  rcases a4_.1 hy with hy|hy
  .exact(hG y hy).more O.mono R
  .exact h3 e y hy)
 have step:H_ (∀V r' rv' g' T' V2 G H z l i,wa P (ID kv Q num N) ⟨fb,tb,mb,kf,ff⟩ W r rv a V r' rv' g' T'->TbI P (ID kv Q num N) ⟨fb,tb,mb,kf,ff⟩ V2 G H z l->Stp V V2 (TSS P ⟨fb,tb,mb,kf,ff⟩ rv' r') (TSS P ⟨fb,tb,mb,kf,ff⟩ H G)->Lk P.Cl T' l g' z i->wa P (ID kv Q num N) ⟨fb,tb,mb,kf,ff⟩ W r rv a V2 G H z l):=zy (λV r' rv' g' T' V2 G H z l i c Z B E=>
  ⟨Z,c.s.trans B,E.mem c.a,B.1.bl c.b c.n,λe=>c.n (B.2 _ c.b.lt e)⟩)
 have flag:H_ (∀V r' rv' g' T' u,wa P (ID kv Q num N) ⟨fb,tb,mb,kf,ff⟩ W r rv a V r' rv' g' T'->wa P (ID kv Q num N) ⟨fb,tb,mb,kf,ff⟩ W r rv a (V.setCell ⟨tb,4,none⟩ (.bool u)) r' rv' u T'):=zy (λV r' rv' g' T' u c=>by
  have X:Fr V (V.setCell ⟨tb,4,none⟩ (.bool u)) (TbS tb mb rv'):=(X_ V ⟨tb,4,none⟩ (.bool u)).mono (λx _ e=>.inl e)
  have h3:=c.i.turn O (rv':=rv') ⟨X,λ_ _ h=>h⟩ (c.i.t.flag a3 u) (λy hy=>.inl hy)
  exact⟨h3.1,c.s.trans h3.2,c.a,X.bl c.b (λe=>c.n (.inl e)),c.n⟩)
 have fin:H_ (∀V r' rv' T' (y:Rw α) V1,wa P (ID kv Q num N) ⟨fb,tb,mb,kf,ff⟩ W r rv a V r' rv' false T'->Gd P.Cl T'->y∈T'->y.a=a->∀V',TbI P (ID kv Q num N) ⟨fb,tb,mb,kf,ff⟩ V' r' rv' false T'->Stp V V' (TSS P ⟨fb,tb,mb,kf,ff⟩ rv' r') (TSS P ⟨fb,tb,mb,kf,ff⟩ rv' r')->V1=(V'.setCell ⟨W.heap.size,0,none⟩ (I_ y.n)).setCell ⟨W.heap.size,1,none⟩ y.d->a6 (.returned (.agg #[I_ y.n,y.d])) V1):=zy (λV r' rv' T' y V1 c Z B E V' k5 k6 k7=>by
  rw[Q_.o,k7]
  have X:=J_ V' W.heap.size 0 1 (I_ y.n) y.d
  have hb:=k6.1.bl c.b c.n
  exact⟨r',rv',T',y,rfl,B,E,k5.put O yr_ hb X,⟨(c.s.trans k6).1.trans X (λy hy e=>M_),(c.s.trans k6).2⟩,Z⟩)
 have qv:H_ (∀V r' rv' g' T',wa P (ID kv Q num N) ⟨fb,tb,mb,kf,ff⟩ W r rv a V r' rv' g' T'->P.QV V a [.iface uT ux]):=zy (λV r' rv' g' T' k=>O.qv _ _ _ _ _ hq k.s.1 (λx hx=>(Y x hx).1));have a8:=zy (hK w1 A1);replace a1:=zy a1;replace hL:=zy hL;replace hw1:=zy hw1;go_in;go_upto_region 1 with fail;rw[<- hw1.o];go_wp2_with (go_at_call 89;apply a8.o.mono;rintro e U ⟨G,H,z,l,x2,rfl,x3,x4,h2,s2,G2⟩;obtain⟨S2,H2⟩:=start.o U G H z l x2 x3 x4 h2 s2 G2;replace S2:=zy S2;replace H2:=zy H2);go_loopg [] (phi N l+1) (λm V=>∃r' rv' g' T',H_ (wa P (ID kv Q num N) ⟨fb,tb,mb,kf,ff⟩ W r rv a V r' rv' g' T')/\H_ (g'=false->Gd P.Cl T')/\(g'=true->phi N T'<m));case atStart=>exact⟨G,H,z,l,S2,H2,λ_=>M_⟩
 case round=>
  obtain⟨r3,b4,g3,w,f,H3,a2⟩:=hrel;have c4:=f.o.i.t.b.c4;have t4:=f.o.i.t.b.th 4;cases g3
  .have a5:=zy (H3.o rfl);go_wp2_with (go_at_call 89;apply(a1.o _ _ _ _ _ f.o.i (qv.o _ _ _ _ _ f) f.o.a).mono;rintro e w5 ⟨y,rfl,y1,y2,h5,s5⟩;have K:=s5.1.bl f.o.b f.o.n;have q0:=K.c0;have q1:=K.c1;have z0:=K.th 0;have z1:=K.th 1;have s1:=λW a m=>run_store prog W a y.d m ((h5.t.q y y1).2.2.2).one;have B8:Blk ((w5.setCell ⟨W.heap.size,0,none⟩ (I_ y.n)).setCell ⟨W.heap.size,1,none⟩ y.d) W.heap.size [I_ y.n,y.d] 85:=(K.set 0 _).set 1 _;have x0:=B8.c0;have x1:=B8.c1;have a7:=zy (λV1=>fin.o _ r3 b4 w y V1 f a5 y1 y2 w5 h5 s5);generalize y.n=yn at *;generalize y.d=yd at *);refine bodyPost_ret (v:=.agg #[I_ yn,yd]) (by simp[results,results158,go_sem,x0,x1]) rfl ?_;exact a7.o _ rfl
  .have hm:=a2 rfl;have S4:=zy (flag.o _ _ _ _ _ false f);obtain⟨ra,rc,rfl⟩:=zw f.o.i.t.row;have c2:=S4.o.i.t.b.c2;have b5:=few.o _ _ _ _ _ S4.o.i;have a4:H_ (SIn P.Cl N w.length 0 (phi N w) false w):=zy ⟨l_,l_,λe=>yj_,λ_ i x hx hi=>by
    have:=(ak_.1 hx).1
    omega⟩
   generalize hM:w.length=M at *;replace hM:=zy hM;go_wp2;go_loopg [21] (M+1) (λm v V=>∃j:Nat,∃r' rv' g' T',v=I_ j/\j<=M/\M+1-j<=m/\H_ (wa P (ID kv Q num N) ⟨fb,tb,mb,kf,ff⟩ W r rv a V r' rv' g' T')/\H_ (SIn P.Cl N M j (phi N w) g' T'));case atStart=>exact⟨0,_,_,_,_,rfl,am_ _,M_,S4,a4⟩
   case round=>
    obtain⟨j,r5,b7,g5,T5,rfl,hj,b6,S5,I5⟩:=hrel;by_cases a0:j<M
    .have a9:(j:Int)<(M:Int):=M_;obtain⟨x,hx⟩:∃x,T5[j]?=some x:=⟨_,aj_ (bl_ a0 I5.o.1)⟩;replace hx:=zy hx;go_wp2_with (go_at_call 150;apply(hL.o _ _ _ _ _ j x S5.o.i hx).mono;rintro e w6 ⟨r6,b8,g6,T6,rfl,h6,s6,l6⟩;have S6:=zy (step.o _ _ _ _ _ _ _ _ _ _ _ S5 h6 s6 l6);have I6:=zy (I5.o.step O.mono l6 (few.o _ _ _ _ _ h6) (λy hy=>(S5.o.i.t.q y hy).2.2.1) (λy hy=>(h6.t.q y hy).2.2.1)));go_roundg (M+1-(j+1));case measure=>omega
     case rel=>exact⟨j+1,_,_,_,_,by simp,a0,l_,S6,I6⟩
    .have a9:¬((j:Int)<(M:Int)):=M_;obtain rfl:j=M:=M_;have nx:H_ (g5=false->Gd P.Cl T5):=zy (λe y hy=>by
      obtain⟨i,hi⟩:=bw_ hy
      exact I5.o.2.2.2 e i y hi M_)
     have K:=I5.o.2.2.1;go_wp2;go_roundg (phi N w);case measure=>exact hm
     case rel=>exact⟨_,_,_,_,S5,nx,K⟩
end
inductive Qu where
 |ty (t:PT)
 |bd (p:Nat) (X:PB)
abbrev By:=Value×List (Rw Qu)
abbrev Dr:=List (Rw Qu)
structure FD where
 fb:Nat
 tb:Nat
 mb:Nat
 tu:Nat
 mu:Nat
 P:Nat->Prop
 P':Nat->Prop
 s:BA
 s':BA
 ds:List PD
 ds':List PD
 sv:Value
 sv':Value
 sT:TypeId
 rT:TypeId
 sx:Value
 rx:Value
 xs:List Value
 xs':List Value
 w0:World
structure FD.OK(F:FD):Prop where
 hs:F.s.size<=300
 hs':F.s'.size<=300
 g:vj F.ds
 g':vj F.ds'
 e:qW (zx F.ds)
 e':qW (zx F.ds')
 n:∀c X,zx F.ds c=some X->zY c=true
 pP:∀x,F.P x->x<F.fb
 pP':∀x,F.P' x->x<F.fb
 pw:F.w0.heap.size<=F.fb
 mm:F.mb≠F.mu
structure FX(F:FD)(W:Aw):Prop where
 b:Blk W F.fb [F.sv,.iface F.sT F.sx,F.sv',.iface F.rT F.rx,P_ F.tb,P_ F.tu] 89
 D:yR W F.P F.s F.ds F.sv F.xs
 E:yR W F.P' F.s' F.ds' F.sv' F.xs'
 G:yu F.w0 W
def FX.fr{F:FD}(c:F.OK){W:Aw}(h:FX F W)(hf:Fr W W' S)(a:∀x,S x->F.fb<x):FX F W':=by
 have hw:=c.pw;have hb:=h.b.lt;exact⟨hf.bl h.b (λe=>absurd (a _ e) (a5_ _)),h.D.fr hf (λx hx e=>o2_ (a x e) (c.pP x hx)),h.E.fr hf (λx hx e=>o2_ (a x e) (c.pP' x hx)),h.G.fr hf M_ (λx e=>o1_ (a x e))⟩
def bo:Qu->Nat
 | .ty t=>t.place
 | .bd p _=>p
def okQ(F:FD):Qu->Prop
 | .ty t=>wK F.s t/\okT (zx F.ds) t/\vq t
 | .bd p X=>pB F.s p X/\∃c,zx F.ds c=some X
def dI(F:FD):TI Qu:=ID (λq=>Z_ (bo q:Int)) (okQ F) bo 300
def Ux:Value->Option Value
 | .iface _ (.agg cs)=>cs[0]?
 | _=>none
def qvD(F:FD)(W:Aw):Qu->List Value->Prop
 | .ty t,v=>∃u,v=[u]/\TyV W F.P t u
 | .bd p X,v=>∃u,v=[u]/\yV W F.P F.s X u/\Ux u=some (Z_ (p:Int))
def QT(F:FD):Qu->PT->Prop
 | .ty t,u=>u=t
 | .bd _ X,u=>∃c p,u=.leaf c p/\zi c=false/\zx F.ds c=some X
def svD(F:FD)(W:Aw)(J:Az)(D:Dg)(A:Ev)(n:Nat)(d:Ax):Prop:=
 (n=0\/n=301->d=.nilIface)/\(n≠0->∃x,(D x/\Sh x)/\nd3 x=n/\(n<=300->∀u,A u->DaV (zx F.ds) W J x u d))
def QD(F:FD)(q:Qu)(x:DT):Prop:=∀u,QT F q u->Dat (zx F.ds) x u
def fV{α:Type}(T:List (Rw α))(a:α)(k:Nat):Prop:=∃r∈T,r.a=a/\r.n=k
def ClD(F:FD)(T:Dr):Qu->Nat->Prop
 | .ty (.leaf c _),v=>if zi c=true then v=1 else ∃p X,zx F.ds c=some X/\fV T (.bd p X) v
 | .ty (.wrap _ _ _),v=>v=1
 | .ty (.alts _ l),v=>∀t∈l,∃k,fV T (.ty t) k/\le0 v (jnN [k])
 | .bd _ (.recd fs),v=>∃ks:List Nat,ks.length=fs.length/\(∀(q:Nat) (f:PF) (k:Nat),fs[q]?=some f->ks[q]?=some k->fV T (.ty f.ty) k)/\v=jnN ks
 | .bd _ _,v=>v=1
def dT(F:FD):TP Qu Unit:=⟨λW _=>FX F W,λ_ _=>False,λW J a n d=>svD F W J (QD F a) (QT F a) n d,λW a v=>qvD F W a v/\okQ F a,ClD F⟩
def dL(F:FD):TL:=⟨F.fb,F.tb,F.mb,.func (.methodOf 46 "Place") #[] #[],.func (.func 50) #[P_ F.fb] #[]⟩
def fV.more{α:Type}{T:List (Rw α)}{a:α}(h:fV T a k)(R:List (Rw α)):fV (T++R) a k:=by
 obtain⟨r,h1,b,c⟩:=h;exact⟨r,b3_ _ h1,b,c⟩
def WE(F:FD):Qi (ClD F):=by
 intro T R a v h;cases a with
 |ty t=>
  cases t with
  |leaf c p=>
   simp only[ClD]at *;split
   .rename_i hc;rw[i_ hc]at h;exact h
   .rename_i hc;rw[n_ hc]at h;obtain⟨p,X,h1,b⟩:=h;exact⟨p,X,h1,b.more R⟩
  |wrap c p t=>exact h
  |alts p l=>
   intro t u;obtain⟨k,h1,b⟩:=h t u;exact⟨k,h1.more R,b⟩
 |bd p X=>
  cases X with
  |recd fs=>
   obtain⟨ks,h1,b,j⟩:=h;exact⟨ks,h1,λq f k e e'=>(b q f k e e').more R,j⟩
  |enum l o=>exact h
  |bytes n=>exact h
def DaV.ot{env:Au}{W:Aw}{d:DT}{T:Nat}(h:DaV env W J d t v)(hb:Blk W q cs T)(h1:T≠52)(b:T≠201)(hf:Fr W W' (λx=>x=q)):DaV env W' J d t v:=by
 have no:∀{e k n lv ys},W.ownsRow 0 e k lv n ys->T≠e->∀g,lv.ownBlock=some g->¬g=q:=λ{e k n lv ys} ho hT g hg eq=>by
  subst eq;rcases ho.2 with⟨e',_⟩|⟨g',c,c,e',_,a,_⟩
  .subst e';simp[Value.ownBlock]at hg
  .subst e';simp only[Value.ownBlock,af_]at hg;subst hg;unfold Blk at hb;rw[hb]at a;simp only[af_,Obj.cells.injEq]at a;exact hT a.2.1
 induction h with
 |flat h hs=>exact .flat h hs
 |branch n h hd ih=>exact .branch n h ih
 |row Y hc ho hP hd ih=>exact .row Y hc (zj ho hf (no ho h1)) hP ih
 |map Y hl hk ho hP hd ih=>exact .map Y hl hk (zj ho hf (no ho b)) hP ih
def svD.stp{F:FD}{W:Aw}{S':Az}{D:Dg}{A:Ev}{n:Nat}{d:Ax}(h:svD F W (λx=>¬S x) D A n d)(hs:Stp W W' S S'):svD F W' (λx=>¬S' x) D A n d:=by
 refine⟨h.1,λe=>?_⟩;obtain⟨x,h1,a,b⟩:=h.2 e;refine⟨x,h1,a,λe' u hu=>?_⟩;have c:DaV (zx F.ds) W (λx=>¬S x/\x<W.heap.size) x u d:=(b e' u hu).mono (λg h1 a=>⟨a,h1⟩);exact(c.fr hs.1 (λg hg=>hg.1)).mono (λg _ hg e=>hg.1 (hs.2 g hg.2 e))
def svD.put{F:FD}{W:Aw}{D:Dg}{A:Ev}{n T:Nat}{d:Ax}(h:svD F W J D A n d)(hb:Blk W q cs T)(h1:T≠52)(a:T≠201)(hf:Fr W W' (λx=>x=q)):svD F W' J D A n d:=by
 refine⟨h.1,λe=>?_⟩;obtain⟨x,b,c,f⟩:=h.2 e;exact⟨x,b,c,λe' u hu=>(f e' u hu).ot hb h1 a hf⟩
def qvD.fr{F:FD}(b:F.OK){W:Aw}{a:Qu}{v:Ay}(h:qvD F W a v)(hf:Fr W W' S)(c:∀x,S x->F.fb<x):qvD F W' a v:=by
 have hP:∀x,F.P x->¬S x:=λx hx e=>by have:=c x e;have:=b.pP x hx;omega
 cases a with
 |ty t=>
  obtain⟨u,rfl,h⟩:=h;exact⟨u,rfl,h.fr hf hP⟩
 |bd p X=>
  obtain⟨u,rfl,h,hp⟩:=h;exact⟨u,rfl,h.fr hf hP,hp⟩
def lQ(h:wK s t):t.place<s.size:=by
 obtain⟨j,h⟩:=h;by_cases hi:t.place<=s.size
 .have:=(xV hi).1 _ _ h;omega
 .rw[wY]at h;unfold vR at h;rw[wh M_]at h;simp[zi,zY]at h
def KU{X:PB}(h:pB s p X):p<s.size:=by
 obtain⟨j,h⟩:=h;unfold yG at h;by_cases hi:p<s.size
 .exact hi
 .rw[wh M_]at h;simp at h
def oN{F:FD}(f:F.OK):(dI F).OK where
 tt:=by show 213≠297;decide
 keyed:=Maps.int_keyed qV
 key:=λa ha=>⟨_,Maps.keyOf_int_mk qV (WalkArith.wf_i64 (by
  have:bo a<300:=by
   cases a with
   |ty t=>have:=lQ ha.1;have:=f.hs;show t.place<300;omega
   |bd p X=>have:=KU ha.1;have:=f.hs;show p<300;omega
  omega))⟩
 kinj:=λa b ha hb e=>by
  have e':bo a=bo b:=by
   have:Value.int .i64 (bo a:Int)=.int .i64 (bo b:Int):=e;simp only[Value.int.injEq,true_and]at this;omega
  exact dInj ha hb e'
 lt:=λa ha=>by
  cases a with
  |ty t=>have:=lQ ha.1;have:=f.hs;show t.place<300;omega
  |bd p X=>have:=KU ha.1;have:=f.hs;show p<300;omega
 inj:=λa b ha hb e=>dInj ha hb e
 where
 dInj:∀{a b:Qu},okQ F a->okQ F b->bo a=bo b->a=b:=by
  intro a b ha hb e;cases a with
  |ty t=>
   cases b with
   |ty t'=>
    obtain⟨j,h1⟩:=ha.1;obtain⟨j',c⟩:=hb.1;have e':t.place=t'.place:=e;rw[e',c]at h1;cases h1;rfl
   |bd p X=>
    obtain⟨j,c⟩:=hb.1;have e':t.place=p:=e;subst e';exact(rU ha.1 c).elim
  |bd p X=>
   cases b with
   |ty t'=>
    obtain⟨j,c⟩:=ha.1;have e':p=t'.place:=e;subst e';exact(rU hb.1 c).elim
   |bd p' X'=>
    obtain⟨j,h1⟩:=ha.1;obtain⟨j',c⟩:=hb.1;have e':p=p':=e;subst e';rw[h1]at c;cases c;rfl
def fG{F:FD}(b:F.OK):(dT F).OK (dI F) (dL F) where
 rs:=λW r x _ h=>h.elim
 rfr:=λW W' r rv g T h c hf=>h.fr b hf (λx hx=>(c.li hx).1)
 rnew:=λW W' r h hf=>h.fr b hf (λ_ f=>f.elim)
 sv:=λW W' S S' a n d h hs=>svD.stp h hs
 qv:=λW W' S a v h hf c=>⟨qvD.fr b h.1 hf c,h.2⟩
 mono:=WE F
 z:=λW J a=>⟨λ_=>rfl,λe=>absurd rfl e⟩
 put:=λW W' r q cs c h _ hf=>h.fr b hf (λx e=>e▸c)
 svp:=λW W' J a n d q cs h hb hf=>svD.put h hb D_ D_ hf
 tt:=⟨by show 213≠_;decide,by show 297≠_;decide⟩
def rP{W:Aw}{P:Az}{X:PB}(h:yV W P s X v):∃p T x,v=.iface T x/\pB s p X/\Ux v=some (I_ p)/\∀W,(method 553 T x "Place").run prog W=.ok (72,I_ p) W:=by
 cases h with
 |recd p ho hP h hp=>exact⟨p,_,_,rfl,hp,rfl,λW=>K_⟩
 |enum p ho hP h hp=>exact⟨p,_,_,rfl,hp,rfl,λW=>K_⟩
 |bytes p n hp=>exact⟨p,_,_,rfl,hp,rfl,λW=>K_⟩
def ZJ{F:FD}(b:F.OK){W:Aw}{a:Qu}{v:Ay}(h:qvD F W a v)(ha:okQ F a):Mw (λq=>Z_ (bo q:Int)) a v:=by
 cases a with
 |ty t=>
  obtain⟨u,rfl,h⟩:=h;obtain⟨T,x,rfl⟩:=h.iface;have:=lQ ha.1;have:=b.hs;exact⟨T,x,t.place,rfl,rfl,M_,wR h⟩
 |bd p X=>
  obtain⟨u,rfl,h,hp⟩:=h;obtain⟨p',T,x,rfl,_,c,f⟩:=rP h;rw[c]at hp;have e:(p':Int)=(p:Int):=by simpa using hp
  obtain rfl:p'=p:=M_;have:=KU ha.1;have:=b.hs;exact⟨T,x,p',rfl,rfl,M_,f⟩
def Ze{F:FD}{T:Dr}(h:Gd (ClD F) T):ClT (zx F.ds) (λt n=>fV T (.ty t) n) where
 one:=λt n hk ha hr=>by
  obtain⟨r,f,j,rfl⟩:=hk;obtain⟨v,h1,e⟩:=h r f;have a:=pm e;rw[j]at h1;cases t with
  |alts p l=>cases ha
  |wrap c p t=>
   have:v=1:=h1;rw[this]at a;exact a
  |leaf c p=>
   simp only[ClD]at h1;split at h1
   .rw[h1]at a;exact a
   .rename_i hb;obtain⟨p',X,u,r',x,y,rfl⟩:=h1;obtain⟨z,b,w⟩:=h r' x;rw[y]at b;refine a.trans ((pm w).trans ?_);cases X with
    |recd fs=>exact absurd u (hr c p fs rfl (by simpa using hb))
    |enum l o=>
     have:z=1:=b;rw[this];exact .refl 1
    |bytes n=>
     have:z=1:=b;rw[this];exact .refl 1
 recd:=λc p n fs hk hb he=>by
  obtain⟨r,f,j,rfl⟩:=hk;obtain⟨v,h1,e⟩:=h r f;rw[j]at h1;simp only[ClD]at h1;rw[n_ zs_]at h1;obtain⟨p',X,u,r',x,y,rfl⟩:=h1;rw[he]at u;cases u;obtain⟨z,b,w⟩:=h r' x;rw[y]at b;obtain⟨ks,G,H,K⟩:=b;rw[K]at w;exact⟨ks,G,H,(pm e).trans (pm w)⟩
 alts:=λp l n hk t E=>by
  obtain⟨r,f,j,rfl⟩:=hk;obtain⟨v,h1,e⟩:=h r f;rw[j]at h1;obtain⟨k,a,B⟩:=h1 t E;exact⟨k,a,(pm e).trans B⟩
def wo(V:Aw)(S:Az)(q:Nat)(cs:Ay)(T:Av):Prop:=Blk V q cs T/\¬S q
def wo.stp{V:Aw}{S':Az}{T:Av}(h:wo V S q cs T)(hs:Stp V V' S S'):wo V' S' q cs T:=⟨hs.1.bl h.1 h.2,λe=>h.2 (hs.2 q h.1.lt e)⟩
def wo.new{V:Aw}{T:Av}(h:wo V S q cs T)(hf:Fr V V' N_):wo V' S q cs T:=⟨hf.bl h.1 id,h.2⟩
def wo.ot{V:Aw}{T:Av}(h:wo V S q cs T)(hf:Fr V V' (λx=>x=p))(hp:q≠p):wo V' S q cs T:=⟨hf.bl h.1 hp,h.2⟩
def iQ(ks:Ao):jnN ks<=301:=by
 unfold jnN;split
 .omega
 .split<;>omega
def XR{n m:Nat}:le0 (if btr m n=true then m else n) n/\le0 (if btr m n=true then m else n) m:=by
 by_cases h:btr m n=true
 .rw[i_ h];have:=Vj h;unfold le0;omega
 .rw[n_ h];exact⟨.refl n,pm za_⟩
def oe(h:jnN [k]≠0):k≠0:=λe=>by subst e;exact h rfl
def svD.branch{F:FD}{W:Aw}{D b:Dg}{i:Nat}{l:Af}{kd:Ax}(h:svD F W J D (λu=>u=t) k kd)(hl:l[i]?=some t)(hi:i<=300)(j:∀x,D x->b (.mk 40 (i:Int) noB [] [x]))(h0:jnN [k]=0\/jnN [k]=301->v=.nilIface)(h1:1<=jnN [k]->jnN [k]<=300->BrR i kd v):svD F W J b (λu=>u=.alts p l) (jnN [k]) v:=by
 refine⟨h0,λe=>?_⟩;obtain⟨x,d1,c,d3⟩:=h.2 (oe e);have f:jnN [k]=nd3 (.mk 40 (i:Int) noB [] [x]):=by rw[<- c];exact iK (ds:=[x])
 refine⟨_,⟨j x d1.1,d1.2.branch hi⟩,f.symm,λa u hu=>?_⟩;subst hu;rw[h1 M_ a];refine .branch i M_ ?_;have:yg (zx F.ds) (.alts p l) i 0=t:=by
  show l.getD i (.leaf 0 0)=t;rw[as_,hl];rfl
 rw[this];refine d3 ?_ t rfl;unfold jnN at a;split at a
 .rename_i h;simp at h;omega
 .split at a
  .omega
  .simp at a;omega
section
variable {α ρ:Type} {P:TP α ρ} {I:TI α} {L:TL} {F:FD}
structure LB(P:TP α ρ)(I:TI α)(L:TL)(F:FD)(D:Dg)(A:Ev)(qs:List α)(W:Aw)(r:ρ)(rv:Ax)(g:Aq)(T:List (Rw α))(i n:Nat)(d:Ax)(V:Aw)(r':ρ)(rv':Ax)(g':Aq)(T':List (Rw α)):Prop where
 ti:TbI P I L V r' rv' g' T'
 st:Stp W V (TSS P L rv r) (TSS P L rv' r')
 gr:Grw P.Cl T T' g g'
 cl:∀q∈qs.take i,∃k,fV T' q k/\le0 n (jnN [k])
 nl:n<=301
 dl:IfV d
 vl:svD F V (λy=>¬TSS P L rv' r' y) D A n d
variable {D:Dg} {A:Ev} {qs:List α} {W V V1 V2:Aw} {r r' r1:ρ} {rv rv' rv1:Ax} {g g' g1:Aq} {T T' T1:List (Rw α)} {i n:Nat} {d:Ax}
def LB.start(a:P.OK I L)(h:TbI P I L W r rv g T)(hf:Fr W V N_):LB P I L F D A qs W r rv g T 0 0 .nilIface V r rv g T:=
 ⟨h.new a hf,C_ hf (λ_ h=>h),Grw.refl _ _,λq a=>by simp at a,M_,.inl rfl,λ_=>rfl,λe=>absurd rfl e⟩
def LB.new(a:P.OK I L)(h:LB P I L F D A qs W r rv g T i n d V r' rv' g' T')(hf:Fr V V1 N_):LB P I L F D A qs W r rv g T i n d V1 r' rv' g' T':=
 ⟨h.ti.new a hf,h.st.trans (C_ hf (λ_ h=>h)),h.gr,h.cl,h.nl,h.dl,h.vl.stp (C_ hf (λ_ h=>h))⟩
def LB.put(a:P.OK I L)(h:LB P I L F D A qs W r rv g T i n d V r' rv' g' T')(b:L.fb<q)(hw:W.heap.size<=q)(hb:Blk V q cs 85)(hf:Fr V V1 (λx=>x=q)):LB P I L F D A qs W r rv g T i n d V1 r' rv' g' T':=
 ⟨h.ti.put a b hb hf,⟨h.st.1.trans hf (λx hx e=>M_),h.st.2⟩,h.gr,h.cl,h.nl,h.dl,h.vl.put hb D_ D_ hf⟩
def LB.step(b:P.OK I L){q:α}{x:Rw α}(h:LB P I L F D A qs W r rv g T i n d V r' rv' g' T')(f:qs[i]?=some q)(hx:x∈T1)(ha:x.a=q)(l:TbI P I L V1 r1 rv1 g1 T1)(hs:Stp V V1 (TSS P L rv' r') (TSS P L rv1 r1))(hg:Grw P.Cl T' T1 g' g1)(hv:IfV v)(j:svD F V1 (λy=>¬TSS P L rv1 r1 y) D A (jnN [x.n]) v):LB P I L F D A qs W r rv g T (i+1) (if btr (jnN [x.n]) n=true then jnN [x.n] else n) (if btr (jnN [x.n]) n=true then v else d) V1 r1 rv1 g1 T1:=by
 have e:=hg;obtain⟨R,c,_⟩:=e;have hb:=@XR n (jnN [x.n]);refine⟨l,h.st.trans hs,h.gr.trans b.mono hg,λp hp=>?_,?_,?_,?_⟩
 .rw[a8_,f]at hp;rcases a4_.1 hp with hp|hp
  .obtain⟨k,b,e⟩:=h.cl p hp;exact⟨k,by rw[c];exact b.more R,hb.1.trans e⟩
  .simp only[Option.toList_some,a2_]at hp;subst hp;exact⟨x.n,⟨x,hx,ha,rfl⟩,hb.2⟩
 .split
  .exact iQ _
  .exact h.nl
 .split
  .exact hv
  .exact h.dl
 .split
  .exact j
  .exact h.vl.stp hs
structure BFM(P:TP α ρ)(I:TI α)(L:TL)(F:FD)(D:Dg)(A:Ev)(qs:List α)(c0:Ay)(T0:Av)(W:Aw)(r:ρ)(rv:Ax)(g:Aq)(T:List (Rw α))(i n:Nat)(d:Ax)(V:Aw)(r':ρ)(rv':Ax)(g':Aq)(T':List (Rw α)):Prop where
 b:LB P I L F D A qs W r rv g T i n d V r' rv' g' T'
 o0:wo V (TSS P L rv' r') W.heap.size c0 T0
 o1:wo V (TSS P L rv' r') (W.heap.size+1) [O_,.nilIface] 85
 o2:wo V (TSS P L rv' r') (W.heap.size+2) [I_ n,d] 85
 f:L.fb<W.heap.size
variable {c0:Ay} {T0:Av}
def BFM.start(a:P.OK I L)(h:TbI P I L W r rv g T)(cs:Dy)(T0:Av):BFM P I L F D A qs cs.toList T0 W r rv g T 0 0 .nilIface (((W.alloc (.cells cs T0)).alloc (.cells #[O_,.nilIface] 85)).alloc (.cells #[O_,.nilIface] 85)) r rv g T:=by
 have hl:=λx (hx:TSS P L rv r x)=>(h.li a hx);have b:=zm W (.cells cs T0);have c:=zm (W.alloc (.cells cs T0)) (.cells #[O_,.nilIface] 85);have b1:=(B_ (W.alloc (.cells cs T0)) #[O_,.nilIface] 85).alloc (.cells #[O_,.nilIface] 85);have b2:=B_ ((W.alloc (.cells cs T0)).alloc (.cells #[O_,.nilIface] 85)) #[O_,.nilIface] 85;rw[b]at b1;rw[c,b]at b2;have hb:=hl L.tb (.inl (.inl rfl));exact⟨.start a h ((((A_ W _).alloc _).alloc _).alloc _),⟨((B_ W cs T0).alloc _).alloc _,λe=>o1_ (hl _ e)⟩,⟨b1,λe=>o1_ (hl _ e)⟩,⟨b2,λe=>o1_ (hl _ e)⟩,M_⟩
def BFM.new(a:P.OK I L)(h:BFM P I L F D A qs c0 T0 W r rv g T i n d V r' rv' g' T')(hf:Fr V V1 N_):BFM P I L F D A qs c0 T0 W r rv g T i n d V1 r' rv' g' T':=
 ⟨h.b.new a hf,h.o0.new hf,h.o1.new hf,h.o2.new hf,h.f⟩
def BFM.step(j:P.OK I L){q:α}{x:Rw α}{c:Aw}(h:BFM P I L F D A qs c0 T0 W r rv g T i n d V r' rv' g' T')(l:qs[i]?=some q)(hx:x∈T1)(ha:x.a=q)(u:TbI P I L V1 r1 rv1 g1 T1)(hs:Stp V V1 (TSS P L rv' r') (TSS P L rv1 r1))(hg:Grw P.Cl T' T1 g' g1)(hf:Fr V1 c N_)(hv:IfV v)(o:svD F c (λy=>¬TSS P L rv1 r1 y) D A (jnN [x.n]) v):BFM P I L F D A qs c0 T0 W r rv g T (i+1) (if btr (jnN [x.n]) n=true then jnN [x.n] else n) (if btr (jnN [x.n]) n=true then v else d) ((c.setCell ⟨W.heap.size+2,0,none⟩ (Z_ ((if btr (jnN [x.n]) n=true then jnN [x.n] else n:Nat):Int))).setCell ⟨W.heap.size+2,1,none⟩ (if btr (jnN [x.n]) n=true then v else d)) r1 rv1 g1 T1:=by
 have e:=hs.trans (C_ (S:=TSS P L rv1 r1) hf (λ_ h=>h));have h1:=h.b.step j l hx ha (u.new j hf) e hg hv o;have o2:=h.o2.stp e;have l:=J_ c (W.heap.size+2) 0 1 (Z_ ((if btr (jnN [x.n]) n=true then jnN [x.n] else n:Nat):Int)) (if btr (jnN [x.n]) n=true then v else d);have c:=h.f;exact⟨h1.put j M_ M_ o2.1 l,(h.o0.stp e).ot l M_,(h.o1.stp e).ot l M_,⟨(o2.1.set 0 _).set 1 _,o2.2⟩,c⟩
def BFM.fin(c:P.OK I L){a:α}(h:BFM P I L F D A qs c0 T0 W r rv g T i n d V r' rv' g' T')(hc:P.Cl T' a n)(j:∀V' J,svD F V' J D A n d->P.SV V' J a n d):yB P I L W r rv g T a (.returned (.agg #[I_ n,d])) ((V.setCell ⟨W.heap.size+1,0,none⟩ (I_ n)).setCell ⟨W.heap.size+1,1,none⟩ d):=by
 have e:=J_ V (W.heap.size+1) 0 1 (I_ n) d;have l:=h.f;have h1:=h.b.put c M_ M_ h.o1.1 e;exact⟨r',rv',g',T',n,d,rfl,h.b.nl,h.b.dl,h1.ti,h1.st,h1.gr,hc,j _ _ h1.vl⟩
end
def FX.cell4{F:FD}{W:Aw}(h:FX F W):W.cell? ⟨F.fb,4,none⟩=some (P_ F.tb):=h.b.cell 4
def cq1_{p:Prop}(h:p:=by
 (first|(have _:=cc1;obtain⟨a7,Q_⟩:∃R,H_ (R=yB (uT F) (uI F) (uL F) W r rv g T (.alts p l,y)):=⟨_,rfl⟩)|(obtain⟨a7,Q_⟩:∃R,H_ (R=yB (dT F) (dI F) (dL F) W r rv g T (.ty (.alts p l))):=⟨_,rfl⟩));rw[<- Q_.o];(first|(have _:=cc1;have E:=vH H)|(have E:=fG H));obtain⟨U,uc,rfl⟩:=zw ho;(first|(have _:=cc1;obtain⟨w3,a3⟩:∃V,V=((W.alloc (.cells #[.slice U l.length uc,.iface bT bx] 277)).alloc (.cells #[O_,.nilIface] 85)).alloc (.cells #[O_,.nilIface] 85):=⟨_,rfl⟩)|(obtain⟨w3,a3⟩:∃V,V=((W.alloc (.cells #[I_ p,.slice U l.length uc] 226)).alloc (.cells #[O_,.nilIface] 85)).alloc (.cells #[O_,.nilIface] 85):=⟨_,rfl⟩));(first|(have _:=cc1;obtain⟨j,w⟩:∃B,B=BFM (uT F) (uI F) (uL F) F (UD F (.alts p l,y)) (UA (.alts p l,y)) (l.map λt=>(t,y)) [.slice U l.length uc,.iface bT bx] 277 W r rv g T:=⟨_,rfl⟩)|(obtain⟨j,w⟩:∃B,B=BFM (dT F) (dI F) (dL F) F (QD F (.ty (.alts p l))) (QT F (.ty (.alts p l))) (l.map Qu.ty) [I_ p,.slice U l.length uc] 226 W r rv g T:=⟨_,rfl⟩));(first|(have _:=cc1;have start:j 0 0 .nilIface w3 r rv g T:=by rw[a3,w];exact .start E h #[.slice U l.length uc,.iface bT bx] 277)|(have start:j 0 0 .nilIface w3 r rv g T:=by rw[a3,w];exact .start E h #[I_ p,.slice U l.length uc] 226))
 (first|(have _:=cc1;have c1:=(show BFM (uT F) (uI F) (uL F) F _ _ _ _ _ W r rv g T _ _ _ _ _ _ _ _ from w▸start).o0.1.c0)|(have c1:=(show BFM (dT F) (dI F) (dL F) F _ _ _ _ _ W r rv g T _ _ _ _ _ _ _ _ from w▸start).o0.1.c1));have d9:l.length<=300:=by
  have:=hq.2.2;unfold vq at this;exact this.1
 (first|(have _:=cc1;have a2:∀x,TSS (uT F) (uL F) rv r x->F.fb<x:=λx e=>(h.li E e).1)|(have a2:∀x,TSS (dT F) (dL F) rv r x->F.fb<x:=λx e=>(h.li E e).1))
 first
  |have _:=cc1
   have item:H_ (∀V r' rv' g' T' (i n:Nat) d t,j i n d V r' rv' g' T'->l[i]?=some t->(∃b,U=some ⟨b,0,none⟩/\V.cell? ⟨b,i,none⟩=some (X i))/\(∃vT vx,X i=.iface vT vx)/\V.cell? ⟨F.fb,5,none⟩=some (P_ F.tu)/\V.cell? ⟨W.heap.size+2,0,none⟩=some (I_ n)/\V.cell? ⟨W.heap.size+2,1,none⟩=some d/\V.cell? ⟨W.heap.size,1,none⟩=some (.iface bT bx)/\Calls prog 54 #[P_ F.tu,.agg #[X i,.iface bT bx]] V (ju (uT F) (uI F) (uL F) V r' rv' g' T' (t,y))):=zy (λV r' rv' g' T' i n d t M f=>by
    rw[w]at M
    have hf:=M.b.st.1
    have hs:∀x,F.P x->¬TSS (uT F) (uL F) rv r x:=λx hx e=>by have:=a2 x e;have:=H.pP x hx;omega
    have hi:=(ak_.1 f).1
    have o1:=zj ho hf (λx e=>hs x (hP x e))
    obtain⟨b,d2,e⟩:=zg o1 M_
    cases e
    have ty:=(hX i t f).fr hf hs
    have d8:=hy.fr hf (λx hx e=>o2_ (a2 x e) (H.pP' x hx))
    have d7:=M.o0.1.c1
    have a1:=ai_ f
    have hk:=hq.2.1
    unfold okT at hk
    have hw:=hq.2.2
    unfold vq at hw
    have ok:okQ F (.ty t):=⟨hq.1.alts t a1,(vI hk.2 t a1).2,kU hw.2 t a1⟩
    obtain⟨R,hR,_⟩:=M.b.gr
    obtain⟨vT,vx,O⟩:=ty.iface
    have c:V.cell? ⟨b,i,none⟩=some (X i):=zr o1 rfl (by simp[hi])
    have a9:=M.o2.1.c0
    have b4:=M.o2.1.c1
    exact⟨⟨b,rfl,c⟩,⟨vT,vx,O⟩,M.b.ti.i.1.i.cell5,a9,b4,d7,hK V r' rv' g' T' (t,y) [X i,.iface bT bx] M.b.ti ⟨ok,hqy⟩ ⟨⟨_,_,rfl,ty,d8⟩,ok,hqy⟩ (by rw[hR,ag_];show 90000<=_;omega)⟩)
  |have item:H_ (∀V r' rv' g' T' (i n:Nat) d t,j i n d V r' rv' g' T'->l[i]?=some t->(∃b,U=some ⟨b,0,none⟩/\V.cell? ⟨b,i,none⟩=some (X i))/\(∃uT ux,X i=.iface uT ux)/\V.cell? ⟨F.fb,4,none⟩=some (P_ F.tb)/\V.cell? ⟨W.heap.size+2,0,none⟩=some (I_ n)/\V.cell? ⟨W.heap.size+2,1,none⟩=some d/\Calls prog 89 #[P_ F.tb,X i] V (ju (dT F) (dI F) (dL F) V r' rv' g' T' (.ty t))):=zy (λV r' rv' g' T' i n d t M f=>by
    rw[w]at M
    have hf:=M.b.st.1
    have hs:∀x,F.P x->¬TSS (dT F) (dL F) rv r x:=λx hx e=>by have:=a2 x e;have:=H.pP x hx;omega
    have hi:=(ak_.1 f).1
    have o1:=zj ho hf (λx e=>hs x (hP x e))
    obtain⟨b,d2,e⟩:=zg o1 M_
    cases e
    have ty:=(hX i t f).fr hf hs
    have a1:=ai_ f
    have hk:=hq.2.1
    unfold okT at hk
    have hw:=hq.2.2
    unfold vq at hw
    have ok:okQ F (.ty t):=⟨hq.1.alts t a1,(vI hk.2 t a1).2,kU hw.2 t a1⟩
    obtain⟨R,hR,_⟩:=M.b.gr
    obtain⟨uT,ux,O⟩:=ty.iface
    have c:V.cell? ⟨b,i,none⟩=some (X i):=zr o1 rfl (by simp[hi])
    have a9:=M.o2.1.c0
    have b4:=M.o2.1.c1
    exact⟨⟨b,rfl,c⟩,⟨uT,ux,O⟩,M.b.ti.i.cell4,a9,b4,hK V r' rv' g' T' (.ty t) [X i] M.b.ti ok ⟨⟨_,rfl,ty⟩,ok⟩ (by rw[hR,ag_];show 300<=_;omega)⟩)
 first
  |have _:=cc1
   have next:H_ (∀V r' rv' g' T' (i n:Nat) d t V1 r1 rv1 g1 T1 (x:Rw (PT×PT)) V3 v,j i n d V r' rv' g' T'->l[i]?=some t->x∈T1->x.a=(t,y)->TbI (uT F) (uI F) (uL F) V1 r1 rv1 g1 T1->Stp V V1 (TSS (uT F) (uL F) rv' r') (TSS (uT F) (uL F) rv1 r1)->Grw (uT F).Cl T' T1 g' g1->Fr V1 V3 N_->IfV v->(jnN [x.n]=0\/jnN [x.n]=301->v=.nilIface)->(1<=jnN [x.n]->jnN [x.n]<=300->BrR i x.d v)->
    j (i+1) (if btr (jnN [x.n]) n=true then jnN [x.n] else n) (if btr (jnN [x.n]) n=true then v else d) ((V3.setCell ⟨W.heap.size+2,0,none⟩ (Z_ ((if btr (jnN [x.n]) n=true then jnN [x.n] else n:Nat):Int))).setCell ⟨W.heap.size+2,1,none⟩ (if btr (jnN [x.n]) n=true then v else d)) r1 rv1 g1 T1):=zy (λV r' rv' g' T' i n d t V1 r1 rv1 g1 T1 x V3 v M f hx ha hT hs hg hf hv h0 h1=>by
    rw[w]at M⊢
    have hi:=(ak_.1 f).1
    refine M.step E (q:=(t,y)) (by rw[ax_,f];rfl) hx ha hT hs hg hf hv ?_
    have a4:=((hT.new E hf).v x hx).1
    rw[ha]at a4
    exact svD.branch a4 f M_ (λz hz=>.alts0 M_ f hz) h0 h1)
  |have next:H_ (∀V r' rv' g' T' (i n:Nat) d t V1 r1 rv1 g1 T1 (x:Rw Qu) V3 v,j i n d V r' rv' g' T'->l[i]?=some t->x∈T1->x.a=.ty t->TbI (dT F) (dI F) (dL F) V1 r1 rv1 g1 T1->Stp V V1 (TSS (dT F) (dL F) rv' r') (TSS (dT F) (dL F) rv1 r1)->Grw (dT F).Cl T' T1 g' g1->Fr V1 V3 N_->IfV v->(jnN [x.n]=0\/jnN [x.n]=301->v=.nilIface)->(1<=jnN [x.n]->jnN [x.n]<=300->BrR i x.d v)->
    j (i+1) (if btr (jnN [x.n]) n=true then jnN [x.n] else n) (if btr (jnN [x.n]) n=true then v else d) ((V3.setCell ⟨W.heap.size+2,0,none⟩ (Z_ ((if btr (jnN [x.n]) n=true then jnN [x.n] else n:Nat):Int))).setCell ⟨W.heap.size+2,1,none⟩ (if btr (jnN [x.n]) n=true then v else d)) r1 rv1 g1 T1):=zy (λV r' rv' g' T' i n d t V1 r1 rv1 g1 T1 x V3 v M f hx ha hT hs hg hf hv h0 h1=>by
    rw[w]at M⊢
    have hi:=(ak_.1 f).1
    refine M.step E (q:=.ty t) (by rw[ax_,f];rfl) hx ha hT hs hg hf hv ?_
    have a4:=((hT.new E hf).v x hx).1
    rw[ha]at a4
    exact svD.branch a4 f M_ (λy hy u hu=>by rw[show u=PT.alts p l from hu];exact .alts M_ f (hy t rfl)) h0 h1)
 first
  |have _:=cc1
   have fin:H_ (∀V r' rv' g' T' n d,j l.length n d V r' rv' g' T'->a7 (.returned (.agg #[I_ n,d])) ((V.setCell ⟨W.heap.size+1,0,none⟩ (I_ n)).setCell ⟨W.heap.size+1,1,none⟩ d)/\Blk V (W.heap.size+1) [O_,.nilIface] 85/\Blk V (W.heap.size+2) [I_ n,d] 85/\IfV d):=zy (λV r' rv' g' T' n d M=>by
    rw[w]at M
    rw[Q_.o]
    refine⟨M.fin E ?_ (λ_ _ h=>h),M.o1.1,M.o2.1,M.b.dl⟩
    refine⟨λp' e1 e t f=>?_,λe=>(by cases e),λc p p' u u' e=>(by cases e),λc p p' lw lr ow o q e=>(by cases e),λc p p' fw fr g i h e=>(by cases e),λc p p' fw fr g e=>(by cases e)⟩
    cases e
    exact M.b.cl (t,y) (by rw[bc_ (by simp)];exact a7_.2 ⟨t,f,rfl⟩))
  |have fin:H_ (∀V r' rv' g' T' n d,j l.length n d V r' rv' g' T'->a7 (.returned (.agg #[I_ n,d])) ((V.setCell ⟨W.heap.size+1,0,none⟩ (I_ n)).setCell ⟨W.heap.size+1,1,none⟩ d)/\Blk V (W.heap.size+1) [O_,.nilIface] 85/\Blk V (W.heap.size+2) [I_ n,d] 85/\IfV d):=zy (λV r' rv' g' T' n d M=>by
    rw[w]at M
    rw[Q_.o]
    refine⟨M.fin E (λt f=>?_) (λ_ _ h=>h),M.o1.1,M.o2.1,M.b.dl⟩
    exact M.b.cl (.ty t) (by rw[bc_ (by simp)];exact a7_.2 ⟨t,f,rfl⟩))
 (first|(have _:=cc1;have a8:H_ (∀V r' rv' g' T' n d,∀i,j i n d V r' rv' g' T'->IfV d/\(∀V1 r1 rv1,Stp V V1 (TSS (uT F) (uL F) rv' r') (TSS (uT F) (uL F) rv1 r1)->Blk V1 (W.heap.size+2) [I_ n,d] 85)/\∀V1 r1 rv1,Stp V V1 (TSS (uT F) (uL F) rv' r') (TSS (uT F) (uL F) rv1 r1)->Blk V1 W.heap.size [.slice U l.length uc,.iface bT bx] 277):=zy (λV r' rv' g' T' n d i M=>by rw[w]at M;exact⟨M.b.dl,λV1 r1 rv1 hs=>(M.o2.stp hs).1,λV1 r1 rv1 hs=>(M.o0.stp hs).1⟩))|(have a8:H_ (∀V r' rv' g' T' n d,∀i,j i n d V r' rv' g' T'->IfV d/\∀V1 r1 rv1,Stp V V1 (TSS (dT F) (dL F) rv' r') (TSS (dT F) (dL F) rv1 r1)->Blk V1 (W.heap.size+2) [I_ n,d] 85):=zy (λV r' rv' g' T' n d i M=>by rw[w]at M;exact⟨M.b.dl,λV1 r1 rv1 hs=>(M.o2.stp hs).1⟩)));replace start:=zy start;replace a3:=zy a3;have b9:H_ (∀V r' rv' g' T' n d i V1,j i n d V r' rv' g' T'->Fr V V1 N_->j i n d V1 r' rv' g' T'):=zy (λV r' rv' g' T' n d i V1 M hf=>by rw[w]at M⊢;exact M.new E hf);replace w:=zy w;(first|(have _:=cc1;clear hK ho hP hX hq h a2 hy hqy)|(clear hK ho hP hX hq h a2));go_in;go_upto_region 2 with fail;rw[<- a3.o];go_wp2;go_loopg [11] (l.length+1) (λm v V=>∃q:Nat,∃n d r' rv' g' T',v=I_ q/\q<=l.length/\l.length+1-q<=m/\H_ (j q n d V r' rv' g' T'));case atStart=>exact⟨0,_,_,_,_,_,_,rfl,am_ _,M_,start⟩
 case round=>
  clear start c1;obtain⟨q,n,d,r',rv',g',T',rfl,hq,hm,M⟩:=hrel;by_cases b8:q<l.length
  .have d6:(q:Int)<(l.length:Int):=M_;obtain⟨t,f⟩:∃t,l[q]?=some t:=⟨_,aj_ b8⟩;(first|(have _:=cc1;obtain⟨⟨b,rfl,e0⟩,⟨vT,vx,O⟩,b6,e4,e5,e6,-⟩:=item.o _ _ _ _ _ _ _ _ _ M.o f)|(obtain⟨⟨b,rfl,e0⟩,⟨uT,ux,O⟩,e4,e5,e6,-⟩:=item.o _ _ _ _ _ _ _ _ _ M.o f));(first|(have _:=cc1;have hC:H_ (∀V1,Fr wr V1 N_->Calls prog 54 #[P_ F.tu,.agg #[.iface vT vx,.iface bT bx]] V1 (ju (uT F) (uI F) (uL F) V1 r' rv' g' T' (t,y))):=zy (λV1 hf=>by rw[<- O];exact(item.o V1 _ _ _ _ _ _ _ _ (b9.o _ _ _ _ _ _ _ _ V1 M.o hf) f).2.2.2.2.2.2))|(have hC:H_ (∀V1,Fr wr V1 N_->Calls prog 89 #[P_ F.tb,.iface uT ux] V1 (ju (dT F) (dI F) (dL F) V1 r' rv' g' T' (.ty t))):=zy (λV1 hf=>by rw[<- O];exact(item.o V1 _ _ _ _ _ _ _ _ (b9.o _ _ _ _ _ _ _ _ V1 M.o hf) f).2.2.2.2.2)));rw[O]at e0;replace f:=zy f;replace O:=zy O;go_wp2;(first|(have _:=cc1;refine tr_ 13 (λV=>z_ V (W.heap.size+2) 0 (I_ n)/\z_ V (W.heap.size+2) 1 d/\z_ V F.fb 5 (P_ F.tu)/\z_ V W.heap.size 1 (.iface bT bx)) ?_)|(refine tr_ 10 (λV=>z_ V (W.heap.size+2) 0 (I_ n)/\z_ V (W.heap.size+2) 1 d/\z_ V F.fb 4 (P_ F.tb)) ?_));refine tz_ 0 ?_;refine tz_ 1 ?_;refine tz_ 2 ?_;refine tz_ 3 ?_;refine tz_ 4 ?_;refine tz_ 5 ?_;refine tz_ 6 ?_;(first|(have _:=cc1;refine tz_ 7 ?_;refine tz_ 8 ?_;refine tz_ 9 ?_;refine zh 10 rfl K_ (λ_=>⟨e4,e5,b6,e6⟩) (λK hK=>?_))|(refine zh 7 rfl K_ (λ_=>⟨e5,e6,e4⟩) (λK hK=>?_)));go_simp;apply(hC.o _ (A_ wr _).drew).mono;rintro e w1 ⟨r1,rv1,g1,T1,x,rfl,hx,ha,h1,s1,G1⟩;refine hK _ _ ?_;(first|(have _:=cc1;clear hK K e0 b6 e4 e5 e6)|(clear hK K e0 e4 e5 e6));have a5:=(C_ (A_ wr _).drew (λ_ h=>h)).trans s1;(first|(have _:=cc1;obtain⟨hd,hb,b7⟩:=a8.o _ _ _ _ _ _ _ _ M.o;have b0:=b7 w1 r1 rv1 a5;have Y:=b0.c1)|(obtain⟨hd,hb⟩:=a8.o _ _ _ _ _ _ _ _ M.o));have b1:=hb w1 r1 rv1 a5;have z0:=b1.c0;(first|(have _:=cc1;have b5:=b1.c1)|(have Z:=b1.c1));(first|(have _:=cc1;have Z:w1.cell? ⟨F.fb,5,none⟩=some (P_ F.tu):=h1.i.1.i.cell5)|(have Y:w1.cell? ⟨F.fb,4,none⟩=some (P_ F.tb):=h1.i.cell4));have xq:=(h1.t.q x hx).2.2;(first|(have _:=cc1;refine zh 11 rfl K_ (λ_=>⟨z0,b5,Z,Y⟩) (λK hK=>?_))|(refine zh 8 rfl K_ (λ_=>⟨z0,Z,Y⟩) (λK hK=>?_)));go_simp;apply(mU (n:=q) xq.2 xq.1).mono;rintro e w2 ⟨v,rfl,hv,G,v0,v1⟩;refine hK _ _ ?_;clear hK K;(first|(have _:=cc1;refine zh 12 rfl K_ (λ_=>⟨G.ke z0,G.ke b5,G.ke Z,G.ke Y⟩) (λK hK=>?_))|(refine zh 9 rfl K_ (λ_=>⟨G.ke z0,G.ke Z,G.ke Y⟩) (λK hK=>?_)));go_simp;apply(pn hd hv).mono;rintro e w3 ⟨rfl,f3⟩;refine hK _ _ ?_;clear hK K;have a0:=G.trans f3 u_;have b3:=a0.bl b1 id;have y0:=b3.c0;have y1:=b3.c1;have y2:=b3.th 0;have y3:=b3.th 1;have nx:=zy (next.o _ _ _ _ _ _ _ _ _ w1 _ _ _ _ x w3 v M.o f.o hx ha h1 a5 G1 a0 hv v0 v1);have ev:(if btr (jnN [x.n]) n=true then Value.agg #[Z_ (jnN [x.n]:Int),v] else .agg #[I_ n,d])=.agg #[Z_ ((if btr (jnN [x.n]) n=true then jnN [x.n] else n:Nat):Int),if btr (jnN [x.n]) n=true then v else d]:=by split<;>rfl
   rw[ev];have a6:IfV (if btr (jnN [x.n]) n=true then v else d):=by
    split
    .exact hv
    .exact hd
   generalize (if btr (jnN [x.n]) n=true then jnN [x.n] else n)=n' at nx;generalize (if btr (jnN [x.n]) n=true then v else d)=d' at nx a6;have sd:=λW a m=>run_store prog W a d' m a6.one;(first|(have _:=cc1;have c3:w3.cell? ⟨F.fb,5,none⟩=some (P_ F.tu):=a0.ke Z)|(have c3:w3.cell? ⟨F.fb,4,none⟩=some (P_ F.tb):=a0.ke Y));(first|(have _:=cc1;have c8:=a0.ke Y)|(clear hd hb b1 z0 Z Y xq hx ha h1 s1 a5 G1 hv v0 v1 G f3 a0 b3 ev M a6));(first|(have _:=cc1;clear hd hb b7 b0 b1 z0 b5 Z Y xq hx ha h1 s1 a5 G1 hv v0 v1 G f3 a0 b3 ev M a6;refine t1_ 13 ⟨y0,y1,c3,c8⟩ ?_)|(refine t1_ 10 ⟨y0,y1,c3⟩ ?_));refine td_ ?_ _;go_wp2;go_roundg (l.length+1-(q+1));case measure=>omega
   case rel=>exact⟨q+1,_,_,_,_,_,_,by simp,b8,l_,nx⟩
  .have d6:¬((q:Int)<(l.length:Int)):=M_;obtain rfl:q=l.length:=M_;obtain⟨f1,b1,b2,hd⟩:=fin.o _ _ _ _ _ _ _ M.o;have s1:=λW a m=>run_store prog W a d m hd.one;have q0:=b1.c0;have q1:=b1.c1;have t0:=b1.th 0;have t1:=b1.th 1;have p0:=b2.c0;have p1:=b2.c1;have B8:Blk ((wr.setCell ⟨W.heap.size+1,0,none⟩ (I_ n)).setCell ⟨W.heap.size+1,1,none⟩ d) (W.heap.size+1) [I_ n,d] 85:=(b1.set 0 _).set 1 _;have x0:=B8.c0;have x1:=B8.c1;replace f1:=zy f1;clear b1 b2 B8;go_wp2;(first|(have _:=cc1;refine bodyPost_ret (v:=.agg #[I_ n,d]) (by simp[results,results159,go_sem,x0,x1]) rfl ?_)|(refine bodyPost_ret (v:=.agg #[I_ n,d]) (by simp[results,results88,go_sem,x0,x1]) rfl ?_));exact f1.o):p:=h
def Qq{F:FD}(H:F.OK){W:Aw}{r:Unit}{rv uv:Ax}{g:Aq}{T:Dr}{l:Af}{X:Ai}(hK:KOK (dT F) (dI F) (dL F) 89 (λv=>v.headD .nilIface) m)(h:TbI (dT F) (dI F) (dL F) W r rv g T)(ho:W.ownsRow 0 46 1 uv l.length ((List.range l.length).map X))(hP:∀g,uv.ownBlock=some g->F.P g)(hX:∀i t,l[i]?=some t->TyV W F.P t (X i))(hq:okQ F (.ty (.alts p l)))(hm:300<=T.length+m):Calls prog 88 #[P_ F.fb,.agg #[I_ p,uv]] W (yB (dT F) (dI F) (dL F) W r rv g T (.ty (.alts p l))):=by
 exact cq1_
def eC:Tryz.prog.underlying 298=some (.slice 85):=K_
def XN:(Tryz.prog.info? 85).map (λi=>(i.zero,i.size,i.bytes))=some (some (.agg #[O_,.nilIface]),2,24):=K_
def aL{o:Db}{a:Act}{K:Dx}{Q:Aa}(s x:Operand)(ho:o.op=.call { callee:=.builtin .append,args:=#[s,x],argTypes:=#[298,298] }){B g n:Nat}{w:Aw}{v c0 c1:Ax}{xs:Ay}(hb:w.ownsRow B 85 2 v n xs)(b:n<=1000)(hB:B<=w.heap.size)(hg:g=w.heap.size)(hs:a.eval s=v)(hx:a.eval x=S_ g 1 1)(h0:c0.oneCell'=true)(h1:c1.oneCell'=true)(h:∀b w',w'.ownsRow B 85 2 b (n+1) (xs++[c0,c1])->(w.alloc (.cells #[c0,c1] 85)).grownBy w' v.ownBlock->(b.ownBlock=v.ownBlock\/b.ownBlock=some (w.alloc (.cells #[c0,c1] 85)).heap.size)->K (a.put o.dst b) w'):o.wp prog a (w.alloc (.cells #[c0,c1] 85)) K Q:=by
 obtain⟨ti,c,e,f,j⟩:=info_parts XN;obtain⟨v5,w5,hr,u,b,_,l⟩:=run_append_own_at (P:=prog) (w.alloc (.cells #[c0,c1] 85)) B 298 o.type 85 ti _ 2 24 eC c e f j rfl D_ _ n xs (World.ownsRow.alloc hb _) ⟨g,0,none⟩ 1 1 [c0,c1] rfl (zK _ #[c0,c1] _ _ hg) (by simp[h0,h1]) xs_ M_ x1_;unfold Oper.wp execOp;simp only[ho,resolve,invoke,builtin,Sem.run_bind,Sem.run_pure,Result.andThen_ok,List.map_toArray,a0_,bn_,hs,hx,hr];exact h v5 w5 u b l
def Ja{V:Aw}{B n:Nat}{lv:Ax}{ys:Ay}(h:V.ownsRow B 85 k lv n ys)(hf:Fr V V' (λx=>lv.ownBlock=some x)):Fr V V' N_\/∃q cs,Blk V q cs 85/\B<=q/\lv.ownBlock=some q/\Fr V V' (λx=>x=q):=by
 rcases h.2 with⟨e,_⟩|⟨q,b,a,e,hB,hg,_⟩
 .subst e;exact .inl (hf.mono (λx _ e=>by simp[Value.ownBlock]at e))
 .subst e;exact .inr ⟨q,a.toList,by unfold Blk;simpa using hg,hB,rfl,hf.mono (λx _ e=>by simpa[Value.ownBlock] using e.symm)⟩
def KL{ns:Ao}(hk:k∈ns)(h:jnN ns<=300)(h0:jnN ns≠0):k≠0/\k<=300:=by
 have hs:k<=ns.sum:=by
  clear h h0;induction ns with
  |nil=>simp at hk
  |cons x r ih=>
   rw[List.sum_cons];rcases aq_.1 hk with rfl|hk
   .omega
   .have:=ih hk;omega
 unfold jnN at h h0;split at h
 .rename_i h1;rw[i_ h1]at h0;exact absurd rfl h0
 .rename_i h1;refine⟨λe=>h1 (e▸hk),?_⟩;split at h<;>omega
def svD.recd{F:FD}{V:Aw}{b:Az}{w:Dg}{o:Ev}{Dj:Nat->DT->Prop}{fs:An}{ns:Ao}{Dv:Ai}{B:Nat}(hl:ns.length=fs.length)(hk:∀(j k:Nat) (f:PF),ns[j]?=some k->fs[j]?=some f->svD F V J (Dj j) (λu=>u=f.ty) k (Dv j))(G:∀ds:List DT,ds.length=fs.length->(∀(j:Nat) (d:DT),ds[j]?=some d->Dj j d)->w (.mk 114 0 noB [] ds))(E:∀u,o u->∃c p,u=.leaf c p/\zx F.ds c=some (.recd fs))(H:∀x d u,DaV (zx F.ds) V J d u x->DaV (zx F.ds) V' b d u x)(hB:∀x,B<=x->x<V'.heap.size->b x)(h0:jnN ns=0\/jnN ns=301->v=.nilIface)(h1:1<=jnN ns->jnN ns<=300->RcR B ns.length Dv v V'):svD F V' b w o (jnN ns) v:=by
 refine⟨h0,λe=>?_⟩;have nz:∀k∈ns,k≠0:=λk hk e'=>by
  subst e';exact e (by unfold jnN;rw[i_ hk])
 have z:∀j,∃x:DT,∀k f,ns[j]?=some k->fs[j]?=some f->(Dj j x/\Sh x)/\nd3 x=k/\(k<=300->DaV (zx F.ds) V J x f.ty (Dv j)):=λj=>by
  cases hn:ns[j]? with
  |none=>exact⟨default,λk f e=>by cases e⟩
  |some k=>
   have a:=(ak_.1 hn).1;obtain⟨x,b,l,o⟩:=(hk j k _ hn (aj_ M_)).2 (nz k (ai_ hn));exact⟨x,λw f e e'=>by
    cases e
    rw[aj_ M_]at e'
    cases e'
    exact⟨b,l,λh=>o h _ rfl⟩⟩
 let X:=λj=>Classical.choose (z j)
 have hX:=λj=>Classical.choose_spec (z j);have l:∀(j:Nat) (d:DT),((List.range fs.length).map X)[j]?=some d->j<fs.length/\d=X j:=λj d e=>by
  rw[ax_]at e;by_cases a:j<fs.length
  .rw[ce_ a]at e;exact⟨a,by simpa using e.symm⟩
  .rw[bm_ (by simpa using a)]at e;cases e
 have K:ns=((List.range fs.length).map X).map nd3:=by
  apply List.ext_getElem?;intro j;by_cases a:j<fs.length
  .rw[ax_,ax_,ce_ a,aj_ M_];exact congrArg some (hX j _ _ (aj_ M_) (aj_ a)).2.1.symm
  .rw[bm_ M_,bm_ x1_]
 refine⟨.mk 114 0 noB [] ((List.range fs.length).map X),⟨G _ x6_ (λj d e=>?_),.recd (λd hd=>?_)⟩,?_,λy u hu=>?_⟩
 .obtain⟨a,rfl⟩:=l j d e;exact(hX j _ _ (aj_ M_) (aj_ a)).1.1
 .obtain⟨j,e⟩:=bw_ hd;obtain⟨a,rfl⟩:=l j d e;exact(hX j _ _ (aj_ M_) (aj_ a)).1.2
 .rw[<- iK,<- K]
 .obtain⟨c,p,rfl,hc⟩:=E u hu;obtain⟨pv,rfl,hp⟩:=h1 M_ y;refine .row Dv (.inr ⟨rfl,rfl⟩) (by rw[bu_,List.length_range,<- hl];exact yl hp) (λx e=>hB x (hp.lt x e).1 (hp.lt x e).2) (λj d e=>?_);obtain⟨a,rfl⟩:=l j d e;have b:=hX j _ _ (aj_ (by omega:j<ns.length)) (aj_ a);have l:=b.2.2 (KL (bi_ _) y M_).2;have:yg (zx F.ds) (.leaf c p) 0 j=fs[j].ty:=by
   simp only[yg,hc,as_,ax_,aj_ a];rfl
  rw[this];exact H _ _ _ l
section
variable {α ρ:Type} {P:TP α ρ} {I:TI α} {L:TL} {F:FD}
structure RFM(P:TP α ρ)(I:TI α)(L:TL)(F:FD)(fs:An)(C:List (Rw α)->PF->Nat->Prop)(c0:Ay)(T0:Av)(W:Aw)(r:ρ)(rv:Ax)(g:Aq)(T:List (Rw α))(ns:Ao)(Dv:Ai)(lv:Ax)(V:Aw)(r':ρ)(rv':Ax)(g':Aq)(T':List (Rw α)):Prop where
 ti:TbI P I L V r' rv' g' T'
 st:Stp W V (TSS P L rv r) (TSS P L rv' r')
 gr:Grw P.Cl T T' g g'
 row:V.ownsRow (W.heap.size+2) 85 2 lv ns.length ((List.range ns.length).flatMap λj=>[Z_ ((ns.getD j 0:Nat):Int),Dv j])
 no:∀b,lv.ownBlock=some b->¬TSS P L rv' r' b
 kn:∀(j k:Nat) (f:PF),ns[j]?=some k->fs[j]?=some f->C T' f k/\svD F V (λy=>¬TSS P L rv' r' y) (QD F (.ty f.ty)) (QT F (.ty f.ty)) k (Dv j)
 iv:∀j,IfV (Dv j)
 le:∀n∈ns,n<=301
 o0:wo V (TSS P L rv' r') W.heap.size c0 T0
 o1:wo V (TSS P L rv' r') (W.heap.size+1) [O_,.nilIface] 85
 f:L.fb<W.heap.size
variable {fs:An} {C:List (Rw α)->PF->Nat->Prop} {c0:Ay} {T0:Av} {W V V1 w5:Aw} {r r' r1:ρ} {rv rv' rv1 lv v5:Ax} {g g' g1:Aq} {T T' T1:List (Rw α)} {ns:Ao} {Dv:Ai}
def RFM.new(a:P.OK I L)(h:RFM P I L F fs C c0 T0 W r rv g T ns Dv lv V r' rv' g' T')(hf:Fr V V1 N_):RFM P I L F fs C c0 T0 W r rv g T ns Dv lv V1 r' rv' g' T':=
 ⟨h.ti.new a hf,h.st.trans (C_ hf (λ_ h=>h)),h.gr,zj h.row hf u_,h.no,λj k f e e'=>⟨(h.kn j k f e e').1,(h.kn j k f e e').2.stp (C_ hf (λ_ h=>h))⟩,h.iv,h.le,h.o0.new hf,h.o1.new hf,h.f⟩
def RFM.start(a:P.OK I L)(h:TbI P I L W r rv g T)(cs:Dy)(T0:Av):RFM P I L F fs C cs.toList T0 W r rv g T [] (λ_=>.nilIface) (L_) ((W.alloc (.cells cs T0)).alloc (.cells #[O_,.nilIface] 85)) r rv g T:=by
 have hl:=λx (hx:TSS P L rv r x)=>(h.li a hx);have c:=zm W (.cells cs T0);have b1:=B_ (W.alloc (.cells cs T0)) #[O_,.nilIface] 85;rw[c]at b1;have hb:=hl L.tb (.inl (.inl rfl));have hf:=((A_ W N_).alloc (.cells cs T0)).alloc (.cells #[O_,.nilIface] 85);exact⟨h.new a hf,C_ hf (λ_ h=>h),Grw.refl _ _,World.ownsRow_nil _ _ _ _,λb e=>by simp[Value.ownBlock]at e,λj k f e=>by simp at e,λ_=>.inl rfl,λn hn=>by simp at hn,⟨(B_ W cs T0).alloc _,λe=>o1_ (hl _ e)⟩,⟨b1,λe=>o1_ (hl _ e)⟩,M_⟩
def RFM.known(a:P.OK I L)(c:∀T R f k,C T f k->C (T++R) f k)(h:RFM P I L F fs C c0 T0 W r rv g T ns Dv lv V r' rv' g' T')(u:TbI P I L V1 r1 rv1 g1 T1)(hs:Stp V V1 (TSS P L rv' r') (TSS P L rv1 r1))(hg:Grw P.Cl T' T1 g' g1):RFM P I L F fs C c0 T0 W r rv g T ns Dv lv V1 r1 rv1 g1 T1:=by
 have o:=hg;obtain⟨R,l,_⟩:=o;refine⟨u,h.st.trans hs,h.gr.trans a.mono hg,zj h.row hs.1 h.no,λb e k=>h.no b e (hs.2 b (h.row.lt b e).2 k),λj k f e e'=>⟨?_,(h.kn j k f e e').2.stp hs⟩,h.iv,h.le,h.o0.stp hs,h.o1.stp hs,h.f⟩;rw[l];exact c _ _ _ _ (h.kn j k f e e').1
def RFM.item(a:P.OK I L){kd:Ax}{f:PF}{o:Obj}(h:RFM P I L F fs C c0 T0 W r rv g T ns Dv lv V r' rv' g' T')(hf:fs[ns.length]?=some f)(hc:C T' f k)(w:svD F V (λy=>¬TSS P L rv' r' y) (QD F (.ty f.ty)) (QT F (.ty f.ty)) k kd)(hk:k<=301)(hd:IfV kd)(u:w5.ownsRow (W.heap.size+2) 85 2 v5 (ns.length+1) (((List.range ns.length).flatMap λj=>[Z_ ((ns.getD j 0:Nat):Int),Dv j])++[I_ k,kd]))(hg:(V.alloc o).grownBy w5 lv.ownBlock)(hl:v5.ownBlock=lv.ownBlock\/v5.ownBlock=some (V.alloc o).heap.size):RFM P I L F fs C c0 T0 W r rv g T (ns++[k]) (λj=>if j<ns.length then Dv j else kd) v5 w5 r' rv' g' T':=by
 have A:=(A_ V N_).alloc o;have h1:=h.new a A;have c:Fr (V.alloc o) w5 (λx=>lv.ownBlock=some x):=(A_ _ _).gw hg (λk e _=>e);have hz:=h.o1.1.lt;have z:=A.size;have key:TbI P I L w5 r' rv' g' T'/\(∀k kd (D:DT->Prop) (B:PT->Prop),svD F (V.alloc o) (λy=>¬TSS P L rv' r' y) D B k kd->svD F w5 (λy=>¬TSS P L rv' r' y) D B k kd):=by
  rcases Ja h1.row c with hf|⟨q,cs,hb,hB,_,hf⟩
  .exact⟨h1.ti.new a hf,λk kd D B hs=>hs.stp (C_ hf (λ_ h=>h))⟩
  .have:=h.f;exact⟨h1.ti.put a M_ hb hf,λk kd D B hs=>hs.put hb D_ D_ hf⟩
 have lo:∀x,lv.ownBlock=some x->W.heap.size+2<=x:=λx e=>(h.row.lt x e).1;have st:Stp W w5 (TSS P L rv r) (TSS P L rv' r'):=⟨h1.st.1.trans c (λx hx e=>o1_ (lo x e)),h.st.2⟩;refine⟨key.1,st,h.gr,?_,?_,λj m f' e e'=>?_,λj=>?_,λn hn=>?_,?_,?_,h.f⟩
 .rw[ag_,ao_,bv_,bb_,yo ns.length _ (λj=>[Z_ ((ns.getD j 0:Nat):Int),Dv j]) (λi hi=>by
   simp only[as_]
   rw[ar_ hi,i_ hi])]
  simpa[as_] using u
 .intro b e e';rcases hl with hl|hl
  .exact h.no b (hl▸e) e'
  .rw[hl]at e;simp only[af_]at e;have:=(h1.ti.li a e').2;omega
 .rcases gZ e with⟨l,e⟩|⟨rfl,rfl⟩
  .simp only[l,if_true];exact⟨(h.kn j m f' e e').1,key.2 _ _ _ _ (h1.kn j m f' e e').2⟩
  .simp only[a5_,if_false];rw[hf]at e';cases e';exact⟨hc,key.2 _ _ _ _ (w.stp (C_ A (λ_ h=>h)))⟩
 .show IfV (if j<ns.length then Dv j else kd);split
  .exact h.iv j
  .exact hd
 .rcases a4_.1 hn with hn|hn
  .exact h.le n hn
  .simp only[a2_]at hn;omega
 .exact⟨c.bl h1.o0.1 (λe=>o1_ (lo _ e)),h.o0.2⟩
 .exact⟨c.bl h1.o1.1 (λe=>o1_ (lo _ e)),h.o1.2⟩
end
mutual
def XI:∀t:PT,xS t->vq t
 | .leaf _ _,_=>by unfold vq;trivial
 | .wrap _ _ t,h=>by unfold vq;unfold xS at h;exact XI t h
 | .alts _ l,h=>by unfold vq;unfold xS at h;exact⟨h.1,We l h.2⟩
def We:∀l:List PT,(∀t∈l,xS t)->fW l
 | [],_=>by unfold fW;trivial
 |t::r,h=>by unfold fW;exact⟨XI t (h t (by simp)),We r (λx hx=>h x (by simp[hx]))⟩
end
def fu{w:Aw}{P:Az}{s:BA}{fs:An}{g cap:Nat}{xs:Ay}(ho:w.ownsRow 0 194 4 (S_ g fs.length cap) fs.length xs)(h:xG w P s fs xs){q:Nat}{f:PF}(z:fs[q]?=some f):∃T x d,w.cell? ⟨g,q*4,none⟩=some (I_ f.place)/\w.cell? ⟨g,q*4+1,none⟩=some (U_ f.letter)/\w.cell? ⟨g,q*4+2,none⟩=some (.iface T x)/\w.cell? ⟨g,q*4+3,none⟩=some (.pointer d)/\TyV w P f.ty (.iface T x)/\DfV w P s f.dflt (.pointer d):=by
 obtain⟨a,b,c,d,h1,l,o,u,rfl,rfl,y,j⟩:=h q f z;obtain⟨T,x,rfl⟩:=y.iface;have hd:∃e,d=.pointer e:=by
  unfold DfV at j;split at j
  .exact⟨_,j⟩
  .obtain⟨g',z,_,e,_⟩:=j;exact⟨_,e⟩
 obtain⟨e,rfl⟩:=hd;rw[bh_]at h1 l o u;exact⟨T,x,e,zr ho rfl h1,zr ho rfl l,zr ho rfl o,zr ho rfl u,y,j⟩
def Km{F:FD}(a:F.OK){fs:An}(b:okQ F (.bd p (.recd fs))):fs.length<=300/\∀f∈fs,okQ F (.ty f.ty):=by
 obtain⟨⟨j,h1⟩,c,hc⟩:=b;have hg:=a.g c _ hc;exact⟨hg.1.1,λf hf=>⟨XJ h1 f hf,a.e c _ hc f hf,XI _ (hg.1.2.2 f hf)⟩⟩
def FR{F:FD}(a3:F.OK){W:Aw}{r:Unit}{rv sv:Ax}{g:Aq}{T:Dr}{fs:An}{xs:Ay}(O:KOK (dT F) (dI F) (dL F) 89 (λv=>v.headD .nilIface) m)(h:TbI (dT F) (dI F) (dL F) W r rv g T)(ho:W.ownsRow 0 194 4 sv fs.length xs)(hP:∀g,sv.ownBlock=some g->F.P g)(hX:xG W F.P F.s fs xs)(hq:okQ F (.bd p (.recd fs)))(hm:300<=T.length+m):Calls prog 90 #[P_ F.fb,.agg #[I_ p,sv]] W (yB (dT F) (dI F) (dL F) W r rv g T (.bd p (.recd fs))):=by
 obtain⟨d8,Q_⟩:=y_ (yB (dT F) (dI F) (dL F) W r rv g T (.bd p (.recd fs)));rw[<- Q_.o];have G:=fG a3;obtain⟨f0,b9⟩:=Km a3 hq;obtain⟨ua,uc,rfl⟩:=zw ho;obtain⟨w3,a1⟩:=e_ ((W.alloc (.cells #[I_ p,.slice ua fs.length uc] 231)).alloc (.cells #[O_,.nilIface] 85));obtain⟨l,z⟩:=e_ (RFM (dT F) (dI F) (dL F) F fs (λT f k=>fV T (.ty f.ty) k) [I_ p,.slice ua fs.length uc] 231 W r rv g T);have start:l [] (λ_=>.nilIface) (L_) w3 r rv g T:=by rw[a1,z];exact .start G h #[I_ p,.slice ua fs.length uc] 231
 have c1:=(show RFM (dT F) (dI F) (dL F) F _ _ _ _ W r rv g T _ _ _ _ _ _ _ _ from z▸start).o0.1.c1;have b7:∀x,TSS (dT F) (dL F) rv r x->F.fb<x:=λx e=>(h.li G e).1;have item:H_ (∀V r' rv' g' T' ns Dv lv f,l ns Dv lv V r' rv' g' T'->fs[ns.length]?=some f->∃b w fx fd,ua=some ⟨b,0,none⟩/\V.cell? ⟨b,ns.length*4,none⟩=some (I_ f.place)/\V.cell? ⟨b,ns.length*4+1,none⟩=some (U_ f.letter)/\V.cell? ⟨b,ns.length*4+2,none⟩=some (.iface w fx)/\V.cell? ⟨b,ns.length*4+3,none⟩=some (.pointer fd)/\V.cell? ⟨F.fb,4,none⟩=some (P_ F.tb)/\TyV V F.P f.ty (.iface w fx)):=zy (λV r' rv' g' T' ns Dv lv f M hf=>by
  rw[z]at M
  have hs:∀x,F.P x->¬TSS (dT F) (dL F) rv r x:=λx hx e=>by have:=b7 x e;have:=a3.pP x hx;omega
  have o1:=zj ho M.st.1 (λx e=>hs x (hP x e))
  obtain⟨b,e8,e⟩:=zg o1 (o1_ ((ak_.1 hf).1))
  cases e
  obtain⟨w,fx,fd,H,U,X,k4,k5,k6⟩:=fu o1 (hX.fr M.st.1 hs) hf
  exact⟨b,w,fx,fd,rfl,H,U,X,k4,M.ti.i.cell4,k5⟩)
 have call:H_ (∀V r' rv' g' T' ns Dv lv f w fx,l ns Dv lv V r' rv' g' T'->fs[ns.length]?=some f->TyV V F.P f.ty (.iface w fx)->Calls prog 89 #[P_ F.tb,.iface w fx] V (ju (dT F) (dI F) (dL F) V r' rv' g' T' (.ty f.ty))):=zy (λV r' rv' g' T' ns Dv lv f w fx M hf ty=>by
  rw[z]at M
  have ok:=b9 f (ai_ hf)
  obtain⟨R,hR,_⟩:=M.gr
  exact O V r' rv' g' T' (.ty f.ty) [.iface w fx] M.ti ok ⟨⟨_,rfl,ty⟩,ok⟩ (by rw[hR,ag_];show 300<=_;omega))
 have known:H_ (∀V r' rv' g' T' ns Dv lv V1 r1 rv1 g1 T1,l ns Dv lv V r' rv' g' T'->TbI (dT F) (dI F) (dL F) V1 r1 rv1 g1 T1->Stp V V1 (TSS (dT F) (dL F) rv' r') (TSS (dT F) (dL F) rv1 r1)->Grw (dT F).Cl T' T1 g' g1->l ns Dv lv V1 r1 rv1 g1 T1):=zy (λV r' rv' g' T' ns Dv lv V1 r1 rv1 g1 T1 M ht hs hg=>by
  rw[z]at M⊢
  exact M.known G (λT R f k h=>h.more R) ht hs hg)
 have next:H_ (∀V r' rv' g' T' ns Dv lv f (x:Rw Qu) o w5 v5,l ns Dv lv V r' rv' g' T'->fs[ns.length]?=some f->x∈T'->x.a=.ty f.ty->w5.ownsRow (W.heap.size+2) 85 2 v5 (ns.length+1) (((List.range ns.length).flatMap λj=>[Z_ ((ns.getD j 0:Nat):Int),Dv j])++[I_ x.n,x.d])->(V.alloc o).grownBy w5 lv.ownBlock->(v5.ownBlock=lv.ownBlock\/v5.ownBlock=some (V.alloc o).heap.size)->l (ns++[x.n]) (λj=>if j<ns.length then Dv j else x.d) v5 w5 r' rv' g' T'):=zy (λV r' rv' g' T' ns Dv lv f x o w5 v5 M hf hx ha H U X=>by
  rw[z]at M⊢
  have q:=(M.ti.t.q x hx).2.2
  have sv:=(M.ti.v x hx).1
  rw[ha]at sv
  exact M.item G hf ⟨x,hx,ha,rfl⟩ sv q.1 q.2 H U X)
 have row:H_ (∀V r' rv' g' T' ns Dv lv,l ns Dv lv V r' rv' g' T'->V.ownsRow (W.heap.size+2) 85 2 lv ns.length ((List.range ns.length).flatMap λj=>[Z_ ((ns.getD j 0:Nat):Int),Dv j])/\W.heap.size+2<=V.heap.size):=zy (λV r' rv' g' T' ns Dv lv M=>by rw[z]at M;exact⟨M.row,o1_ M.o1.1.lt⟩);have fin:H_ (∀V r' rv' g' T' ns Dv lv,l ns Dv lv V r' rv' g' T'->ns.length=fs.length->kR V lv ns Dv/\(∀i,IfV (Dv i))/\(∀n∈ns,n<=301)/\Blk V (W.heap.size+1) [O_,.nilIface] 85/\∀V1 v,Fr V V1 N_->IfV v->(jnN ns=0\/jnN ns=301->v=.nilIface)->(1<=jnN ns->jnN ns<=300->RcR (V.heap.size+2) ns.length Dv v V1)->d8 (.returned (.agg #[Z_ (jnN ns:Int),v])) ((V1.setCell ⟨W.heap.size+1,0,none⟩ (Z_ (jnN ns:Int))).setCell ⟨W.heap.size+1,1,none⟩ v)):=zy (λV r' rv' g' T' ns Dv lv M hl=>by
  rw[z]at M
  refine⟨yl M.row,M.iv,M.le,M.o1.1,λV1 v hf hv h0 h1=>?_⟩
  rw[Q_.o]
  have hF:=J_ V1 (W.heap.size+1) 0 1 (Z_ (jnN ns:Int)) v
  have M1:=M.new G hf
  have e9:(dL F).fb<W.heap.size:=M.f
  have a7:(dL F).fb<W.heap.size+1:=M_
  have t1:=M1.ti.put G a7 M1.o1.1 hF
  have e6:svD F V1 (λy=>¬TSS (dT F) (dL F) rv' r' y) (QD F (.bd p (.recd fs))) (QT F (.bd p (.recd fs))) (jnN ns) v:=by
   refine svD.recd (F:=F) (V:=V) (J:=λy=>¬TSS (dT F) (dL F) rv' r' y) (Dj:=λj d=>∀f,fs[j]?=some f->Dat (zx F.ds) d f.ty) (B:=V.heap.size+2) hl (λj k f e e'=>?_) (λds hd d9 u hu=>?_) (λu hu=>?_) (λx d u hx=>?_) (λx hx f6 e=>?_) h0 h1
   .have:=(M.kn j k f e e').2
    exact⟨this.1,λe0=>by
     obtain⟨y,y1,y2,y3⟩:=this.2 e0
     exact⟨y,⟨λf' ef=>by rw[e']at ef;cases ef;exact y1.1 _ rfl,y1.2⟩,y2,y3⟩⟩
   .obtain⟨c,p',rfl,hb,hc⟩:=hu
    exact .recd hc hb hd (λi d t e e'=>by
     rw[ax_]at e'
     cases a5:fs[i]? with
     |none=>rw[a5]at e';cases e'
     |some f=>rw[a5]at e';cases e';exact d9 i d e f a5)
   .obtain⟨c,p',rfl,hb,hc⟩:=hu
    exact⟨c,p',rfl,hc⟩
   .exact(hx.fr hf u_)
   .have:=(M.ti.li G e).2
    omega
  have hs:=M1.st
  refine⟨r',rv',g',T',jnN ns,v,rfl,iQ ns,hv,t1,⟨hs.1.trans hF (λx hx e=>M_),hs.2⟩,M.gr,⟨ns,hl,λq f k e e'=>(M.kn q k f e' e).1,rfl⟩,svD.put e6 M1.o1.1 D_ D_ hF⟩)
 replace start:=zy start;replace a1:=zy a1;have b8:H_ (∀V r' rv' g' T' ns Dv lv V1,l ns Dv lv V r' rv' g' T'->Fr V V1 N_->l ns Dv lv V1 r' rv' g' T'):=zy (λV r' rv' g' T' ns Dv lv V1 M hf=>by rw[z]at M⊢;exact M.new G hf);have e2:H_ (∀V r' rv' g' T' ns Dv lv (x:Rw Qu),l ns Dv lv V r' rv' g' T'->x∈T'->IfV x.d):=zy (λV r' rv' g' T' ns Dv lv x M hx=>by rw[z]at M;exact(M.ti.t.q x hx).2.2.2);have d2:H_ (∀V r' rv' g' T' ns Dv lv,l ns Dv lv V r' rv' g' T'->(∀x,lv.ownBlock=some x->x<V.heap.size/\F.fb<x)/\∀x,TSS (dT F) (dL F) rv' r' x->x<V.heap.size):=zy (λV r' rv' g' T' ns Dv lv M=>by
  rw[z]at M
  exact⟨λx e=>⟨(M.row.lt x e).2,by have:=(M.row.lt x e).1;have:F.fb<W.heap.size:=M.f;omega⟩,λx e=>(M.ti.li G e).2⟩)
 replace z:=zy z;go_in;go_upto_region 1 with fail;rw[<- a1.o];go_wp2;go_loopg [5,11] (fs.length+1) (λm v5 v V=>∃ns Dv lv r' rv' g' T',lv=v5/\v=Z_ ((ns.length:Nat):Int)/\ns.length<=fs.length/\fs.length+1-ns.length<=m/\H_ (l ns Dv lv V r' rv' g' T'));case atStart=>exact⟨[],_,_,_,_,_,_,rfl,rfl,am_ _,by simp,start⟩
 case round=>
  obtain⟨ns,Dv,lv,r',rv',g',T',rfl,rfl,hq,hm,M⟩:=hrel;by_cases a7:ns.length<fs.length
  .have e3:(ns.length:Int)<(fs.length:Int):=M_;obtain⟨f,hf⟩:∃f,fs[ns.length]?=some f:=⟨_,aj_ a7⟩;obtain⟨b,w,fx,fd,rfl,k0,H,U,X,e4,ty⟩:=item.o _ _ _ _ _ _ _ _ _ M hf;obtain⟨w4,hw4⟩:=e_ (wr.alloc (.cells #[I_ f.place,U_ f.letter,.iface w fx,.pointer fd] 194));have A4:Fr wr w4 N_:=yd_
   have B4:Blk w4 wr.heap.size [I_ f.place,U_ f.letter,.iface w fx,.pointer fd] 194:=yx_
   have M4:=zy (b8.o _ _ _ _ _ _ _ _ w4 M A4);have z4:=A4.ke e4;have z2:=B4.c2;have d7:=ty.fr A4 u_;have hC:H_ (∀V1,Fr w4 V1 N_->Calls prog 89 #[P_ F.tb,.iface w fx] V1 (ju (dT F) (dI F) (dL F) V1 r' rv' g' T' (.ty f.ty))):=zy (λV1 b5=>call.o V1 _ _ _ _ _ _ _ _ _ _ (b8.o _ _ _ _ _ _ _ _ V1 M4 b5) hf (d7.fr b5 u_));have a0:¬TSS (dT F) (dL F) rv' r' wr.heap.size:=λe=>absurd ((d2.o _ _ _ _ _ _ _ _ M).2 _ e) (a5_ _);have a6:=zy ((d2.o _ _ _ _ _ _ _ _ M).1);replace a0:=zy a0;replace hf:=zy hf;replace hw4:=zy hw4;replace B4:=zy B4;go_wp2;rw[<- hw4.o];refine tr_ 10 (λV=>z_ V F.fb 4 (P_ F.tb)/\z_ V wr.heap.size 2 (.iface w fx)) ?_;refine tz_ 0 ?_;refine tz_ 1 ?_;refine tz_ 2 ?_;refine tz_ 3 ?_;refine tz_ 4 ?_;refine tz_ 5 ?_;refine tz_ 6 ?_;refine zh 7 rfl K_ (λ_=>⟨z4,z2⟩) (λK O=>?_);go_simp;apply(hC.o _ (A_ w4 _).drew).mono;rintro e w5 ⟨r1,rv1,g1,T1,x,rfl,hx,ha,h1,s1,G1⟩;refine O _ _ ?_;have a8:=(C_ (A_ w4 _).drew (λ_ h=>h)).trans s1;have M5:=zy (known.o _ _ _ _ _ _ _ _ w5 r1 rv1 g1 T1 M4 h1 a8 G1);have B5:=a8.1.bl B4 a0;have y4:w5.cell? ⟨F.fb,4,none⟩=some (P_ F.tb):=h1.i.cell4;have y2:=B5.c2;have e1:=e2.o _ _ _ _ _ _ _ _ x M5 hx;obtain⟨a2,e7⟩:=row.o _ _ _ _ _ _ _ _ M5;have a9:H_ (∀o E,(w5.alloc o).grownBy E lv.ownBlock->E.cell? ⟨F.fb,4,none⟩=some (P_ F.tb)/\E.cell? ⟨wr.heap.size,2,none⟩=some (.iface w fx)):=zy (λo E hg=>by
    have Z:=(A_ w5 N_).alloc o
    have hF:Fr (w5.alloc o) E (λx=>lv.ownBlock=some x):=(A_ _ _).gw hg (λk e _=>e)
    have q4:=Z.ke y4
    have b6:=hF.bl (Z.bl B5 id) (λe=>absurd (a6.o _ e).1 (a5_ _))
    have q2:=b6.c2
    refine⟨?_,q2⟩
    rw[World.cell?_of_block (hF.block F.fb (World.block_lt_of_cell? _ _ q4) (λe=>absurd (a6.o _ e).2 (a5_ _)))]
    exact q4)
   have d6:H_ (∀o E Y,E.ownsRow (W.heap.size+2) 85 2 Y (ns.length+1) (((List.range ns.length).flatMap λj=>[Z_ ((ns.getD j 0:Nat):Int),Dv j])++[I_ x.n,x.d])->(w5.alloc o).grownBy E lv.ownBlock->(Y.ownBlock=lv.ownBlock\/Y.ownBlock=some (w5.alloc o).heap.size)->l (ns++[x.n]) (λj=>if j<ns.length then Dv j else x.d) Y E r1 rv1 g1 T1):=zy (λo E Y o6 g6 l6=>next.o _ _ _ _ _ _ _ _ f x o E Y M5 hf hx ha o6 g6 l6);have e5:ns.length<=1000:=M_;generalize x.n=xn at *;generalize x.d=xd at *;replace a2:=zy a2;generalize a4:ns.length=N at *;rcases e1 with rfl|⟨dT,dx,rfl⟩;all_goals
    refine t1_ 8 ⟨y4,y2⟩ ?_;have Z:=λo=>(A_ w5 N_).alloc o;refine zh 9 rfl K_ (λ_=>⟨(Z _).ke y4,(Z _).ke y2⟩) (λK O=>?_);rw[i_ (show Region.wanted _ _=true by kernel_rfl)];refine aL _ _ rfl (B:=W.heap.size+2) (v:=lv) a2 e5 e7 rfl rfl rfl rfl rfl ?_;intro Y E o6 g6 l6;refine O _ _ ?_;have b4:=a9.o _ _ g6;have nx:=zy (d6.o _ _ _ o6 g6 l6);refine t1_ 10 b4 ?_;refine td_ ?_ _;go_wp2;go_roundg (fs.length+1-(N+1));case measure=>omega
    case rel=>exact⟨ns++[xn],_,_,_,_,_,_,rfl,by simp[a4],by simp[a4];omega,by simp[a4],nx⟩
  .have e3:¬((ns.length:Int)<(fs.length:Int)):=M_;obtain⟨H,U,X,b1,f1⟩:=fin.o _ _ _ _ _ _ _ _ M M_;obtain⟨la,lc,rfl⟩:=zw H;have hC:=zy (bC H U X M_);have l0:=b1.c0;have l1:=b1.c1;replace f1:=zy f1;replace b1:=zy b1;go_wp2_with (go_at_call 151;apply hC.o.mono;rintro e w2 ⟨v,rfl,hv,f2,v0,v1⟩;have b2:=f2.bl b1 id;have hp:=zy (f1.o w2 v f2 hv v0 v1);have q0:=b2.cell 0;have q1:=b2.cell 1;have t0:=b2.th 0;have t1:=b2.th 1;have sD:=(λW a m=>run_store prog W a v m hv.one);have B8:=(b2.set 0 (Z_ (jnN ns:Int))).set 1 v;have x0:=B8.cell 0;have x1:=B8.cell 1;simp only[an_,ap_,aa_,ab_]at q0 q1 x0 x1;generalize jnN ns=jn at *);refine bodyPost_ret (v:=.agg #[I_ jn,v]) (by simp[results,results90,go_sem,x0,x1]) rfl ?_;exact hp
end Go.Proofs.YtokgeopihcopeaaGreatDoor
