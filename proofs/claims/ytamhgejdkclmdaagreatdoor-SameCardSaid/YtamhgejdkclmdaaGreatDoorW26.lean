import Derived.Test.YtamhgejdkclmdaaGreatDoorW25
set_option maxHeartbeats 16000000
set_option maxRecDepth 100000
set_option linter.defProp false
set_option linter.unusedSimpArgs false
set_option linter.unusedVariables false
open Go.Proofs.Tryz
namespace Go.Proofs.YtamhgejdkclmdaaGreatDoor
open Go.RowKit
variable {p n c m un uc:Nat}{t:PT}{D:Df}{A:Ev}{d:Ax}{W':Aw}{s:BA}{r:Unit}{S:Az}{fs:An}
mutual
def XA:∀t:PT,xL t->xA t
 | .leaf _ _,_=>by unfold xA;trivial
 | .wrap _ _ t,h=>by unfold xA;unfold xL at h;exact XA t h
 | .alts _ l,h=>by unfold xA;unfold xL at h;exact⟨h.1,WZ l h.2⟩
def WZ:∀l:List PT,(∀t∈l,xL t)->fU l
 | [],_=>by unfold fU;trivial
 |t::r,h=>by unfold fU;exact⟨XA t (h t (by simp)),WZ r (λx hx=>h x (by simp[hx]))⟩
end
def fY{w:Aw}{P:Az}{g cap:Nat}{xs:Ay}(ho:w.ownsRow 0 195 4 (S_ g fs.length cap) fs.length xs)(h:xX w P s fs xs){q:Nat}{f:PF}(u:fs[q]?=some f):∃T x d,w.cell? ⟨g,q*4,none⟩=some (I_ f.place)/\w.cell? ⟨g,q*4+1,none⟩=some (U_ f.letter)/\w.cell? ⟨g,q*4+2,none⟩=some (.iface T x)/\w.cell? ⟨g,q*4+3,none⟩=some (.pointer d)/\TyV w P f.ty (.iface T x)/\DfV w P s f.dflt (.pointer d):=by
 obtain⟨a,b,c,d,h1,j,k,l,rfl,rfl,o,i⟩:=h q f u;obtain⟨T,x,rfl⟩:=o.iface;have hd:∃e,d=.pointer e:=by
  unfold DfV at i;split at i
  .exact⟨_,i⟩
  .obtain⟨g',v,_,e,_⟩:=i;exact⟨_,e⟩
 obtain⟨e,rfl⟩:=hd;rw[bi_]at h1 j k l;exact⟨T,x,e,zt ho rfl h1,zt ho rfl j,zt ho rfl k,zt ho rfl l,o,i⟩
def Kh{F:FD}(a:F.OK)(b:okQ F (.bd p (.recd fs))):fs.length<=300/\∀f∈fs,okQ F (.ty f.ty):=by
 obtain⟨⟨j,h1⟩,c,hc⟩:=b;have hg:=a.g c _ hc;exact⟨hg.1.1,λf hf=>⟨Xo h1 f hf,a.e c _ hc f hf,XA _ (hg.1.2.2 f hf)⟩⟩
def FN{F:FD}(a3:F.OK){W:Aw}{rv sv:Ax}{g:Ar}{T:Ds}{xs:Ay}(L:KOK (dT F) (dI F) (dL F) 88 (λv=>v.headD .nilIface) m)(h:TbI (dT F) (dI F) (dL F) W r rv g T)(ho:W.ownsRow 0 195 4 sv fs.length xs)(hP:∀g,sv.ownBlock=some g->F.P g)(hX:xX W F.P F.s fs xs)(hq:okQ F (.bd p (.recd fs)))(hm:300<=T.length+m):Calls prog 89 #[P_ F.fb,.agg #[I_ p,sv]] W (yG (dT F) (dI F) (dL F) W r rv g T (.bd p (.recd fs))):=by
 obtain⟨d8,Q_⟩:=y_ (yG (dT F) (dI F) (dL F) W r rv g T (.bd p (.recd fs)));rw[<- Q_.o];have G:=fM a3;obtain⟨f0,b9⟩:=Kh a3 hq;obtain⟨ua,uc,rfl⟩:=zw ho;obtain⟨w3,a1⟩:=e_ ((W.alloc (.cells #[I_ p,.slice ua fs.length uc] 228)).alloc (.cells #[O_,.nilIface] 93));obtain⟨l,z⟩:=e_ (RFM (dT F) (dI F) (dL F) F fs (λT f k=>fG T (.ty f.ty) k) [I_ p,.slice ua fs.length uc] 228 W r rv g T);have start:l [] (λ_=>.nilIface) (L_) w3 r rv g T:=by rw[a1,z];exact .start G h #[I_ p,.slice ua fs.length uc] 228
 have c1:=(show RFM (dT F) (dI F) (dL F) F _ _ _ _ W r rv g T _ _ _ _ _ _ _ _ from z▸start).o0.1.c1;have b7:∀x,TSS (dT F) (dL F) rv r x->F.fb<x:=λx e=>(h.li G e).1;have item:H_ (∀V r' rv' g' T' ns Dv lv f,l ns Dv lv V r' rv' g' T'->fs[ns.length]?=some f->∃b w fx fd,ua=some ⟨b,0,none⟩/\V.cell? ⟨b,ns.length*4,none⟩=some (I_ f.place)/\V.cell? ⟨b,ns.length*4+1,none⟩=some (U_ f.letter)/\V.cell? ⟨b,ns.length*4+2,none⟩=some (.iface w fx)/\V.cell? ⟨b,ns.length*4+3,none⟩=some (.pointer fd)/\V.cell? ⟨F.fb,4,none⟩=some (P_ F.tb)/\TyV V F.P f.ty (.iface w fx)):=zy (λV r' rv' g' T' ns Dv lv f M hf=>by
  rw[z]at M
  have hs:∀x,F.P x->¬TSS (dT F) (dL F) rv r x:=λx hx e=>by have:=b7 x e;have:=a3.pP x hx;omega
  have o1:=zj ho M.st.1 (λx e=>hs x (hP x e))
  obtain⟨b,e8,e⟩:=zp o1 yh_
  cases e
  obtain⟨w,fx,fd,H,O,Q,k4,k5,k6⟩:=fY o1 (hX.fr M.st.1 hs) hf
  exact⟨b,w,fx,fd,rfl,H,O,Q,k4,M.ti.i.cell4,k5⟩)
 have call:H_ (∀V r' rv' g' T' ns Dv lv f w fx,l ns Dv lv V r' rv' g' T'->fs[ns.length]?=some f->TyV V F.P f.ty (.iface w fx)->Calls prog 88 #[P_ F.tb,.iface w fx] V (jp (dT F) (dI F) (dL F) V r' rv' g' T' (.ty f.ty))):=zy (λV r' rv' g' T' ns Dv lv f w fx M hf ty=>by
  rw[z]at M
  have ok:=b9 f (ag_ hf)
  obtain⟨R,hR,_⟩:=M.gr
  exact L V r' rv' g' T' (.ty f.ty) [.iface w fx] M.ti ok ⟨⟨_,rfl,ty⟩,ok⟩ (by rw[hR,ah_];show 300<=_;omega))
 have known:H_ (∀V r' rv' g' T' ns Dv lv V1 r1 Y X U,l ns Dv lv V r' rv' g' T'->TbI (dT F) (dI F) (dL F) V1 r1 Y X U->Stp V V1 (TSS (dT F) (dL F) rv' r') (TSS (dT F) (dL F) Y r1)->Grw (dT F).Cl T' U g' X->l ns Dv lv V1 r1 Y X U):=zy (λV r' rv' g' T' ns Dv lv V1 r1 Y X U M ht hs hg=>by
  rw[z]at M⊢
  exact M.known G (λT R f k h=>h.more R) ht hs hg)
 have next:H_ (∀V r' rv' g' T' ns Dv lv f (x:Rw Qu) o C Z,l ns Dv lv V r' rv' g' T'->fs[ns.length]?=some f->x∈T'->x.a=.ty f.ty->C.ownsRow (W.heap.size+2) 93 2 Z (ns.length+1) (((List.range ns.length).flatMap λj=>[Z_ ((ns.getD j 0:Nat):Int),Dv j])++[I_ x.n,x.d])->(V.alloc o).grownBy C lv.ownBlock->(Z.ownBlock=lv.ownBlock\/Z.ownBlock=some (V.alloc o).heap.size)->l (ns++[x.n]) (λj=>if j<ns.length then Dv j else x.d) Z C r' rv' g' T'):=zy (λV r' rv' g' T' ns Dv lv f x o C Z M hf hx ha H O Q=>by
  rw[z]at M⊢
  have q:=(M.ti.t.q x hx).2.2
  have sv:=(M.ti.v x hx).1
  rw[ha]at sv
  exact M.item G hf ⟨x,hx,ha,rfl⟩ sv q.1 q.2 H O Q)
 have row:H_ (∀V r' rv' g' T' ns Dv lv,l ns Dv lv V r' rv' g' T'->V.ownsRow (W.heap.size+2) 93 2 lv ns.length ((List.range ns.length).flatMap λj=>[Z_ ((ns.getD j 0:Nat):Int),Dv j])/\W.heap.size+2<=V.heap.size):=zy (λV r' rv' g' T' ns Dv lv M=>by rw[z]at M;exact⟨M.row,by have:=M.o1.1.lt;omega⟩);have fin:H_ (∀V r' rv' g' T' ns Dv lv,l ns Dv lv V r' rv' g' T'->ns.length=fs.length->kR V lv ns Dv/\(∀i,IfV (Dv i))/\(∀n∈ns,n<=301)/\Blk V (W.heap.size+1) [O_,.nilIface] 93/\∀V1 v,Fr V V1 N_->IfV v->(jnN ns=0\/jnN ns=301->v=.nilIface)->(1<=jnN ns->jnN ns<=300->RcR (V.heap.size+2) ns.length Dv v V1)->d8 (.returned (.agg #[Z_ (jnN ns:Int),v])) ((V1.setCell ⟨W.heap.size+1,0,none⟩ (Z_ (jnN ns:Int))).setCell ⟨W.heap.size+1,1,none⟩ v)):=zy (λV r' rv' g' T' ns Dv lv M hl=>by
  rw[z]at M
  refine⟨yr M.row,M.iv,M.le,M.o1.1,λV1 v hf hv h0 h1=>?_⟩
  rw[Q_.o]
  have hF:=J_ V1 (W.heap.size+1) 0 1 (Z_ (jnN ns:Int)) v
  have M1:=M.new G hf
  have e9:(dL F).fb<W.heap.size:=M.f
  have a7:(dL F).fb<W.heap.size+1:=M_
  have t1:=M1.ti.put G a7 M1.o1.1 hF
  have e6:svD F V1 (λy=>¬TSS (dT F) (dL F) rv' r' y) (QD F (.bd p (.recd fs))) (QT F (.bd p (.recd fs))) (jnN ns) v:=by
   refine svD.recd (F:=F) (V:=V) (J:=λy=>¬TSS (dT F) (dL F) rv' r' y) (Dj:=λj d=>∀f,fs[j]?=some f->Dat (zx F.ds) d f.ty) (B:=V.heap.size+2) hl (λj k f e e'=>?_) (λds hd d9 u hu=>?_) (λu hu=>?_) (λx d u hx=>?_) (λx hx f6 e=>?_) h0 h1
   .have:=(M.kn j k f e e').2
    exact⟨this.1,λe0=>by
     obtain⟨y,y1,y2,y3⟩:=this.2 e0
     exact⟨y,λf' ef=>by rw[e']at ef;cases ef;exact y1 _ rfl,y2,y3⟩⟩
   .obtain⟨c,p',rfl,hb,hc⟩:=hu
    exact .recd hc hb hd (λi d t e e'=>by
     rw[as_]at e'
     cases a5:fs[i]? with
     |none=>rw[a5]at e';cases e'
     |some f=>rw[a5]at e';cases e';exact d9 i d e f a5)
   .obtain⟨c,p',rfl,hb,hc⟩:=hu
    exact⟨c,p',rfl,hc⟩
   .exact(hx.fr hf u_)
   .have:=(M.ti.li G e).2
    omega
  have hs:=M1.st
  refine⟨r',rv',g',T',jnN ns,v,rfl,iW ns,hv,t1,⟨hs.1.trans hF (λx hx e=>M_),hs.2⟩,M.gr,⟨ns,hl,λq f k e e'=>(M.kn q k f e' e).1,rfl⟩,svD.put e6 M1.o1.1 D_ D_ hF⟩)
 replace start:=zy start;replace a1:=zy a1;have b8:H_ (∀V r' rv' g' T' ns Dv lv V1,l ns Dv lv V r' rv' g' T'->Fr V V1 N_->l ns Dv lv V1 r' rv' g' T'):=zy (λV r' rv' g' T' ns Dv lv V1 M hf=>by rw[z]at M⊢;exact M.new G hf);have e2:H_ (∀V r' rv' g' T' ns Dv lv (x:Rw Qu),l ns Dv lv V r' rv' g' T'->x∈T'->IfV x.d):=zy (λV r' rv' g' T' ns Dv lv x M hx=>by rw[z]at M;exact(M.ti.t.q x hx).2.2.2);have d2:H_ (∀V r' rv' g' T' ns Dv lv,l ns Dv lv V r' rv' g' T'->(∀x,lv.ownBlock=some x->x<V.heap.size/\F.fb<x)/\∀x,TSS (dT F) (dL F) rv' r' x->x<V.heap.size):=zy (λV r' rv' g' T' ns Dv lv M=>by
  rw[z]at M
  exact⟨λx e=>⟨(M.row.lt x e).2,by have:=(M.row.lt x e).1;have:F.fb<W.heap.size:=M.f;omega⟩,λx e=>(M.ti.li G e).2⟩)
 replace z:=zy z;go_in;go_upto_region 1 with fail;rw[<- a1.o];go_wp2;go_loopg [5,11] (fs.length+1) (λm Z v V=>∃ns Dv lv r' rv' g' T',lv=Z/\v=Z_ ((ns.length:Nat):Int)/\ns.length<=fs.length/\fs.length+1-ns.length<=m/\H_ (l ns Dv lv V r' rv' g' T'));case atStart=>exact⟨[],_,_,_,_,_,_,rfl,rfl,al_ _,by simp,start⟩
 case round=>
  obtain⟨ns,Dv,lv,r',rv',g',T',rfl,rfl,hq,hm,M⟩:=hrel;by_cases a7:ns.length<fs.length
  .have e3:(ns.length:Int)<(fs.length:Int):=M_;obtain⟨f,hf⟩:∃f,fs[ns.length]?=some f:=⟨_,ak_ a7⟩;obtain⟨b,w,fx,fd,rfl,k0,H,O,Q,e4,ty⟩:=item.o _ _ _ _ _ _ _ _ _ M hf;obtain⟨w4,hw4⟩:=e_ (wr.alloc (.cells #[I_ f.place,U_ f.letter,.iface w fx,.pointer fd] 195));have A4:Fr wr w4 N_:=y9_
   have B4:Blk w4 wr.heap.size [I_ f.place,U_ f.letter,.iface w fx,.pointer fd] 195:=yx_
   have M4:=zy (b8.o _ _ _ _ _ _ _ _ w4 M A4);have z4:=A4.ke e4;have z2:=B4.c2;have d7:=ty.fr A4 u_;have hC:H_ (∀V1,Fr w4 V1 N_->Calls prog 88 #[P_ F.tb,.iface w fx] V1 (jp (dT F) (dI F) (dL F) V1 r' rv' g' T' (.ty f.ty))):=zy (λV1 b5=>call.o V1 _ _ _ _ _ _ _ _ _ _ (b8.o _ _ _ _ _ _ _ _ V1 M4 b5) hf (d7.fr b5 u_));have a0:¬TSS (dT F) (dL F) rv' r' wr.heap.size:=λe=>absurd ((d2.o _ _ _ _ _ _ _ _ M).2 _ e) (a5_ _);have a6:=zy ((d2.o _ _ _ _ _ _ _ _ M).1);replace a0:=zy a0;replace hf:=zy hf;replace hw4:=zy hw4;replace B4:=zy B4;go_wp2;rw[<- hw4.o];refine tr_ 10 (λV=>z_ V F.fb 4 (P_ F.tb)/\z_ V wr.heap.size 2 (.iface w fx)) ?_;refine tz_ 0 ?_;refine tz_ 1 ?_;refine tz_ 2 ?_;refine tz_ 3 ?_;refine tz_ 4 ?_;refine tz_ 5 ?_;refine tz_ 6 ?_;refine zh 7 rfl K_ (λ_=>⟨z4,z2⟩) (λK L=>?_);go_simp;apply(hC.o _ (A_ w4 _).drew).mono;rintro e C ⟨r1,Y,X,U,x,rfl,hx,ha,h1,s1,G1⟩;refine L _ _ ?_;have a8:=(E_ (A_ w4 _).drew (λ_ h=>h)).trans s1;have M5:=zy (known.o _ _ _ _ _ _ _ _ C r1 Y X U M4 h1 a8 G1);have B5:=a8.1.bl B4 a0;have y4:C.cell? ⟨F.fb,4,none⟩=some (P_ F.tb):=h1.i.cell4;have y2:=B5.c2;have e1:=e2.o _ _ _ _ _ _ _ _ x M5 hx;obtain⟨a2,e7⟩:=row.o _ _ _ _ _ _ _ _ M5;have a9:H_ (∀o E,(C.alloc o).grownBy E lv.ownBlock->E.cell? ⟨F.fb,4,none⟩=some (P_ F.tb)/\E.cell? ⟨wr.heap.size,2,none⟩=some (.iface w fx)):=zy (λo E hg=>by
    have A5:=(A_ C N_).alloc o
    have hF:Fr (C.alloc o) E (λx=>lv.ownBlock=some x):=(A_ _ _).gw hg (λk e _=>e)
    have q4:=A5.ke y4
    have b6:=hF.bl (A5.bl B5 id) (λe=>absurd (a6.o _ e).1 (a5_ _))
    have q2:=b6.c2
    refine⟨?_,q2⟩
    rw[World.cell?_of_block (hF.block F.fb (World.block_lt_of_cell? _ _ q4) (λe=>absurd (a6.o _ e).2 (a5_ _)))]
    exact q4)
   have d6:H_ (∀o E v6,E.ownsRow (W.heap.size+2) 93 2 v6 (ns.length+1) (((List.range ns.length).flatMap λj=>[Z_ ((ns.getD j 0:Nat):Int),Dv j])++[I_ x.n,x.d])->(C.alloc o).grownBy E lv.ownBlock->(v6.ownBlock=lv.ownBlock\/v6.ownBlock=some (C.alloc o).heap.size)->l (ns++[x.n]) (λj=>if j<ns.length then Dv j else x.d) v6 E r1 Y X U):=zy (λo E v6 o6 g6 l6=>next.o _ _ _ _ _ _ _ _ f x o E v6 M5 hf hx ha o6 g6 l6);have e5:ns.length<=1000:=M_;generalize x.n=xn at *;generalize x.d=xd at *;replace a2:=zy a2;generalize a4:ns.length=N at *;rcases e1 with rfl|⟨dT,dx,rfl⟩;all_goals
    refine t1_ 8 ⟨y4,y2⟩ ?_;have A5:=λo=>(A_ C N_).alloc o;refine zh 9 rfl K_ (λ_=>⟨(A5 _).ke y4,(A5 _).ke y2⟩) (λK L=>?_);rw[i_ (show Region.wanted _ _=true by kernel_rfl)];refine aN _ _ rfl (B:=W.heap.size+2) (v:=lv) a2 e5 e7 rfl rfl rfl rfl rfl ?_;intro v6 E o6 g6 l6;refine L _ _ ?_;have b4:=a9.o _ _ g6;have nx:=zy (d6.o _ _ _ o6 g6 l6);refine t1_ 10 b4 ?_;refine td_ ?_ _;go_wp2;go_roundg (fs.length+1-(N+1));case measure=>omega
    case rel=>exact⟨ns++[xn],_,_,_,_,_,_,rfl,by simp[a4],by simp[a4];omega,by simp[a4],nx⟩
  .have e3:¬((ns.length:Int)<(fs.length:Int)):=M_;obtain⟨H,O,Q,b1,f1⟩:=fin.o _ _ _ _ _ _ _ _ M M_;obtain⟨la,lc,rfl⟩:=zw H;have hC:=zy (bP H O Q M_);have l0:=b1.c0;have l1:=b1.c1;replace f1:=zy f1;replace b1:=zy b1;go_wp2_with (go_at_call 130;apply hC.o.mono;rintro e w2 ⟨v,rfl,hv,f2,v0,v1⟩;have b2:=f2.bl b1 id;have hp:=zy (f1.o w2 v f2 hv v0 v1);have q0:=b2.cell 0;have q1:=b2.cell 1;have t0:=b2.th 0;have t1:=b2.th 1;have sD:=(λW a m=>run_store prog W a v m hv.one);have B8:=(b2.set 0 (Z_ (jnN ns:Int))).set 1 v;have x0:=B8.cell 0;have x1:=B8.cell 1;simp only[am_,ao_,aa_,ab_]at q0 q1 x0 x1;generalize jnN ns=jn at *);refine bodyPost_ret (v:=.agg #[I_ jn,v]) (by simp[results,results89,go_sem,x0,x1]) rfl ?_;exact hp
def NoD(W:Aw)(S:Az):Prop:=∀x cs T p,S x->W.heap[x]?=some (.cells cs T p)->T≠64/\T≠206
def bh{W:Aw}{B k x:Nat}{e:Av}{lv:Ax}{ys:Ay}(h:W.ownsRow B e k lv n ys)(hx:lv.ownBlock=some x):∃cs,W.heap[x]?=some (.cells cs e):=by
 rcases h.2 with⟨e',_⟩|⟨g',f,a,e',_,b,_⟩
 .subst e';simp[Value.ownBlock]at hx
 .subst e';simp only[Value.ownBlock,af_]at hx;subst hx;exact⟨a,b⟩
def DaV.not{env:Au}{W:Aw}{J:Az}{d:DT}{v:Ax}(h:DaV env W J d t v)(a:NoD W S):DaV env W (λx=>J x/\¬S x) d t v:=by
 induction h with
 |flat h hs=>exact .flat h hs
 |branch n h hd ih=>exact .branch n h ih
 |row Y hc ho hP hd ih=>exact .row Y hc ho (λg e=>⟨hP g e,λk=>by obtain⟨cs,hc⟩:=bh ho e;exact(a _ _ _ _ k hc).1 rfl⟩) ih
 |map Y hl hk ho hP hd ih=>exact .map Y hl hk ho (λg e=>⟨hP g e,λk=>by obtain⟨cs,hc⟩:=bh ho e;exact(a _ _ _ _ k hc).2 rfl⟩) ih
def svD.not{F:FD}{W:Aw}{J:Az}(h:svD F W J D A n d)(a:NoD W S):svD F W (λx=>J x/\¬S x) D A n d:=by
 refine⟨h.1,λe=>?_⟩;obtain⟨x,b,f,i⟩:=h.2 e;exact⟨x,b,f,λe' u hu=>(i e' u hu).not a⟩
def svD.mono{F:FD}{W:Aw}{J b:Az}{a:Df}(h:svD F W J D A n d)(i:∀x,J x->b x)(f:∀x,D x->a x):svD F W b a A n d:=by
 refine⟨h.1,λe=>?_⟩;obtain⟨x,j,k,l⟩:=h.2 e;exact⟨x,f x j,k,λe' u hu=>(l e' u hu).mono (λg _=>i g)⟩
def svD.frS{F:FD}{W:Aw}{J:Az}(h:svD F W J D A n d)(hf:Fr W W' S)(a:NoD W S):svD F W' J D A n d:=by
 refine⟨h.1,λe=>?_⟩;obtain⟨x,b,f,i⟩:=h.2 e;exact⟨x,b,f,λe' u hu=>(((i e' u hu).not a).fr hf (λg hg=>hg.2)).mono (λg _ hg=>hg.1)⟩
section
variable {α β:Type} {I:TI α} {I':TI β} {fb tb mb fb' tb' mb':Nat} {kf ff rv kf' ff' rv':Ax} {W:Aw} {g g':Ar} {T:List (Rw α)} {T':List (Rw β)}
def TbW.noD(h:TbW I fb tb mb kf ff W rv g T)(h1:I.TT≠64/\I.TT≠206)(a:I.RT≠64/\I.RT≠206):NoD W (TbS tb mb rv):=λ_ _ _ _ hx hc=>
 ⟨λe=>h.ot hc (e▸h1.1.symm) (e▸a.1.symm) hx,λe=>h.ot hc (e▸h1.2.symm) (e▸a.2.symm) hx⟩
def TbW.two(h:TbW I fb tb mb kf ff W rv g T)(k:TbW I' fb' tb' mb' kf' ff' W rv' g' T')(h1:I.TT≠I'.TT)(f:I.TT≠I'.RT)(i:I.RT≠I'.TT)(j:I.RT≠I'.RT)(hm:mb≠mb'):∀x,TbS tb mb rv x->¬TbS tb' mb' rv' x:=by
 rintro x (rfl|rfl|e)
 .have:=h.b;unfold Blk at this;exact k.ot this h1 f
 .obtain⟨D,⟨es,c,a,_⟩,_⟩:=h.map;rintro(rfl|rfl|e)
  .have:=k.b;unfold Blk at this;rw[this]at a;cases a
  .exact hm rfl
  .obtain⟨cs,hc⟩:=bh k.row e;rw[hc]at a;cases a
 .obtain⟨cs,hc⟩:=bh h.row e;exact k.ot hc i j
end
@[reducible] def IU {α:Type}(kv:α->Value) (Q:α->Prop) (num:α->Nat) (N:Nat):TI α:=⟨137,240,101,2,kv,Q,num,N⟩
def okY(F:FD)(y:PT):Prop:=wG F.s' y/\okT (zx F.ds') y/\xA y
def uQ(F:FD)(a:Es):Prop:=okQ F (.ty a.1)/\okY F a.2
def kvU(a:Es):Value:=.agg #[I_ a.1.place,I_ a.2.place]
def uI(F:FD):TI (PT×PT):=IU kvU (uQ F) (λa=>a.1.place*300+a.2.place) 90000
def LL(F:FD)(t:PT)(k:Nat):Prop:=∀d,Dat (zx F.ds) d t->kn k (ndT d)
def ll{F:FD}{T:Ds}(b:Gd (ClD F) T){x:Rw Qu}(hx:x∈T)(ha:x.a=.ty t):LL F t x.n:=λ_ hd=>(Zi b).all hd x.n ⟨x,hx,ha,rfl⟩
structure ClU(F:FD)(T:Ai)(a:Es)(v:Nat):Prop where
 alts0:∀p ws,a.1=.alts p ws->∀w1∈ws,∃k,fG T (w1,a.2) k/\le0 v (jnN [k])
 never:a.1.isAlts=false->Nev (zx F.ds) (zx F.ds') a.1 a.2->∃k,LL F a.1 k/\le0 v k
 items:∀c p p' u u',a.1=.wrap c p u->Via (zx F.ds) (zx F.ds') a.1 a.2 (.wrap c p' u')->∃k,fG T (u,u') k/\le0 v (jnN [k])
 sym:∀c p p' lw lr ow o q,a.1=.leaf c p->Via (zx F.ds) (zx F.ds') a.1 a.2 (.leaf c p')->zr c=false->zx F.ds c=some (.enum lw ow)->zx F.ds' c=some (.enum lr o)->q<lw.length->jY lr o ((lw.map Prod.fst).getD q 0)=none->le0 v 1
 field:∀c p p' fw fr g i h,a.1=.leaf c p->Via (zx F.ds) (zx F.ds') a.1 a.2 (.leaf c p')->zr c=false->zx F.ds c=some (.recd fw)->zx F.ds' c=some (.recd fr)->g∈fr->vu fw g.letter=some i->fw[i]?=some h->∃(ks:List Nat),ks.length=fw.length/\(∀(q:Nat) (f:PF) (k:Nat),fw[q]?=some f->ks[q]?=some k->if q=i then fG T (h.ty,g.ty) k else LL F f.ty k)/\le0 v (jnN ks)
 lack:∀c p p' fw fr g,a.1=.leaf c p->Via (zx F.ds) (zx F.ds') a.1 a.2 (.leaf c p')->zr c=false->zx F.ds c=some (.recd fw)->zx F.ds' c=some (.recd fr)->g∈fr->vu fw g.letter=none->g.dflt=none->∃(ks:List Nat),ks.length=fw.length/\(∀(q:Nat) (f:PF) (k:Nat),fw[q]?=some f->ks[q]?=some k->LL F f.ty k)/\le0 v (jnN ks)
def WA(F:FD):QZ (ClU F):=by
 intro T R a v h;refine⟨λp ws e w1 hw=>?_,h.never,λc p p' u u' e hv=>?_,h.sym,λc p p' fw fr g i E l o w x y z B C=>?_,h.lack⟩
 .obtain⟨k,h1,b⟩:=h.alts0 p ws e w1 hw;exact⟨k,h1.more R,b⟩
 .obtain⟨k,h1,b⟩:=h.items c p p' u u' e hv;exact⟨k,h1.more R,b⟩
 .obtain⟨ks,h1,b,G⟩:=h.field c p p' fw fr g i E l o w x y z B C;refine⟨ks,h1,λq f k e e'=>?_,G⟩;have:=b q f k e e';split at this
  .rename_i j;rw[i_ j];exact this.more R
  .rename_i j;rw[n_ j];exact this
def ay{F:FD}{T:Ai}(h:Gd (ClU F) T):ClP (zx F.ds) (zx F.ds') (LL F) (λx y n=>fG T (x,y) n):=by
 have f:∀{x y n},fG T (x,y) n->∃v,ClU F T (x,y) v/\le0 n v:=λ{x y n} hk=>by
  obtain⟨r,H,K,rfl⟩:=hk;obtain⟨v,h1,a⟩:=h r H;rw[K]at h1;exact⟨v,h1,po a⟩
 refine⟨λp ws y n hk w1 hw=>?_,λx y n hk hx hv=>?_,λc p p' u u' y n hk hv=>?_,λc p p' y n lw lr ow o q hk hv j l w z B=>?_,λc p p' y n fw fr g i G hk hv j l w z B C=>?_,λc p p' y n fw fr g hk hv j l w z B C=>?_⟩
 .obtain⟨v,h1,a⟩:=f hk;obtain⟨k,b,e⟩:=h1.alts0 p ws rfl w1 hw;exact⟨k,b,a.trans e⟩
 .obtain⟨v,h1,a⟩:=f hk;obtain⟨k,b,e⟩:=h1.never hx hv;exact⟨k,b,a.trans e⟩
 .obtain⟨v,h1,a⟩:=f hk;obtain⟨k,b,e⟩:=h1.items c p p' u u' rfl hv;exact⟨k,b,a.trans e⟩
 .obtain⟨v,h1,a⟩:=f hk;exact a.trans (h1.sym c p p' lw lr ow o q rfl hv j l w z B)
 .obtain⟨v,h1,a⟩:=f hk;obtain⟨ks,b,e,E⟩:=h1.field c p p' fw fr g i G rfl hv j l w z B C;exact⟨ks,b,e,a.trans E⟩
 .obtain⟨v,h1,a⟩:=f hk;obtain⟨ks,b,e,E⟩:=h1.lack c p p' fw fr g rfl hv j l w z B C;exact⟨ks,b,e,a.trans E⟩
def uqv(F:FD)(W:Aw)(a:Es)(v:Ay):Prop:=∃u u',v=[u,u']/\TyV W F.P a.1 u/\TyV W F.P' a.2 u'
def uqv.fr{F:FD}(b:F.OK){W:Aw}{a:Es}{v:Ay}(h:uqv F W a v)(hf:Fr W W' S)(f:∀x,S x->F.fb<x):uqv F W' a v:=by
 obtain⟨u,u',e,h1,i⟩:=h;exact⟨u,u',e,h1.fr hf (λx hx e=>by have:=f x e;have:=b.pP x hx;omega),i.fr hf (λx hx e=>by have:=f x e;have:=b.pP' x hx;omega)⟩
abbrev UD(F:FD)(a:Es):DT->Prop:=Un (zx F.ds) (zx F.ds') a.1 a.2
abbrev UA(a:Es):PT->Prop:=λu=>u=a.1
def uT(F:FD):TP (PT×PT) (Value×List (Rw Qu)):=⟨λW r=>TbI (dT F) (dI F) (dL F) W () r.1 false r.2/\Gd (ClD F) r.2,λr x=>TbS F.tb F.mb r.1 x,λW J a n d=>svD F W J (UD F a) (UA a) n d,λW a v=>uqv F W a v/\uQ F a,ClU F⟩
def uL(F:FD):TL:=⟨F.fb,F.tu,F.mu,.func (.func 51) #[] #[],.func (.func 52) #[P_ F.fb] #[]⟩
def Mi{F:FD}{W:Aw}{rv:Ax}{g:Ar}{T:Ai}(h:TbW (uI F) (uL F).fb (uL F).tb (uL F).mb (uL F).kf (uL F).ff W rv g T):NoD W (TbS F.tu F.mu rv):=
 h.noD (by show 137≠_/\137≠_;decide) (by show 240≠_/\240≠_;decide)
def oR{F:FD}(a:F.OK){W:Aw}{rv rv':Ax}{g g':Ar}{T:Ds}{T':Ai}(h:TbW (dI F) (dL F).fb (dL F).tb (dL F).mb (dL F).kf (dL F).ff W rv g T)(k:TbW (uI F) (uL F).fb (uL F).tb (uL F).mb (uL F).kf (uL F).ff W rv' g' T'):∀x,TbS F.tb F.mb rv x->¬TbS F.tu F.mu rv' x:=
 h.two k (by show 210≠137;decide) (by show 210≠240;decide) (by show 287≠137;decide) (by show 287≠240;decide) a.mm
def vC{F:FD}(b:F.OK):(uT F).OK (uI F) (uL F) where
 rs:=λW r x h hx=>h.1.t.li hx
 rfr:=λW W' r rv g T h f hf=>
  ⟨⟨h.1.i.fr b hf (λx hx=>(f.li hx).1),h.1.t.fr hf (λx hx=>oR b h.1.t f x hx),λx hx=>⟨svD.frS (h.1.v x hx).1 hf (Mi f),qvD.fr b (h.1.v x hx).2.1 hf (λx hx=>(f.li hx).1),(h.1.v x hx).2.2⟩⟩,h.2⟩
 rnew:=λW W' r h hf=>⟨h.1.new (fM b) hf,h.2⟩
 sv:=λW W' S S' a n d h hs=>svD.stp h hs
 qv:=λW W' S a v h hf j=>⟨h.1.fr b hf j,h.2⟩
 mono:=WA F
 z:=λW J a=>⟨λ_=>rfl,λe=>absurd rfl e⟩
 put:=λW W' r q cs k h hb hf=>⟨h.1.put (fM b) k hb hf,h.2⟩
 svp:=λW W' J a n d q cs h hb hf=>svD.put h hb D_ D_ hf
 tt:=⟨by show 137≠_;decide,by show 240≠_;decide⟩
def TbI.data{F:FD}(k:F.OK){W:Aw}{r:Bt}{rv b:Ax}{g:Ar}{T:Ai}{a:Ds}(h:TbI (uT F) (uI F) (uL F) W r rv g T)(o:TbI (dT F) (dI F) (dL F) W' () b false a)(hs:Stp W W' (TSS (dT F) (dL F) r.1 ()) (TSS (dT F) (dL F) b ()))(hg:Gd (ClD F) a):TbI (uT F) (uI F) (uL F) W' (b,a) rv g T/\Stp W W' (TSS (uT F) (uL F) rv r) (TSS (uT F) (uL F) rv (b,a)):=by
 have j:∀rv x,TSS (dT F) (dL F) rv () x->TbS F.tb F.mb rv x:=λrv x h=>h.elim id (λf=>f.elim);have l:Stp W W' (TSS (uT F) (uL F) rv r) (TSS (uT F) (uL F) rv (b,a)):=⟨hs.1.mono (λx _ e=>.inr (j _ x e)),λx hx e=>e.elim .inl (λe=>.inr (j _ x (hs.2 x hx (.inl e))))⟩;refine⟨⟨⟨o,hg⟩,h.t.fr hs.1 (λx hx e=>oR k h.i.1.t h.t x (j _ x e) hx),λx hx=>⟨svD.stp (h.v x hx).1 l,(h.v x hx).2.1.fr k hs.1 (λx hx=>(h.i.1.t.li (j _ x hx)).1),(h.v x hx).2.2⟩⟩,l⟩
def svD.data{F:FD}{W:Aw}{rv a:Ax}{g:Ar}{T:Ai}{b:Ds}(h:TbI (uT F) (uI F) (uL F) W (a,b) rv g T)(hv:svD F W (λy=>¬TSS (dT F) (dL F) a () y) D A n d):svD F W (λy=>¬TSS (uT F) (uL F) rv (a,b) y) D A n d:=
 (hv.not (Mi h.t)).mono (λ_ hx e=>e.elim hx.2 (λe=>hx.1 (.inl e))) (λ_ h=>h)
def VV:∀{n i:Nat}{l:List (Nat×Nat)}{j:Nat},jh s n i=.ok (l,j)->∃c q r,l=(c,q)::r
 | 0,i,l,j,h=>by simp[jh]at h
 |n+1,i,l,j,h=>by
  unfold jh at h;split at h
  .split at h
   .split at h
    .cases h
    .simp only[ae_,ac_]at h;exact⟨_,_,_,h.1.symm⟩
   .simp only[ae_,ac_]at h;exact⟨_,_,_,h.1.symm⟩
  .cases h
def Fm{l:As}{o:Ac}(h:pB s p (.enum l o)):∃c q r,l=(c,q)::r:=by
 obtain⟨j,h⟩:=h;unfold yK at h;split at h
 .split at h<;>cases h
 .split at h
  .split at h
   .cases h
   .rename_i a e j' hp;simp only[ae_,ac_,PB.enum.injEq]at h;obtain⟨⟨rfl,rfl⟩,_⟩:=h;unfold xl at hp;split at hp
    .split at hp
     .cases hp
     .rename_i l1 b hs;have hl:l1=a:=by
       split at hp
       .split at hp
        .split at hp
         .simp only[ae_,ac_]at hp;exact hp.1.1
         .cases hp
        .cases hp
       .split at hp
        .simp only[ae_,ac_]at hp;exact hp.1.1
        .cases hp
      subst hl;exact VV hs
    .cases hp
  .split at h
   .split at h<;>cases h
   .cases h
def aL(h:pB s p (.bytes n)):n<=9:=by
 obtain⟨j,h⟩:=h;unfold yK at h;split at h
 .split at h<;>cases h
 .split at h
  .split at h<;>cases h
  .split at h
   .split at h
    .simp only[ae_,ac_,PB.bytes.injEq]at h;omega
    .cases h
   .cases h
def svD.conv{F:FD}{W:Aw}{J:Az}{b:Df}{a:Ev}(h:svD F W J D A n d)(i:∀x,D x->b x)(f:∀u,a u->A u):svD F W J b a n d:=by
 refine⟨h.1,λe=>?_⟩;obtain⟨x,j,k,l⟩:=h.2 e;exact⟨x,i x j,k,λe' u hu=>l e' u (f u hu)⟩
def svD.leaf{F:FD}{W:Aw}{J:Az}{q:Qu}{x:DT}{v:Ax}(h1:ndT x=1)(h:∀u,QT F q u->Dat (zx F.ds) x u/\DaV (zx F.ds) W J x u v):svD F W J (QD F q) (QT F q) 1 v:=
 ⟨λe=>M_,λ_=>⟨x,λu hu=>(h u hu).1,by unfold nd3;rw[h1];rfl,λ_ u hu=>(h u hu).2⟩⟩
def yG.leaf{F:FD}(f:F.OK){W:Aw}{rv:Ax}{g:Ar}{T:Ds}{a:Qu}{b:Av}{e:Ax}(h:TbI (dT F) (dI F) (dL F) W r rv g T)(hf:Fr W W' N_)(hc:ClD F T a 1)(hv:∀J,svD F W' J (QD F a) (QT F a) 1 (.iface b e)):yG (dT F) (dI F) (dL F) W r rv g T a (.returned (.agg #[Z_ 1,.iface b e])) W':=
 ⟨r,rv,g,T,1,.iface b e,rfl,M_,.inr ⟨_,_,rfl⟩,h.new (fM f) hf,E_ hf (λ_ h=>h),Grw.refl _ _,hc,hv _⟩
def jp.name{F:FD}{W:Aw}{rv:Ax}{g:Ar}{T:Ds}{p':Nat}{X:PB}{e:Ak}(hb:zr c=false)(hc:zx F.ds c=some X)(h:jp (dT F) (dI F) (dL F) W r rv g T (.bd p' X) e W'):yG (dT F) (dI F) (dL F) W r rv g T (.ty (.leaf c p)) e W':=by
 obtain⟨r',rv',g',T',x,rfl,hx,ha,a,hs,hg⟩:=h;have b:=(a.t.q x hx).2.2;refine⟨r',rv',g',T',x.n,x.d,rfl,b.1,b.2,a,hs,hg,?_,?_⟩
 .show ClD F T' (.ty (.leaf c p)) x.n;simp only[ClD];rw[n_ zs_];exact⟨p',X,hc,x,hx,ha,rfl⟩
 .have h1:=(a.v x hx).1;rw[ha]at h1;exact svD.conv h1 (λy hy u hu=>hy u ⟨c,p,hu,hb,hc⟩) (λu hu=>⟨c,p,hu,hb,hc⟩)
def ql:Prop:=∀(W:World) (n:Nat),n<=9->Calls prog 90 #[.string ⟨#[97]⟩,I_ n] W λe w'=>∃x,e=.returned (.string x)/\Fr W w' N_/\x.size=n/\dc x
section
variable {F:FD} {W:Aw} {J:Az}
def BM:svD F W J (QD F (.ty (.leaf 110 p))) (QT F (.ty (.leaf 110 p))) 1 (.iface 139 (.agg #[])):=
 .leaf (x:=.mk 110 0 noB [] []) rfl (λu hu=>by obtain rfl:u=_:=hu;exact⟨.null,.flat .nothing (λn l e=>by cases e)⟩)
def BP:svD F W J (QD F (.ty (.leaf 116 p))) (QT F (.ty (.leaf 116 p))) 1 (.iface 140 (.bool false)):=
 .leaf (x:=.mk 116 0 noB [] []) rfl (λu hu=>by obtain rfl:u=_:=hu;exact⟨.bool (n:=0) M_,.flat (.truth false) (λn l e=>by cases e)⟩)
def BL:svD F W J (QD F (.ty (.leaf 105 p))) (QT F (.ty (.leaf 105 p))) 1 (.iface 142 (O_)):=
 .leaf (x:=.mk 105 0 noB [] []) rfl (λu hu=>by obtain rfl:u=_:=hu;exact⟨.num M_ M_,.flat (.num 105 0 (.inl rfl) M_ M_) (λn l e=>by cases e)⟩)
def BC:svD F W J (QD F (.ty (.leaf 108 p))) (QT F (.ty (.leaf 108 p))) 1 (.iface 142 (O_)):=
 .leaf (x:=.mk 108 0 noB [] []) rfl (λu hu=>by obtain rfl:u=_:=hu;exact⟨.long M_ M_,.flat (.num 108 0 (.inr rfl) M_ M_) (λn l e=>by cases e)⟩)
def BU:svD F W J (QD F (.ty (.leaf 115 p))) (QT F (.ty (.leaf 115 p))) 1 (.iface 144 (.string ⟨#[]⟩)):=
 .leaf (x:=.mk 115 0 ⟨#[]⟩ [] []) rfl (λu hu=>by obtain rfl:u=_:=hu;exact⟨.text (λk hk=>absurd hk (Nat.not_lt_zero k)) (by show(0:Nat)<=_;omega),.flat (.text _ (by show(0:Nat)<=_;omega)) (λn l e=>by cases e)⟩)
def MZ:svD F W J (QD F (.ty (.wrap 91 p t))) (QT F (.ty (.wrap 91 p t))) 1 (.iface 147 (L_)):=
 .leaf (x:=.mk 91 0 noB [] []) rfl (λu hu=>by obtain rfl:u=_:=hu;exact⟨.list x8_ (λd hd=>by simp at hd),.row (λ_=>.nilIface) (.inl ⟨rfl,rfl⟩) (World.ownsRow_nil _ _ _ _) (λg e=>by simp[Value.ownBlock]at e) (λi d e=>by simp at e)⟩)
def BF:svD F W J (QD F (.ty (.wrap 123 p t))) (QT F (.ty (.wrap 123 p t))) 1 (.iface 150 (L_)):=
 .leaf (x:=.mk 123 0 noB [] []) rfl (λu hu=>by obtain rfl:u=_:=hu;exact⟨.map x8_ rfl trivial (λd hd=>by simp at hd),.map (λ_=>.nilIface) rfl (λk hk=>by simp at hk) (World.ownsRow_nil _ _ _ _) (λg e=>by simp[Value.ownBlock]at e) (λi d e=>by simp at e)⟩)
def GI{q:Nat}{l:As}{o:Ac}(hc:c<256):svD F W J (QD F (.bd p (.enum ((c,q)::l) o))) (QT F (.bd p (.enum ((c,q)::l) o))) 1 (.iface 157 (.agg #[U_ c,O_])):=
 .leaf (x:=.mk 101 ((0:Nat):Int) noB [] []) rfl (λu hu=>by
  obtain⟨k,p',rfl,hb,he⟩:=hu
  refine⟨.sym he hb x8_,.flat (.sym 0 c M_) (λn a e=>?_)⟩
  simp only[Value.iface.injEq,Value.agg.injEq,true_and,Array.mk.injEq,List.cons.injEq,Value.int.injEq,and_true]at e
  obtain⟨b,f⟩:=e
  obtain rfl:n=0:=M_
  obtain rfl:a=c:=M_
  exact⟨by simp[fW,he],hc⟩)
def Kx{x:BA}(hx:dc x)(a:x.size<=9):svD F W J (QD F (.bd p (.bytes x.size))) (QT F (.bd p (.bytes x.size))) 1 (.iface 158 (.string x)):=
 .leaf (x:=.mk 102 0 x [] []) rfl (λu hu=>by
  obtain⟨k,p',rfl,hb,he⟩:=hu
  exact⟨.bytes he hb hx,.flat (.bytes x M_) (λn l e=>by cases e)⟩)
end
def kH(W:Aw)(R:Co)(e:Ak)(w2:Aw):Prop:=∃(n:Nat) (d:Value),e=.returned (.agg #[I_ n,d])/\IfV d/\Blk w2 W.heap.size [O_,.nilIface] 93/\R (.returned (.agg #[I_ n,d])) ((w2.setCell ⟨W.heap.size,0,none⟩ (I_ n)).setCell ⟨W.heap.size,1,none⟩ d)
def yG.ret{α ρ:Type}{P:TP α ρ}{I:TI α}{L:TL}(b:P.OK I L){W f k:Aw}{r:ρ}{rv:Ax}{g:Ar}{T:List (Rw α)}{a:α}{e:Ak}(h:TbI P I L W r rv g T)(hf:Fr W f N_)(hb:Blk f W.heap.size [O_,.nilIface] 93)(hp:yG P I L f r rv g T a e k):kH W (yG P I L W r rv g T a) e k:=by
 obtain⟨r',rv',g',T',n,d,rfl,hn,hd,o,hs,hg,hc,hv⟩:=hp;have hl:=λx (hx:TSS P L rv r x)=>(h.li b hx);have j:=hs.1.bl hb (λe=>by have:=hl _ e;omega);have l:L.fb<W.heap.size:=by have:=hl L.tb (.inl (.inl rfl));omega
 have i:=J_ k W.heap.size 0 1 (I_ n) d;have hs':=(E_ hf (λ_ h=>h)).trans hs;exact⟨n,d,rfl,hd,j,r',rv',g',T',n,d,rfl,hn,hd,o.put b l j i,⟨hs'.1.trans i (λx hx e=>M_),hs'.2⟩,hg,hc,b.svp _ _ _ _ _ _ _ _ hv j i⟩
section
variable {W:Aw} {R:Co} {fb:Nat}
def cq6_{p:Prop}(h:p:=by
 refine hq_ λx q=>?_;have i:H_ (∀o,Fr W ((W.alloc (.cells #[O_,.nilIface] 93)).alloc o) N_/\Blk ((W.alloc (.cells #[O_,.nilIface] 93)).alloc o) W.heap.size [O_,.nilIface] 93):=zy (λo=>⟨((A_ W _).alloc _).alloc _,(B_ W _ _).alloc _⟩);have j:H_ (Fr W (W.alloc (.cells #[O_,.nilIface] 93)) N_/\Blk (W.alloc (.cells #[O_,.nilIface] 93)) W.heap.size [O_,.nilIface] 93):=zy ⟨(A_ W _).alloc _,B_ W _ _⟩;replace h:=zy h;go_in;go_wp2_with ((first|go_at_call 86|go_at_call 89|go_at_call 87);apply(h.o _ ?fr ?bl).mono;(case fr=>(first|exact(i.o _).1|exact j.o.1));(case bl=>(first|exact(i.o _).2|exact j.o.2));rintro e C ⟨n,d,rfl,hd,hb,f⟩;have u:=hb.cell 0;have w:=hb.cell 1;have z:=hb.th 0;have B:=hb.th 1;have y:=(λW a m=>run_store prog W a d m hd.one);have b:=(hb.set 0 (I_ n)).set 1 d;have k:=b.cell 0;have l:=b.cell 1;simp only[am_,ao_,aa_,ab_]at u w k l;replace f:=zy f;clear b hb hd);refine bodyPost_ret (v:=.agg #[I_ n,d]) (by simp[results,results49,go_sem,k,l]) rfl ?_;rw[q.o];exact f.o):p:=h
def tj(h:∀W1,Fr W W1 N_->Blk W1 W.heap.size [O_,.nilIface] 93->Calls prog 86 #[.iface 139 (.agg #[])] W1 (kH W R)):Calls prog 49 #[P_ fb,.iface 212 (.agg #[I_ p])] W R:=by
 have cc6:=Nat
 exact cq6_
def oa(h:∀W1,Fr W W1 N_->Blk W1 W.heap.size [O_,.nilIface] 93->Calls prog 86 #[.iface 140 (.bool false)] W1 (kH W R)):Calls prog 49 #[P_ fb,.iface 214 (.agg #[I_ p])] W R:=by
 have cc5:=Nat
 exact cq6_
def JQ(h:∀W1,Fr W W1 N_->Blk W1 W.heap.size [O_,.nilIface] 93->Calls prog 86 #[.iface 142 (O_)] W1 (kH W R)):Calls prog 49 #[P_ fb,.iface 215 (.agg #[I_ p])] W R:=by
 have cc4:=Nat
 exact cq6_
def Yr(h:∀W1,Fr W W1 N_->Blk W1 W.heap.size [O_,.nilIface] 93->Calls prog 86 #[.iface 142 (O_)] W1 (kH W R)):Calls prog 49 #[P_ fb,.iface 216 (.agg #[I_ p])] W R:=by
 exact cq6_
def Yl(h:∀W1,Fr W W1 N_->Blk W1 W.heap.size [O_,.nilIface] 93->Calls prog 86 #[.iface 144 (.string ⟨#[]⟩)] W1 (kH W R)):Calls prog 49 #[P_ fb,.iface 217 (.agg #[I_ p])] W R:=by
 have cc3:=Nat
 exact cq6_
def Yd{vT:Av}{vx:Ax}(h:∀W1,Fr W W1 N_->Blk W1 W.heap.size [O_,.nilIface] 93->Calls prog 86 #[.iface 147 (L_)] W1 (kH W R)):Calls prog 49 #[P_ fb,.iface 219 (.agg #[I_ p,.iface vT vx])] W R:=by
 have cc2:=Nat
 exact cq6_
def JJ{vT:Av}{vx:Ax}(h:∀W1,Fr W W1 N_->Blk W1 W.heap.size [O_,.nilIface] 93->Calls prog 86 #[.iface 150 (L_)] W1 (kH W R)):Calls prog 49 #[P_ fb,.iface 220 (.agg #[I_ p,.iface vT vx])] W R:=by
 have cc1:=Nat
 exact cq6_
def oe{ua:Al}(h:∀W1,Fr W W1 N_->Blk W1 W.heap.size [O_,.nilIface] 93->Calls prog 87 #[P_ fb,.agg #[I_ p,.slice ua un uc]] W1 (kH W R)):Calls prog 49 #[P_ fb,.iface 223 (.agg #[I_ p,.slice ua un uc])] W R:=by
 have cc8:=Nat
 exact cq6_
def iX{ua:Al}(h:∀W1,Fr W W1 N_->Blk W1 W.heap.size [O_,.nilIface] 93->Calls prog 89 #[P_ fb,.agg #[I_ p,.slice ua un uc]] W1 (kH W R)):Calls prog 49 #[P_ fb,.iface 228 (.agg #[I_ p,.slice ua un uc])] W R:=by
 have cc7:=Nat
 exact cq6_
def Yt{b:Nat}{f:Al}(hn:0<un)(hc:W.cell? ⟨b,1,none⟩=some (U_ c))(h:∀k,Fr W k N_->Blk k W.heap.size [O_,.nilIface] 93->Calls prog 86 #[.iface 157 (.agg #[U_ c,O_])] k (kH W R)):Calls prog 49 #[P_ fb,.iface 233 (.agg #[I_ p,S_ b un uc,.pointer f])] W R:=by
 refine hq_ λB w=>?_;obtain⟨w1,hw1⟩:=e_ ((W.alloc (.cells #[O_,.nilIface] 93)).alloc (.cells #[I_ p,S_ b un uc,.pointer f] 233));have i:Fr W w1 N_:=xa_
 have q:Blk w1 W.heap.size [O_,.nilIface] 93:=xf_
 have u:Blk w1 (W.heap.size+1) [I_ p,S_ b un uc,.pointer f] 233:=by
  rw[hw1];have:=B_ (W.alloc (.cells #[O_,.nilIface] 93)) #[I_ p,S_ b un uc,.pointer f] 233;rw[zc]at this;exact this
 have c1:=u.c1;have C:=i.ke hc;have E:(0:Int)<(un:Int):=M_;have x:=zy (h w1 i q);replace hw1:=zy hw1;go_in;go_upto_region 31 with fail;rw[<- hw1.o];go_wp2_with (go_at_call 86;apply x.o.mono;rintro e L ⟨n,d,rfl,hd,hb,l⟩;have y:=hb.cell 0;have z:=hb.cell 1;have H:=hb.th 0;have K:=hb.th 1;have G:=(λW a m=>run_store prog W a d m hd.one);have j:=(hb.set 0 (I_ n)).set 1 d;have x0:=j.cell 0;have x1:=j.cell 1;simp only[am_,ao_,aa_,ab_]at y z x0 x1;replace l:=zy l);refine bodyPost_ret (v:=.agg #[I_ n,d]) y7_ rfl ?_;rw[w.o];exact l
def oo{b:Nat}(u:ql)(hn:b<=9)(h:∀i x,Fr W i N_->Blk i W.heap.size [O_,.nilIface] 93->x.size=b->dc x->Calls prog 86 #[.iface 158 (.string x)] i (kH W R)):Calls prog 49 #[P_ fb,.iface 235 (.agg #[I_ p,I_ b])] W R:=by
 refine hq_ λC w=>?_;have q:H_ (∀o,Fr W ((W.alloc (.cells #[O_,.nilIface] 93)).alloc o) N_/\Blk ((W.alloc (.cells #[O_,.nilIface] 93)).alloc o) W.heap.size [O_,.nilIface] 93):=zy (λo=>⟨((A_ W _).alloc _).alloc _,(B_ W _ _).alloc _⟩);have y:=zy (λV=>u V b hn);replace h:=zy h;have b:=ep 235 D_;go_in;go_wp2_with (first
  |(go_at_call 90;apply(y.o _).mono;rintro e L ⟨x,rfl,f5,l,k⟩;revert f5 l k;refine h_ λf5 l k=>?_)
  |(go_at_call 86;apply(h.o _ x ((q.o _).1.trans f5 u_) (f5.o.bl (q.o _).2 id) l k).mono;rintro e K ⟨n,d,rfl,hd,hb,j⟩;have z:=hb.cell 0;have B:=hb.cell 1;have G:=hb.th 0;have H:=hb.th 1;have E:=(λW a m=>run_store prog W a d m hd.one);have f:=(hb.set 0 (I_ n)).set 1 d;have x0:=f.cell 0;have x1:=f.cell 1;simp only[am_,ao_,aa_,ab_]at z B x0 x1;replace j:=zy j))
 refine bodyPost_ret (v:=.agg #[I_ n,d]) y7_ rfl ?_;rw[w.o];exact j
end
def Yh{F:FD}(Y:F.OK){W:Aw}{rv:Ax}{g:Ar}{T:Ds}{H:PB}(f:KOK (dT F) (dI F) (dL F) 88 (λv=>v.headD .nilIface) m)(h:TbI (dT F) (dI F) (dL F) W r rv g T)(hc:zo c=true)(hX:zx F.ds c=some H)(hm:300<=T.length+m):Calls prog 49 #[P_ F.fb,.iface 226 (.agg #[I_ p,U_ c])] W (yG (dT F) (dI F) (dL F) W r rv g T (.ty (.leaf c p))):=by
 obtain⟨Z,N⟩:=y_ (yG (dT F) (dI F) (dL F) W r rv g T (.ty (.leaf c p)));rw[<- N.o];have l:=fM Y;obtain⟨w1,hw1⟩:=e_ ((W.alloc (.cells #[O_,.nilIface] 93)).alloc (.cells #[I_ p,U_ c] 226));have z:Fr W w1 N_:=xa_
 have M:Blk w1 W.heap.size [O_,.nilIface] 93:=xf_
 have y:Blk w1 (W.heap.size+1) [I_ p,U_ c] 226:=by
  rw[hw1];have:=B_ (W.alloc (.cells #[O_,.nilIface] 93)) #[I_ p,U_ c] 226;rw[zc]at this;exact this
 have hl:=λx (hx:TSS (dT F) (dL F) rv r x)=>(h.li l hx);have cl:H_ (∀V,FX F V->Blk V (W.heap.size+1) [I_ p,U_ c] 226->V.cell? ⟨F.fb,4,none⟩=some (P_ F.tb)/\V.cell? ⟨F.fb,0,none⟩=some F.sv/\V.cell? ⟨F.fb,1,none⟩=some (.iface F.sT F.sx)/\V.cell? ⟨W.heap.size+1,1,none⟩=some (U_ c)):=zy (λV hx hb=>⟨hx.b.cell 4,hx.b.cell 0,hx.b.cell 1,hb.cell 1⟩);have a2:H_ (∀V,Fr w1 V N_->Calls prog 76 #[.agg #[F.sv,.iface F.sT F.sx],U_ c] V (λe j=>∃q bx,e=.returned (.iface q bx)/\Fr V j N_/\Calls prog 88 #[P_ F.tb,.iface q bx] j (λe E=>FX F E/\Blk E (W.heap.size+1) [I_ p,U_ c] 226/\kH W Z e E))):=zy (λV B=>by
  have Q:=z.trans B u_
  have h1:=h.new l Q
  apply(jk (rv:=.iface F.sT F.sx) c h1.i.D).mono
  rintro e j ⟨v,rfl,w,hv⟩
  rw[hX]at hv
  obtain⟨p',q,bx,rfl,hp,a1,_⟩:=rH hv
  refine⟨q,bx,rfl,w,?_⟩
  have f3:=Q.trans w u_
  have ok:okQ F (.bd p' H):=⟨hp,c,hX⟩
  apply(f j r rv g T (.bd p' H) [.iface q bx] (h.new l f3) ok ⟨⟨_,rfl,hv,a1⟩,ok⟩ hm).mono
  intro e E k
  have k':=k
  obtain⟨r',rv',g',T',x,he,hx,ha,ht,hs,hg⟩:=k'
  have u:=B.trans w u_
  refine⟨ht.i,hs.1.bl (u.bl y id) (λe=>by have:=hl _ e;omega),?_⟩
  rw[N.o]
  exact yG.ret l h f3 (u.bl M id) (jp.name (xG hc) hX k))
 have O:=cl.o w1 (h.new l z).i y;replace hw1:=zy hw1;replace y:=zy y;replace h:=zy h;have X:=zy z;have a0:H_ (∀V,Fr w1 V N_->FX F V):=zy (λV B=>(h.o.new l (X.o.trans B u_)).i);go_in;go_upto_region 25 with fail;rw[<- hw1.o];refine tr_ 13 (λV=>z_ V F.fb 4 (P_ F.tb)/\z_ V F.fb 0 F.sv/\z_ V F.fb 1 (.iface F.sT F.sx)/\z_ V (W.heap.size+1) 1 (U_ c)) ?_;refine tz_ 0 ?_;refine tz_ 1 ?_;refine tz_ 2 ?_;refine tz_ 3 ?_;refine tz_ 4 ?_;refine tz_ 5 ?_;refine tz_ 6 ?_;refine tz_ 7 ?_;refine tz_ 8 ?_;refine tz_ 9 ?_;refine tz_ 10 ?_;refine zh 11 rfl K_ (λ_=>O) (λK f=>?_);go_simp;apply(a2.o _ (A_ w1 _).drew).mono;rintro e j ⟨q,bx,rfl,w,C⟩;refine f _ _ ?_;have u:=(A_ w1 N_).drew.trans w u_;have P:=cl.o j (a0.o _ u) (u.bl y id);replace C:=zy C;refine zh 12 rfl K_ (λ_=>P) (λK f=>?_);go_simp;apply C.o.mono;rintro e j ⟨hx,U,n,d,rfl,hd,hb,L⟩;refine f _ _ ?_;have e3:=cl.o j hx U;have q0:=hb.cell 0;have q1:=hb.cell 1;have t0:=hb.th 0;have t1:=hb.th 1;have sD:=(λW a m=>run_store prog W a d m hd.one);have G:=(hb.set 0 (I_ n)).set 1 d;have x0:=G.cell 0;have x1:=G.cell 1;simp only[am_,ao_,aa_,ab_]at q0 q1 x0 x1;replace L:=zy L;refine t1_ 13 e3 ?_;refine td_ ?_ _;go_wp2;refine bodyPost_ret (v:=.agg #[I_ n,d]) y7_ rfl ?_;exact L
def rf{F:FD}(j:F.OK)(K:ql)(B:KOK (dT F) (dI F) (dL F) 88 (λv=>v.headD .nilIface) m):FOK (dT F) (dI F) (dL F) 49 (P_ F.fb) (λv=>v.headD .nilIface) m:=by
 intro W r rv g T a v h ha hv hm;obtain⟨hv,z⟩:=hv;have w:=fM j;have C:300<=T.length+m:=hm;have al:∀{q:Qu} {T1:TypeId} {x1:Value},ClD F T q 1->(∀V J,svD F V J (QD F q) (QT F q) 1 (.iface T1 x1))->∀f,Fr W f N_->Blk f W.heap.size [O_,.nilIface] 93->Calls prog 86 #[.iface T1 x1] f (kH W (yG (dT F) (dI F) (dL F) W r rv g T q)):=λ{q T1 x1} hc hsv f hf hb=>nD.mono (λe E k=>by
  obtain⟨rfl,G⟩:=k
  exact yG.ret w h hf hb (yG.leaf j (h.new w hf) G hc (hsv _)))
 cases a with
 |ty t=>
  obtain⟨u,rfl,ty⟩:=hv;show Calls prog 49 #[P_ F.fb,u] W _;cases ty with
  |base c p hb=>
   have y:ClD F T (.ty (.leaf c p)) 1:=by
    show if zr c=true then (1:Nat)=1 else _;rw[i_ hb]
   simp only[zr,ax_,beq_iff_eq]at hb;rcases hb with(((rfl|rfl)|rfl)|rfl)|rfl
   .exact tj (al y (λ_ _=>BM))
   .exact oa (al y (λ_ _=>BP))
   .exact JQ (al y (λ_ _=>BL))
   .exact Yr (al y (λ_ _=>BC))
   .exact Yl (al y (λ_ _=>BU))
  |name c p hn=>
   have ho:=z.2.1;unfold okT at ho;rcases ho with ho|⟨_,X,hX⟩
   .rw[xG hn]at ho;cases ho
   .exact Yh j B h hn hX C
  |wrap c p ht=>
   obtain⟨P,Q,rfl⟩:=ht.iface;have ho:=z.2.1;unfold okT at ho;rcases ho.1 with rfl|rfl
   .exact Yd (al rfl (λ_ _=>MZ))
   .exact JJ (al rfl (λ_ _=>BF))
  |alts p X ho hP hX=>
   obtain⟨L,uc,rfl⟩:=zw ho;exact oe (λf hf hb=>(Qf j B (h.new w hf) (zj ho hf u_) hP (λi t e=>(hX i t e).fr hf u_) z C).mono (λe E k=>yG.ret w h hf hb k))
 |bd p X=>
  obtain⟨u,rfl,hb,hp⟩:=hv;show Calls prog 49 #[P_ F.fb,u] W _;cases hb with
  |recd p' ho hP hX hpp=>
   have e:(p':Int)=(p:Int):=by simpa[Uy] using hp
   obtain rfl:p'=p:=M_;obtain⟨L,uc,rfl⟩:=zw ho;exact iX (λf hf hb=>(FN j B (h.new w hf) (zj ho hf u_) hP (hX.fr hf u_) z C).mono (λe E k=>yG.ret w h hf hb k))
  |enum p' ho hP hu hpp=>
   rename_i l o sv uv;obtain⟨c,q,N,rfl⟩:=Fm hpp;obtain⟨b,M,rfl⟩:=zp ho x8_;obtain⟨O,rfl⟩:=hu.ptr;obtain⟨_,k,hk⟩:=z;have hs:=(j.g k _ hk).1.2.1 (c,q) x8_;have hc:c<256:=by
    have:97<=c/\c<=122:=by simpa[zl] using hs
    omega
   exact Yt x8_ (zt ho rfl (by simp[zI])) (al rfl (λ_ _=>GI hc))
  |bytes p' n hpp=>
   exact oo K (aL hpp) (λf x hf hb hx H=>by
    subst hx
    exact al (q:=.bd p (.bytes x.size)) rfl (λ_ _=>Kx H (aL hpp)) f hf hb)
def qF:∀a W,(callFunc 49 a).run prog W=.ok (.enter 49 a) W:=qX func49 K_ rfl
def rP{F:FD}(b:F.OK)(f:ql):∀m,KOK (dT F) (dI F) (dL F) 88 (λv=>v.headD .nilIface) m:=by
 intro m;induction m with
 |zero=>exact nu (oS b) (fM b) qF (λW a v h=>ZQ b h.1 h.2) M_ (λi e=>by cases e)
 |succ m ih=>exact nu (oS b) (fM b) qF (λW a v h=>ZQ b h.1 h.2) M_ (λi e=>by cases e;exact rf b f ih)
def bI{F:FD}(b:F.OK)(o:ql){W:Aw}{rv:Ax}{T:Ds}{uT:Av}{ux:Ax}(h:TbI (dT F) (dI F) (dL F) W () rv false T)(G:Gd (ClD F) T)(ty:TyV W F.P t (.iface uT ux))(ok:okQ F (.ty t)):Calls prog 137 #[P_ F.tb,.iface uT ux] W (cw (dT F) (dI F) (dL F) W () rv (.ty t)):=by
 have j:=fM b;have qv:(dT F).QV W (.ty t) [.iface uT ux]:=⟨⟨_,rfl,ty⟩,ok⟩
 have B:=@Kk Qu Unit (dT F) (λq=>Z_ (bZ q:Int)) (okQ F) bZ 300 F.fb F.tb F.mb (.func (.methodOf 58 "Place") #[] #[]) (.func (.func 49) #[P_ F.fb] #[]) W () rv T (.ty t) uT ux (oS b) j h G qv M_
 have C:dI F=ID (λq=>Z_ (bZ q:Int)) (okQ F) bZ 300:=rfl
 have E:dL F=⟨F.fb,F.tb,F.mb,.func (.methodOf 58 "Place") #[] #[],.func (.func 49) #[P_ F.fb] #[]⟩:=rfl
 rw[<- C,<- E]at B;refine B ?_ ?_ ?_
 .intro V y;have z:=j.qv _ _ _ _ _ qv y (λ_ f=>f.elim);have k:=rP b o 300 V () rv false T (.ty t) [.iface uT ux] (h.new j y) ok z (by show 300<=_;omega);exact k
 .intro V r rv g T l H ha;have k:=mB (oS b) j (λW a v h=>ZQ b h.1 h.2) l H ha;exact k
 .intro V r rv g T i x l hx;have z:=ag_ hx;have k:=By (oS b) j (λw n m dv kv=>jE) qF l hx (λW' u y e=>by
   have k:=rf b o (rP b o 300) W' r rv g T x.a x.v (l.new j y) (l.t.q x z).1 (j.qv _ _ _ _ _ (l.v x z).2 y (λ_ f=>f.elim)) (by show 300<=_;omega)
   rw[e]at k
   exact k)
  exact k
end Go.Proofs.YtamhgejdkclmdaaGreatDoor
