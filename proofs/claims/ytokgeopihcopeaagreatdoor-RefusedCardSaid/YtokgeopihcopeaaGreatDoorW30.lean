import Derived.Test.YtokgeopihcopeaaGreatDoorW29
set_option linter.unusedVariables false
set_option maxHeartbeats 16000000
set_option maxRecDepth 100000
set_option linter.defProp false
set_option linter.unusedSimpArgs false
open Go.Proofs.Tryz
namespace Go.Proofs.YtokgeopihcopeaaGreatDoor
open Go.RowKit
variable {c p:Nat}{w:Aw}
def da{F:FD}(G:F.OK)(o5:ql){W:Aw}{r:By}{rv:Ax}{g:Aq}{T:Ah}{p' m pw pr:Nat}{y:PT}{fw fr:An}{ua va:Am}{uc vc:Nat}{xs ys:Ay}(I:KOK (uT F) (uI F) (uL F) 54 prV m)(h:TbI (uT F) (uI F) (uL F) W r rv g T)(hw:xh W F.P F.s fw (.slice ua fw.length uc) xs)(hr:xh W F.P' F.s' fr (.slice va fr.length vc) ys)(m3:pB F.s pw (.recd fw))(m2:pB F.s' pr (.recd fr))(hv:Via (zx F.ds) (zx F.ds') (.leaf c p) y (.leaf c p'))(m0:xi (zx F.ds) (zx F.ds') (.leaf c p) (.leaf c p')=true)(hb:zi c=false)(b4:zx F.ds c=some (.recd fw))(a9:zx F.ds' c=some (.recd fr))(hm:90000<=T.length+m):Calls prog 162 #[P_ F.fb,.agg #[I_ pw,.slice ua fw.length uc,I_ pr,.slice va fr.length vc]] W (yB (uT F) (uI F) (uL F) W r rv g T (.leaf c p,y)):=by
 obtain⟨n9,Q_⟩:=y_ (yB (uT F) (uI F) (uL F) W r rv g T (.leaf c p,y));rw[<- Q_.o];have a3:=vH G;obtain⟨l8,j2⟩:=Km G (p:=pw) (fs:=fw) ⟨m3,c,b4⟩;have r8:fr.length<=300:=(G.g' c _ a9).1.1;have m1:∀f∈fr,okY F f.ty:=λf hf=>by
  obtain⟨j,hp⟩:=m2;exact⟨XJ hp f hf,G.e' c _ a9 f hf,XI _ ((G.g' c _ a9).1.2.2 f hf)⟩
 obtain⟨c0,f1⟩:∃l:List Value,l=[I_ pw,.slice ua fw.length uc,I_ pr,.slice va fr.length vc]:=⟨_,rfl⟩;obtain⟨w3,h5⟩:=e_ ((W.alloc (.cells #[I_ pw,.slice ua fw.length uc,I_ pr,.slice va fr.length vc] 288)).alloc (.cells #[O_,.nilIface] 85));obtain⟨O,Z⟩:=e_ (RFM (uT F) (uI F) (uL F) F fw (λ_ f k=>LL F f.ty k) c0 288 W r rv g T);have start:O [] (λ_=>.nilIface) (L_) w3 r rv g T:=by rw[h5,Z,f1];exact .start a3 h #[I_ pw,.slice ua fw.length uc,I_ pr,.slice va fr.length vc] 288
 have c1:=(show RFM (uT F) (uI F) (uL F) F _ _ _ _ W r rv g T _ _ _ _ _ _ _ _ from Z▸start).o0.1.cell 1;rw[f1]at c1;simp only[aa_,ab_]at c1;have i8:∀x,TSS (uT F) (uL F) rv r x->F.fb<x:=λx e=>(h.li a3 e).1;have h4:∀x,F.P x->¬TSS (uT F) (uL F) rv r x:=λx hx e=>by have:=i8 x e;have:=G.pP x hx;omega
 have j3:∀x,F.P' x->¬TSS (uT F) (uL F) rv r x:=λx hx e=>by have:=i8 x e;have:=G.pP' x hx;omega
 have r5:F.fb<W.heap.size:=by have:F.fb<F.tu/\F.tu<W.heap.size:=h.li a3 (.inl (.inl rfl));omega
 have item:H_ (∀V r' rv' g' T' ns Dv lv f q,O ns Dv lv V r' rv' g' T'->fw[q]?=some f->∃b J fx fd,ua=some ⟨b,0,none⟩/\V.cell? ⟨b,q*4,none⟩=some (I_ f.place)/\V.cell? ⟨b,q*4+1,none⟩=some (U_ f.letter)/\V.cell? ⟨b,q*4+2,none⟩=some (.iface J fx)/\V.cell? ⟨b,q*4+3,none⟩=some (.pointer fd)/\V.cell? ⟨F.fb,4,none⟩=some (P_ F.tb)/\TyV V F.P f.ty (.iface J fx)):=zy (λV r' rv' g' T' ns Dv lv f q M hf=>by
  rw[Z]at M
  have o1:=zj hw.row M.st.1 (λx e=>h4 x (hw.off x e))
  obtain⟨b,d7,e⟩:=zg o1 (o1_ ((ak_.1 hf).1))
  cases e
  obtain⟨J,fx,fd,k1,k2,k3,k4,k5,k6⟩:=fu o1 (hw.V.fr M.st.1 h4) hf
  exact⟨b,J,fx,fd,rfl,k1,k2,k3,k4,M.ti.i.1.i.cell4,k5⟩)
 have call:H_ (∀V r' rv' g' T' ns Dv lv f J fx,O ns Dv lv V r' rv' g' T'->fw[ns.length]?=some f->TyV V F.P f.ty (.iface J fx)->Calls prog 158 #[P_ F.tb,.iface J fx] V (cg (dT F) (dI F) (dL F) V () r'.1 (.ty f.ty))):=zy (λV r' rv' g' T' ns Dv lv f J fx M hf ty=>by
  rw[Z]at M
  exact bI G o5 M.ti.i.1 M.ti.i.2 ty (j2 f (ai_ hf)))
 have known:H_ (∀V r' rv' g' T' ns Dv lv V1 a6 Td,O ns Dv lv V r' rv' g' T'->TbI (dT F) (dI F) (dL F) V1 () a6 false Td->Stp V V1 (TSS (dT F) (dL F) r'.1 ()) (TSS (dT F) (dL F) a6 ())->Gd (ClD F) Td->O ns Dv lv V1 (a6,Td) rv' g' T'/\Stp V V1 (TSS (uT F) (uL F) rv' r') (TSS (uT F) (uL F) rv' (a6,Td))):=zy (λV r' rv' g' T' ns Dv lv V1 a6 Td M ht hs hg=>by
  rw[Z]at M⊢
  obtain⟨a1,a2⟩:=TbI.data G M.ti ht hs hg
  exact⟨M.known a3 (λ_ _ _ _ k=>k) a1 a2 (Grw.refl _ _),a2⟩)
 have next:H_ (∀V a6 Td rv' g' T' ns Dv lv f (x:Rw Qu) o L v5,O ns Dv lv V (a6,Td) rv' g' T'->fw[ns.length]?=some f->x∈Td->x.a=.ty f.ty->L.ownsRow (W.heap.size+2) 85 2 v5 (ns.length+1) (((List.range ns.length).flatMap λj=>[Z_ ((ns.getD j 0:Nat):Int),Dv j])++[I_ x.n,x.d])->(V.alloc o).grownBy L lv.ownBlock->(v5.ownBlock=lv.ownBlock\/v5.ownBlock=some (V.alloc o).heap.size)->O (ns++[x.n]) (λj=>if j<ns.length then Dv j else x.d) v5 L (a6,Td) rv' g' T'):=zy (λV a6 Td rv' g' T' ns Dv lv f x o L v5 M hf hx ha k1 k2 k3=>by
  rw[Z]at M⊢
  have q:=(M.ti.i.1.t.q x hx).2.2
  have sv:=(M.ti.i.1.v x hx).1
  rw[ha]at sv
  exact M.item a3 hf (ll M.ti.i.2 hx ha) (svD.data M.ti sv) q.1 q.2 k1 k2 k3)
 have row:H_ (∀V r' rv' g' T' ns Dv lv,O ns Dv lv V r' rv' g' T'->V.ownsRow (W.heap.size+2) 85 2 lv ns.length ((List.range ns.length).flatMap λj=>[Z_ ((ns.getD j 0:Nat):Int),Dv j])/\W.heap.size+2<=V.heap.size):=zy (λV r' rv' g' T' ns Dv lv M=>by rw[Z]at M;exact⟨M.row,o1_ M.o1.1.lt⟩);have j0:H_ (∀V r' rv' g' T' ns Dv lv V1,O ns Dv lv V r' rv' g' T'->Fr V V1 N_->O ns Dv lv V1 r' rv' g' T'):=zy (λV r' rv' g' T' ns Dv lv V1 M hf=>by rw[Z]at M⊢;exact M.new a3 hf);have j4:H_ (∀V r' rv' g' T' ns Dv lv,O ns Dv lv V r' rv' g' T'->(∀x,lv.ownBlock=some x->x<V.heap.size/\F.fb<x)/\∀x,TSS (uT F) (uL F) rv' r' x->x<V.heap.size):=zy (λV r' rv' g' T' ns Dv lv M=>by
  rw[Z]at M
  exact⟨λx e=>⟨(M.row.lt x e).2,o1_ ((M.row.lt x e).1)⟩,λx e=>(M.ti.li a3 e).2⟩)
 obtain⟨E,S⟩:=e_ (UFM F fw fr c0 W r rv g T (.leaf c p,y));have j8:H_ (∀V r' rv' g' T' ns Dv lv,O ns Dv lv V r' rv' g' T'->ns.length=fw.length->E V.heap.size ns Dv lv 0 0 .nilIface (V.alloc (.cells #[O_,.nilIface] 85)) r' rv' g' T'):=zy (λV r' rv' g' T' ns Dv lv M hl=>by
  rw[Z]at M
  rw[S]
  exact UFM.start G M hl)
 have a7:H_ (∀qf ns Dv lv j n d V r' rv' g' T',E qf ns Dv lv j n d V r' rv' g' T'->V.cell? ⟨W.heap.size,0,none⟩=some (I_ pw)/\V.cell? ⟨W.heap.size,1,none⟩=some (.slice ua fw.length uc)/\V.cell? ⟨W.heap.size,3,none⟩=some (.slice va fr.length vc)/\V.cell? ⟨F.fb,5,none⟩=some (P_ F.tu)/\xh V F.P F.s fw (.slice ua fw.length uc) xs):=zy (λqf ns Dv lv j n d V r' rv' g' T' M=>by
  rw[S]at M
  have k:=M.B.o0.1
  rw[f1]at k
  exact⟨k.cell 0,k.cell 1,k.cell 3,M.B.ti.i.1.i.cell5,hw.fr M.B.st.1 h4⟩)
 have j5:H_ (∀qf ns Dv lv j n d V r' rv' g' T' x,E qf ns Dv lv j n d V r' rv' g' T'->fr[j]?=some x->∃b Q gx gd,va=some ⟨b,0,none⟩/\V.cell? ⟨b,j*4,none⟩=some (I_ x.place)/\V.cell? ⟨b,j*4+1,none⟩=some (U_ x.letter)/\V.cell? ⟨b,j*4+2,none⟩=some (.iface Q gx)/\V.cell? ⟨b,j*4+3,none⟩=some (.pointer gd)/\TyV V F.P' x.ty (.iface Q gx)/\DfV V F.P' F.s' x.dflt (.pointer gd)):=zy (λqf ns Dv lv j n d V r' rv' g' T' x M hf=>by
  rw[S]at M
  have o1:=zj hr.row M.B.st.1 (λx e=>j3 x (hr.off x e))
  obtain⟨b,d7,e⟩:=zg o1 (o1_ ((ak_.1 hf).1))
  cases e
  obtain⟨J,fx,fd,k1,k2,k3,k4,k5,k6⟩:=fu o1 (hr.V.fr M.B.st.1 j3) hf
  exact⟨b,J,fx,fd,rfl,k1,k2,k3,k4,k5,k6⟩)
 have a5:H_ (∀qf ns Dv lv j n d V r' rv' g' T' V1,E qf ns Dv lv j n d V r' rv' g' T'->Fr V V1 N_->E qf ns Dv lv j n d V1 r' rv' g' T'):=zy (λqf ns Dv lv j n d V r' rv' g' T' V1 M hf=>by rw[S]at M⊢;exact M.new G hf);have i2:H_ (∀qf ns Dv lv j n d V r' rv' g' T',E qf ns Dv lv j n d V r' rv' g' T'->Calls prog 212 #[lv] V λe w'=>∃v,e=.returned v/\Fr V w' N_/\w'.ownsRow V.heap.size 85 2 v ns.length ((List.range ns.length).flatMap λj=>[Z_ ((ns.getD j 0:Nat):Int),Dv j])):=zy (λqf ns Dv lv j n d V r' rv' g' T' M=>by
  rw[S]at M
  refine Qz M.B.row (o1_ M.len) (λu hu=>?_)
  obtain⟨q,_,hq⟩:=cd_.1 hu
  simp only[aq_,ba_,or_false]at hq
  rcases hq with rfl|rfl
  .rfl
  .exact(M.B.iv q).one)
 have e7:H_ (∀qf ns Dv lv j n d V r' rv' g' T' x v,E qf ns Dv lv j n d V r' rv' g' T'->fr[j]?=some x->vV fw x.letter=none->x.dflt=none->kR V v ns Dv->UCM F fw (.leaf c p,y) x ns Dv v V r' rv' T'):=zy (λqf ns Dv lv j n d V r' rv' g' T' x v M hx hi hd ro=>by
  rw[S]at M
  exact QC G M hv hb b4 a9 hx hi hd ro)
 have e8:H_ (∀qf ns Dv lv j n d V r' rv' g' T' x,E qf ns Dv lv j n d V r' rv' g' T'->fr[j]?=some x->vV fw x.letter=none->x.dflt≠none->E qf ns Dv lv (j+1) n d V r' rv' g' T'):=zy (λqf ns Dv lv j n d V r' rv' g' T' x M hx hi hd=>by
  rw[S]at M⊢
  exact M.next (λx' m6=>by rw[hx]at m6;cases m6;exact⟨λi h e=>zm_,λ_ e=>absurd e hd⟩))
 have d6:H_ (∀qf ns Dv lv j n d V r' rv' g' T' (x:PF) (i:Nat) (f:PF) hT hx Q gx,E qf ns Dv lv j n d V r' rv' g' T'->fr[j]?=some x->fw[i]?=some f->TyV V F.P f.ty (.iface hT hx)->TyV V F.P' x.ty (.iface Q gx)->Calls prog 54 #[P_ F.tu,.agg #[.iface hT hx,.iface Q gx]] V (ju (uT F) (uI F) (uL F) V r' rv' g' T' (f.ty,x.ty))):=zy (λqf ns Dv lv j n d V r' rv' g' T' x i f hT hx Q gx M p9 p0 t1 t2=>by
  rw[S]at M
  have o1:=j2 f (ai_ p0)
  have o2:=m1 x (ai_ p9)
  obtain⟨R,hR,_⟩:=M.B.gr
  exact I V r' rv' g' T' (f.ty,x.ty) [.iface hT hx,.iface Q gx] M.B.ti ⟨o1,o2⟩ ⟨⟨_,_,rfl,t1,t2⟩,o1,o2⟩ (by rw[hR,ag_];show 90000<=_;omega))
 have d8:H_ (∀qf ns Dv lv j n d V r' rv' g' T' (x:PF) (i:Nat) (f:PF) V1 r1 A D C (z:Rw (PT×PT)) gw d7 lo,E qf ns Dv lv j n d V r' rv' g' T'->fr[j]?=some x->vV fw x.letter=some i->fw[i]?=some f->z∈C->z.a=(f.ty,x.ty)->TbI (uT F) (uI F) (uL F) V1 r1 A D C->Stp V V1 (TSS (uT F) (uL F) rv' r') (TSS (uT F) (uL F) A r1)->Grw (uT F).Cl T' C g' D->V1.ownsRow lo 85 2 (S_ gw ns.length d7) ns.length ((List.range ns.length).flatMap λj=>[Z_ ((ns.getD j 0:Nat):Int),Dv j])->W.heap.size+2<=lo->lv.ownBlock≠some gw->gw≠qf->E qf ns Dv lv j n d ((V1.setCell ⟨gw,i*2,none⟩ (I_ z.n)).setCell ⟨gw,i*2+1,none⟩ z.d) r1 A D C/\UCM F fw (.leaf c p,y) x (ns.set i z.n) (λj=>if j=i then z.d else Dv j) (S_ gw ns.length d7) ((V1.setCell ⟨gw,i*2,none⟩ (I_ z.n)).setCell ⟨gw,i*2+1,none⟩ z.d) r1 A C):=zy (λqf ns Dv lv j n d V r' rv' g' T' x i f V1 r1 A D C z gw d7 lo M hx hi hf hz e6 ht hs hg ro h2 g9 p2=>by
  rw[S]at M⊢
  have M1:=M.known G ht hs hg
  have i9:=(ak_.1 hf).1
  have r9:=M.len
  have n2:=((ro.stored (i*2) (I_ z.n)).1.stored (i*2+1) z.d).1
  rw[Qv M_]at n2
  obtain⟨cs,g5⟩:=bu ro rfl
  have a8:Blk V1 gw cs.toList 85:=by unfold Blk;simpa using g5
  have M2:=M1.put G (V1:=(V1.setCell ⟨gw,i*2,none⟩ (I_ z.n)).setCell ⟨gw,i*2+1,none⟩ z.d) a8 (o1_ ((ro.lt gw rfl).1)) g9 p2 (J_ V1 gw (i*2) (i*2+1) _ _)
  refine⟨M2,Va G M2 hv hb b4 a9 hx hi hf hz e6 ?_⟩
  have r2:=yl n2
  unfold kR
  rw[br_]at r2⊢
  exact r2)
 have d2:H_ (∀qf ns Dv lv j n d V r' rv' g' T' x ks Dk v,E qf ns Dv lv j n d V r' rv' g' T'->fr[j]?=some x->UCM F fw (.leaf c p,y) x ks Dk v V r' rv' T'->IfV d/\(∀V1,Fr V V1 N_->Blk V1 qf [I_ n,d] 85)/\∀b,btr (jnN ks) n=b->∀V1 kv V2,Fr V V1 N_->IfV kv->(jnN ks=0\/jnN ks=301->kv=.nilIface)->(1<=jnN ks->jnN ks<=300->RcR (V.heap.size+2) ks.length Dk kv V1)->Fr V1 V2 N_->E qf ns Dv lv (j+1) (if b=true then jnN ks else n) (if b=true then kv else d) ((V2.setCell ⟨qf,0,none⟩ (Z_ ((if b=true then jnN ks else n:Nat):Int))).setCell ⟨qf,1,none⟩ (if b=true then kv else d)) r' rv' g' T'):=zy (λqf ns Dv lv j n d V r' rv' g' T' x ks Dk v M hx Y=>by
  rw[S]at M⊢
  refine⟨M.d1,λV1 hf=>(M.bf.new hf).1,λb f0 V1 kv V2 hf hk h0 h1 l5=>?_⟩
  exact(M.new G (hf.trans l5 u_)).best G (iQ ks) hk ((Y.sv V1 kv hf h0 h1).stp (C_ l5 (λ_ h=>h))) hx Y.cl b f0)
 have j7:H_ (∀qf ns Dv lv j n d V r' rv' g' T',E qf ns Dv lv j n d V r' rv' g' T'->qf<V.heap.size/\W.heap.size+2<=V.heap.size/\(∀x,lv.ownBlock=some x->x<V.heap.size)/\(∀x,TSS (uT F) (uL F) rv' r' x->x<V.heap.size)/\ns.length=fw.length/\(∀x,TSS (uT F) (uL F) rv' r' x->F.fb<x/\x≠W.heap.size)):=zy (λqf ns Dv lv j n d V r' rv' g' T' M=>by
  rw[S]at M
  exact⟨M.bf.1.lt,o1_ M.B.o1.1.lt,λx e=>(M.B.row.lt x e).2,λx e=>(M.B.ti.li a3 e).2,M.len,λx e=>⟨(M.B.ti.li a3 e).1,λh=>M.B.o0.2 (h▸e)⟩⟩)
 have fin:H_ (∀qf ns Dv lv j n d V r' rv' g' T',E qf ns Dv lv j n d V r' rv' g' T'->fr.length<=j->IfV d/\Blk V qf [I_ n,d] 85/\Blk V (W.heap.size+1) [O_,.nilIface] 85/\n9 (.returned (.agg #[I_ n,d])) ((V.setCell ⟨W.heap.size+1,0,none⟩ (I_ n)).setCell ⟨W.heap.size+1,1,none⟩ d)):=zy (λqf ns Dv lv j n d V r' rv' g' T' M hj=>by
  rw[S]at M
  refine⟨M.d1,M.bf.1,M.B.o1.1,?_⟩
  rw[Q_.o]
  have hF:=J_ V (W.heap.size+1) 0 1 (I_ n) d
  refine⟨r',rv',g',T',n,d,rfl,M.n3,M.d1,M.B.ti.put a3 (by show F.fb<W.heap.size+1;omega) M.B.o1.1 hF,⟨M.B.st.1.trans hF (λx hx e=>M_),M.B.st.2⟩,M.B.gr,?_,svD.put M.sv M.B.o1.1 D_ D_ hF⟩
  refine⟨λp1 ws e=>yj_,λ_ hn=>(Via.nev hv m0 hn).elim,λc1 p1 j6 u1 s5 e=>yj_,λc1 p1 j6 lw lr ow o q e m5 l3 H=>(by cases e;rw[b4]at H;cases H),λc1 p1 j6 o4 o3 D i h1 e m5 l3 H e2 hg hi hf=>?_,λc1 p1 j6 o4 o3 D e m5 l3 H e2 hg hi hf=>?_⟩
  .cases e
   rw[b4]at H
   cases H
   rw[a9]at e2
   cases e2
   obtain⟨q,hq⟩:=bw_ hg
   exact(M.dn q D (o1_ ((ak_.1 hq).1)) hq).1 i h1 hi hf
  .cases e
   rw[b4]at H
   cases H
   rw[a9]at e2
   cases e2
   obtain⟨q,hq⟩:=bw_ hg
   exact(M.dn q D (o1_ ((ak_.1 hq).1)) hq).2 hi hf)
 replace start:=zy start;replace h5:=zy h5;replace Z:=zy Z;replace S:=zy S;replace f1:=zy f1;clear I hw hr m3 m2 hv m0 hb b4 a9 h i8 j2 m1 h4 j3 hm a3;go_in;go_upto_region 1 with fail;rw[<- h5.o];go_wp2;go_loopg [5,18] (fw.length+1) (λm v5 v V=>∃ns Dv lv r' rv' g' T',lv=v5/\v=Z_ ((ns.length:Nat):Int)/\ns.length<=fw.length/\fw.length+1-ns.length<=m/\H_ (O ns Dv lv V r' rv' g' T'));case atStart=>exact⟨[],_,_,_,_,_,_,rfl,rfl,am_ _,by simp,start⟩
 case round=>
  clear start c1;obtain⟨ns,Dv,lv,r',rv',g',T',rfl,rfl,hq,hm,M⟩:=hrel;by_cases i9:ns.length<fw.length
  .have l9:(ns.length:Int)<(fw.length:Int):=M_;obtain⟨f,hf⟩:∃f,fw[ns.length]?=some f:=⟨_,aj_ i9⟩;obtain⟨b,J,fx,fd,rfl,k0,k1,k2,k3,e4,ty⟩:=item.o _ _ _ _ _ _ _ _ _ _ M hf;obtain⟨w4,hw4⟩:=e_ (wr.alloc (.cells #[I_ f.place,U_ f.letter,.iface J fx,.pointer fd] 194));have A4:Fr wr w4 N_:=yd_
   have B4:Blk w4 wr.heap.size [I_ f.place,U_ f.letter,.iface J fx,.pointer fd] 194:=yx_
   have M4:=zy (j0.o _ _ _ _ _ _ _ _ w4 M A4);have z4:=A4.ke e4;have z2:=B4.c2;have g2:=ty.fr A4 u_;have hC:H_ (∀V1,Fr w4 V1 N_->Calls prog 158 #[P_ F.tb,.iface J fx] V1 (cg (dT F) (dI F) (dL F) V1 () r'.1 (.ty f.ty))):=zy (λV1 l4=>call.o V1 _ _ _ _ _ _ _ _ _ _ (j0.o _ _ _ _ _ _ _ _ V1 M4 l4) hf (g2.fr l4 u_));have h3:¬TSS (uT F) (uL F) rv' r' wr.heap.size:=λe=>absurd ((j4.o _ _ _ _ _ _ _ _ M).2 _ e) (a5_ _);have h2:=zy ((j4.o _ _ _ _ _ _ _ _ M).1);replace h3:=zy h3;replace hf:=zy hf;replace hw4:=zy hw4;replace B4:=zy B4;clear ty g2 A4 e4 M j8 a7 j5 a5 i2 e7 e8 d6 d8 d2 j7 fin;go_wp2;rw[<- hw4.o];refine tr_ 10 (λV=>z_ V F.fb 4 (P_ F.tb)/\z_ V wr.heap.size 2 (.iface J fx)) ?_;refine tz_ 0 ?_;refine tz_ 1 ?_;refine tz_ 2 ?_;refine tz_ 3 ?_;refine tz_ 4 ?_;refine tz_ 5 ?_;refine tz_ 6 ?_;refine zh 7 rfl K_ (λ_=>⟨z4,z2⟩) (λK I=>?_);go_simp;apply(hC.o _ (A_ w4 _).drew).mono;rintro e L ⟨r1,A,C,x,rfl,hx,ha,h1,s1,G1⟩;refine I _ _ ?_;clear I K k0 k1 k2 k3 z4 z2;have n5:=(C_ (A_ w4 _).drew (λ_ h=>h)).trans s1;obtain⟨M5,S5⟩:=known.o _ _ _ _ _ _ _ _ L A C M4 h1 n5 G1;replace M5:=zy M5;have B5:=S5.1.bl B4 h3;have y4:L.cell? ⟨F.fb,4,none⟩=some (P_ F.tb):=h1.i.cell4;have y2:=B5.c2;have p3:=(h1.t.q x hx).2.2.2;obtain⟨h7,q5⟩:=row.o _ _ _ _ _ _ _ _ M5;have l0:H_ (∀o U,(L.alloc o).grownBy U lv.ownBlock->U.cell? ⟨F.fb,4,none⟩=some (P_ F.tb)/\U.cell? ⟨wr.heap.size,2,none⟩=some (.iface J fx)):=zy (λo U hg=>by
    have A5:=(A_ L N_).alloc o
    have hF:Fr (L.alloc o) U (λx=>lv.ownBlock=some x):=(A_ _ _).gw hg (λk e _=>e)
    have q4:=A5.ke y4
    have b6:=hF.bl (A5.bl B5 id) (λe=>absurd (h2.o _ e).1 (a5_ _))
    have q2:=b6.c2
    refine⟨?_,q2⟩
    rw[World.cell?_of_block (hF.block F.fb (World.block_lt_of_cell? _ _ q4) (λe=>absurd (h2.o _ e).2 (a5_ _)))]
    exact q4)
   have n0:H_ (∀o U v6,U.ownsRow (W.heap.size+2) 85 2 v6 (ns.length+1) (((List.range ns.length).flatMap λj=>[Z_ ((ns.getD j 0:Nat):Int),Dv j])++[I_ x.n,x.d])->(L.alloc o).grownBy U lv.ownBlock->(v6.ownBlock=lv.ownBlock\/v6.ownBlock=some (L.alloc o).heap.size)->O (ns++[x.n]) (λj=>if j<ns.length then Dv j else x.d) v6 U (A,C) rv' g' T'):=zy (λo U v6 o6 g6 l6=>next.o _ _ _ _ _ _ _ _ _ f x o U v6 M5 hf hx ha o6 g6 l6);have p7:ns.length<=1000:=M_;generalize x.n=xn at *;generalize x.d=xd at *;clear hx ha h1 s1 n5 S5 G1 M5 M4 B4 B5 hC h2 h3;replace h7:=zy h7;generalize i6:ns.length=N at *;rcases p3 with rfl|⟨dT,dx,rfl⟩;all_goals
    refine t1_ 8 ⟨y4,y2⟩ ?_;have A5:=λo=>(A_ L N_).alloc o;refine zh 9 rfl K_ (λ_=>⟨(A5 _).ke y4,(A5 _).ke y2⟩) (λK I=>?_);rw[i_ (show Region.wanted _ _=true by kernel_rfl)];refine aL _ _ rfl (B:=W.heap.size+2) (v:=lv) h7 p7 q5 rfl rfl rfl rfl rfl ?_;intro v6 U o6 g6 l6;refine I _ _ ?_;clear I K;have g5:=l0.o _ _ g6;have nx:=zy (n0.o _ _ _ o6 g6 l6);clear o6 g6 l6 A5 h7 n0 l0;refine t1_ 10 g5 ?_;clear g5;refine td_ ?_ _;go_wp2;go_roundg (fw.length+1-(N+1));case measure=>omega
    case rel=>exact⟨ns++[xn],_,_,_,_,_,_,rfl,by simp[i6],by simp[i6];omega,by simp[i6],nx⟩
  .have l9:¬((ns.length:Int)<(fw.length:Int)):=M_;have j1:ns.length=fw.length:=M_;obtain⟨n4,_⟩:=row.o _ _ _ _ _ _ _ _ M;obtain⟨la,lc,rfl⟩:=zw n4;obtain⟨qf,f2⟩:=e_ wr.heap.size;obtain⟨L,g0⟩:=e_ (wr.alloc (.cells #[O_,.nilIface] 85));have s2:H_ (E qf ns Dv (.slice la ns.length lc) 0 0 .nilIface L r' rv' g' T'):=zy (by rw[g0,f2];exact j8.o _ _ _ _ _ _ _ _ M j1);obtain⟨-,-,e3,-,-⟩:=a7.o _ _ _ _ _ _ _ _ _ _ _ _ s2;replace g0:=zy g0;replace f2:=zy f2;replace j1:=zy j1;clear M n4 item call known next row j0 j4 j8;go_upto_region 8 with fail;rw[<- g0.o,<- f2.o];clear g0;go_wp2;go_loopg [37] (fr.length+1) (λmm v V=>∃(j n:Nat) (d:Value) (r':Value×List (Rw Qu)) (rv':Value) (g':Bool) (T':List (Rw (PT×PT))),v=I_ j/\j<=fr.length/\fr.length+1-j<=mm/\H_ (E qf ns Dv (.slice la ns.length lc) j n d V r' rv' g' T'));case atStart=>exact⟨0,0,.nilIface,_,_,_,_,rfl,am_ _,M_,s2⟩
   case round=>
    clear s2 e3 l9 i9 hq hm f2;obtain⟨j,n,d,r',rv',g',T',rfl,hj,s0,M⟩:=hrel;by_cases i7:j<fr.length
    .have p6:(j:Int)<(fr.length:Int):=M_;obtain⟨x,hx⟩:∃x,fr[j]?=some x:=⟨_,aj_ i7⟩;obtain⟨b,Q,gx,gd,rfl,k0,k1,k2,k3,ty,df⟩:=j5.o _ _ _ _ _ _ _ _ _ _ _ _ x M hx;obtain⟨h8,h9,i0,g1,i1,e9⟩:=j7.o _ _ _ _ _ _ _ _ _ _ _ _ M;obtain⟨fq,d9⟩:=e_ wr.heap.size;obtain⟨w4,hw4⟩:=e_ (wr.alloc (.cells #[I_ x.place,U_ x.letter,.iface Q gx,.pointer gd] 194));have A4:Fr wr w4 N_:=yd_
     have B4:Blk w4 fq [I_ x.place,U_ x.letter,.iface Q gx,.pointer gd] 194:=by rw[hw4,d9];exact B_ wr _ _
     have M4:=zy (a5.o _ _ _ _ _ _ _ _ _ _ _ _ w4 M A4);have hC:=zy (i2.o _ _ _ _ _ _ _ _ _ _ _ _ M4);have b7:wr.heap.size<w4.heap.size:=by rw[hw4,zm];omega
     have g2:=zy (ty.fr A4 u_);have g8:H_ ((x.dflt=none->gd=none)/\(x.dflt≠none->∃a,gd=some a)):=zy (by
      unfold DfV at df
      split at df
      .rename_i e
       cases df
       exact⟨λ_=>rfl,λh=>absurd e h⟩
      .rename_i e
       obtain⟨g',x',_,e',_⟩:=df
       cases e'
       exact⟨λh=>(by rw[e]at h;cases h),λ_=>⟨_,rfl⟩⟩)
     replace hx:=zy hx;replace hw4:=zy hw4;replace d9:=zy d9;replace h8:=zy h8;replace h9:=zy h9;replace i0:=zy i0;replace g1:=zy g1;replace i1:=zy i1;replace e9:=zy e9;replace b7:=zy b7;clear ty df A4 M fin j5 i2 j7;go_upto_region 11 with fail;rw[<- hw4.o,<- d9.o];clear k0 k1 k2 k3;go_upto_region 12 with(go_at_call 212;apply hC.o.mono;rintro e U ⟨v6,rfl,f6,o6⟩;have M6:=zy (a5.o _ _ _ _ _ _ _ _ _ _ _ _ U M4 f6);have B6:=zy (f6.bl B4 id);have n6:=zy (g2.o.fr f6 u_);have q6:=zy f6.size;replace o6:=zy o6;clear f6);obtain⟨s6,n8,rfl⟩:=zw o6;clear hC M4 B4 g2;obtain⟨e0,H,-,-,k7⟩:=a7.o _ _ _ _ _ _ _ _ _ _ _ _ M6;have z1:=B6.o.c1;have z3:=B6.o.c3;obtain⟨oi,e1⟩:=x_ ((vV fw x.letter).getD 0);obtain⟨ob,b5⟩:=x_ ((vV fw x.letter).isSome);have hH:=eH (p:=(pw:Int)) (c:=x.letter) k7 l8;unfold gv at hH;rw[e1,b5]at hH;replace hH:=zy hH;replace e1:=zy e1;replace b5:=zy b5;clear k7;go_upto_if 52 with(go_at_call 213;apply hH.o.mono;rintro e w7 ⟨rfl,f7⟩;have M7:=zy (a5.o _ _ _ _ _ _ _ _ _ _ _ _ w7 M6 f7);have B7:=zy (f7.bl B6 id);have g3:=zy (n6.o.fr f7 u_);have o7:=zy (zj o6 f7 u_);clear f7);clear hH M6 B6 n6 o6 e0 H z1 z3;obtain⟨e0,H,-,e5,a4⟩:=a7.o _ _ _ _ _ _ _ _ _ _ _ _ M7;replace a4:=zy a4;have z3:=B7.o.c3;have z2:=B7.o.c2;go_cut [11] (λv V=>∃ks Dk r1 A D C,H_ (E qf ns Dv (.slice la ns.length lc) j n d V r1 A D C)/\H_ (UCM F fw (.leaf c p,y) x ks Dk v V r1 A C));case first=>
      cases ob with
      |false=>
       have hi:vV fw x.letter=none:=by
        have:=b5.o;cases he:vV fw x.letter with
        |none=>rfl
        |some i=>rw[he]at this;cases this
       by_cases g7:x.dflt=none
       .obtain rfl:=g8.o.1 g7;have Y:=zy (e7.o _ _ _ _ _ _ _ _ _ _ _ _ _ _ M7 hx hi g7 (yl o7));clear e7 e8 d6 d8 d2 a5 a7 B7 g3 o7 hi e0 H e5 z2 a4;go_wp2;go_meet;exact⟨_,_,_,_,_,_,M7,Y⟩
       .obtain⟨ga,rfl⟩:=g8.o.2 g7;have M8:=zy (e8.o _ _ _ _ _ _ _ _ _ _ _ _ _ M7 hx hi g7);clear e7 e8 d6 d8 d2 a5 a7 M7 B7 g3 o7 hi e0 H e5 z2 a4;go_wp2;go_roundg (fr.length+1-(j+1));case measure=>omega
        case rel=>exact⟨j+1,n,d,_,_,_,_,by simp,i7,l_,M8⟩
      |true=>
       obtain⟨i,hi⟩:∃i,vV fw x.letter=some i:=by
        have:=b5.o;cases he:vV fw x.letter with
        |none=>rw[he]at this;cases this
        |some i=>exact⟨i,rfl⟩
       obtain rfl:i=oi:=by
        have:=e1.o;rw[hi]at this;exact this
       have p4:i<fw.length:=by
        have l7:=hi;unfold vV at l7;obtain⟨h1,_⟩:=List.findIdx?_eq_some_iff_getElem.1 l7;simpa using h1
       have r6:(i:Int)<(fw.length:Int):=M_;have p8:=i1.o;have p5:i<ns.length:=M_;have r7:(i:Int)<(ns.length:Int):=M_;obtain⟨f,hf⟩:∃f,fw[i]?=some f:=⟨_,aj_ p4⟩;obtain⟨gw,d7,e⟩:=zg o7 M_;cases e;obtain⟨b2,q7,e⟩:=zg a4.o.row M_;cases e;obtain⟨hT,h6,r4,-,-,y2,-,n7,-⟩:=fu a4.o.row a4.o.V hf;have kp:H_ (∀V,Fr w7 V N_->V.cell? ⟨F.fb,5,none⟩=some (P_ F.tu)/\V.cell? ⟨W.heap.size,1,none⟩=some (S_ b2 fw.length uc)/\V.cell? ⟨b2,i*4+2,none⟩=some (.iface hT h6)/\V.cell? ⟨fq,2,none⟩=some (.iface Q gx)):=zy (λV X=>⟨X.ke e5,X.ke H,X.ke y2,X.ke z2⟩);have j9:H_ (∀V,Fr w7 V N_->Calls prog 54 #[P_ F.tu,.agg #[.iface hT h6,.iface Q gx]] V (ju (uT F) (uI F) (uL F) V r' rv' g' T' (f.ty,x.ty))):=zy (λV X=>d6.o _ _ _ _ _ _ _ _ _ _ _ _ _ i f _ _ _ _ (a5.o _ _ _ _ _ _ _ _ _ _ _ _ V M7 X) hx hf (n7.fr X u_) (g3.o.fr X u_));have g9:(Value.slice la ns.length lc).ownBlock≠some gw:=λe=>by
        have:=i0.o _ e;have:=(o7.o.lt gw rfl).1;have:=b7.o;omega
       have k8:H_ (∀V V1 r1 A D C (z:Rw (PT×PT)),Fr w7 V N_->z∈C->z.a=(f.ty,x.ty)->TbI (uT F) (uI F) (uL F) V1 r1 A D C->Stp V V1 (TSS (uT F) (uL F) rv' r') (TSS (uT F) (uL F) A r1)->Grw (uT F).Cl T' C g' D->(∃a0 a1,V1.cell? ⟨gw,i*2,none⟩=some a0/\V1.cell? ⟨gw,i*2+1,none⟩=some a1)/\(∀o,V1.frozen? ⟨gw,o,none⟩=false)/\E qf ns Dv (.slice la ns.length lc) j n d ((V1.setCell ⟨gw,i*2,none⟩ (I_ z.n)).setCell ⟨gw,i*2+1,none⟩ z.d) r1 A D C/\UCM F fw (.leaf c p,y) x (ns.set i z.n) (λj=>if j=i then z.d else Dv j) (S_ gw ns.length n8) ((V1.setCell ⟨gw,i*2,none⟩ (I_ z.n)).setCell ⟨gw,i*2+1,none⟩ z.d) r1 A C):=zy (λV V1 r1 A D C z X hz e6 ht hs hg=>by
        have gl:=(o7.o.lt gw rfl).1
        have o7:=zj o7 X u_
        have o8:=zj o7 hs.1 (λg e k=>by
         have e:gw=g:=by simpa[Value.ownBlock] using e
         subst e
         have:=g1.o _ k
         have:=b7.o
         omega)
        have cc:=kR.cells (yl o8) (aj_ p5)
        exact⟨⟨_,_,cc.1,cc.2⟩,λo=>o8.frozenAt _,d8.o _ _ _ _ _ _ _ _ _ _ _ _ x i f V1 r1 A D C z gw n8 _ (a5.o _ _ _ _ _ _ _ _ _ _ _ _ V M7 X) hx hi hf hz e6 ht hs hg o8 (by have:=h9.o;have:=b7.o;omega) g9 (by have:=h8.o;have:=b7.o;omega)⟩)
       have m9:H_ (∀V V1 r1 A,Fr w7 V N_->Stp V V1 (TSS (uT F) (uL F) rv' r') (TSS (uT F) (uL F) A r1)->V1.cell? ⟨F.fb,5,none⟩=some (P_ F.tu)/\V1.cell? ⟨W.heap.size,1,none⟩=some (S_ b2 fw.length uc)/\V1.cell? ⟨b2,i*4+2,none⟩=some (.iface hT h6)/\V1.cell? ⟨fq,2,none⟩=some (.iface Q gx)):=zy (λV V1 r1 A X hs=>by
        have kk:∀(a o:Nat) (z:Value),w7.cell? ⟨a,o,none⟩=some z->¬TSS (uT F) (uL F) rv' r' a->V1.cell? ⟨a,o,none⟩=some z:=λa o z hz hn=>by
         have m7:=X.ke hz
         rw[World.cell?_of_block (hs.1.block a (World.block_lt_of_cell? _ _ m7) hn)]
         exact m7
        have r3:=G.pP b2 (a4.o.off b2 rfl)
        exact⟨kk _ _ _ e5 (λe=>o1_ ((e9.o _ e).1)),kk _ _ _ H (λe=>(e9.o _ e).2 rfl),kk _ _ _ y2 (λe=>o1_ ((e9.o _ e).1)),kk _ _ _ z2 (λe=>by have:=g1.o _ e;have:=d9.o;omega)⟩)
       have m4:H_ (∀V r1 A D C,TbI (uT F) (uI F) (uL F) V r1 A D C->∀x∈C,IfV x.d):=zy (λV r1 A D C ht x hx=>(ht.t.q x hx).2.2.2);replace hi:=zy hi;have m8:=kp.o w7 (A_ _ _);clear e7 e8 d6 d8 d2 a5 a7 M7 B7 g3 o7 n7 a4 g9 z3 e0 g8 hf p8 kp b5 e1;clear H e5 y2 z2;go_upto_region 14 with fail;refine tr_ 18 (λV=>z_ V F.fb 5 (P_ F.tu)/\z_ V W.heap.size 1 (S_ b2 fw.length uc)/\z_ V b2 (i*4+2) (.iface hT h6)/\z_ V fq 2 (.iface Q gx)) ?_;refine tz_ 0 ?_;refine tz_ 1 ?_;refine tz_ 2 ?_;refine tz_ 3 ?_;refine tz_ 4 ?_;refine tz_ 5 ?_;refine tz_ 6 ?_;refine tz_ 7 ?_;refine tz_ 8 ?_;refine tz_ 9 ?_;refine tz_ 10 ?_;refine tz_ 11 ?_;refine tz_ 12 ?_;refine tz_ 13 ?_;refine tz_ 14 ?_;refine tz_ 15 ?_;refine zh 16 rfl K_ (λ_=>m8) (λK I=>?_);go_simp;apply(j9.o _ (A_ w7 _).drew).mono;rintro e w8 ⟨r1,A,D,C,z,rfl,hz,e6,ht,hs,hg⟩;refine I _ _ ?_;clear I K m8 j9;have c8:=m9.o _ w8 r1 A (A_ w7 _).drew hs;obtain⟨⟨a0,a1,q0,q1⟩,t0,i3,i4⟩:=k8.o _ w8 r1 A D C z (A_ w7 _).drew hz e6 ht hs hg;have sD:=λW a m=>run_store prog W a z.d m (m4.o w8 r1 A D C ht z hz).one;replace i3:=zy i3;replace i4:=zy i4;clear hz e6 ht hs hg k8 m4 m9;generalize z.n=zn at *;generalize z.d=zd at *;refine t1_ 17 c8 ?_;refine t1_ 18 c8 ?_;refine td_ ?_ _;go_wp2;go_meet;exact⟨_,_,_,_,_,_,i3,i4⟩
     case rest=>
      obtain⟨ks,Dk,r1,A,D,C,M9,Y⟩:=hcut;clear e0 H e5 z2 z3 M7 B7 g3 o7 a4 b5 e1 g8 e7 e8 d6 d8 a7 a5 hw4 d9 h8 h9 i0 g1 i1 e9 b7 q6;obtain⟨hd,a8,g4⟩:=d2.o _ _ _ _ _ _ _ _ _ _ _ _ _ _ _ _ M9 hx Y;obtain⟨s3,s4,rfl⟩:=zw Y.o.row;replace a8:=zy a8;replace g4:=zy g4;go_upto_region 16 with fail;have hC:=zy (bC (w:=wc.drew) (zj Y.o.row (A_ wc N_).drew u_) Y.o.iv Y.o.le (by rw[Y.o.len];exact l8));have bq:=a8.o wc (A_ _ _);have q0:=bq.c0;have q1:=bq.c1;obtain⟨bb,f0⟩:=x_ (btr (jnN ks) n);have nx:=zy (g4.o bb f0);have i5:H_ (∀V kv,IfV kv->Calls prog 148 #[.agg #[I_ n,d],.agg #[Z_ (jnN ks:Int),kv]] V λe w'=>e=.returned (if bb=true then .agg #[Z_ (jnN ks:Int),kv] else .agg #[I_ n,d])/\Fr V w' N_):=zy (λV kv hk=>by rw[<- f0];exact pn hd hk);have o9:=zy hd.one;clear bq g4 d2 hd M9 f0;generalize jnN ks=jn at *;cases bb;all_goals
       simp only[if_true,a1_,if_false]at nx i5;refine tr_ 4 (λV=>z_ V qf 0 (I_ n)/\z_ V qf 1 d) ?_;refine tz_ 0 ?_;refine tz_ 1 ?_;refine zh 2 rfl K_ (λ_=>⟨q0,q1⟩) (λK I=>?_);go_simp;apply hC.o.mono;rintro e w8 ⟨kv,rfl,hk,f8,v0,v1⟩;refine I _ _ ?_;clear I K;have F8:=(A_ wc N_).drew.trans f8 u_;have b8:=a8.o w8 F8;have q8:=b8.c0;have q9:=b8.c1;have k9:=zy (λV=>i5.o V kv hk);have n1:=zy (λV2=>nx.o w8 kv V2 F8 hk v0 v1);have sK:=λW a m=>run_store prog W a kv m hk.one;have sD:=λW a m=>run_store prog W a d m o9;clear i5 nx v0 v1 f8 hk b8 hC;refine zh 3 rfl K_ (λ_=>⟨q8,q9⟩) (λK I=>?_);go_simp;apply(k9.o _).mono;rintro e w9 ⟨rfl,f9⟩;refine I _ _ ?_;clear I K q0 q1 q8 q9;have b9:=a8.o w9 (F8.trans f9 u_);have q0:=b9.c0;have q1:=b9.c1;have t0:=b9.th 0;have t1:=b9.th 1;have fn:=zy (n1.o w9 f9);clear f9 F8 k9 n1 b9 a8 Y;refine t1_ 4 ⟨q0,q1⟩ ?_;refine td_ ?_ _;go_wp2;go_roundg (fr.length+1-(j+1));case measure=>omega
       case rel=>exact⟨j+1,_,_,_,_,_,_,by simp,i7,l_,fn⟩
    .have p6:¬((j:Int)<(fr.length:Int)):=M_;obtain⟨hd,bf,b1,hP⟩:=fin.o _ _ _ _ _ _ _ _ _ _ _ _ M M_;have q0:=bf.cell 0;have q1:=bf.cell 1;have x0:=b1.cell 0;have x1:=b1.cell 1;have t0:=b1.th 0;have t1:=b1.th 1;have sD:=(λW a m=>run_store prog W a d m hd.one);have B8:=(b1.set 0 (I_ n)).set 1 d;have y0:=B8.cell 0;have y1:=B8.cell 1;simp only[an_,ap_,aa_,ab_]at q0 q1 x0 x1 y0 y1;replace hP:=zy hP;clear B8 b1 bf hd M fin;go_wp2;refine bodyPost_ret (v:=.agg #[I_ n,d]) (by simp[results,results162,go_sem,y0,y1]) rfl ?_;exact hP
def kF{ew er:Au}{p':Nat}{X Y:PB}(hb:zi c=false)(hx:ew c=some X)(hy:er c=some Y)(hs:vf X=vf Y):xi ew er (.leaf c p) (.leaf c p')=true:=by
 simp[xi,hb,hx,hy,hs]
def WI{F:FD}{T:Ah}{y rr:PT}{v:Nat}(hv:Via (zx F.ds) (zx F.ds') (.leaf c p) y rr)(hm:xi (zx F.ds) (zx F.ds') (.leaf c p) rr=true)(h:zi c=true\/∃n,zx F.ds c=some (.bytes n)):ClU F T (.leaf c p,y) v:=by
 refine⟨λ_ _ e=>yj_,λ_ hn=>(hv.nev hm hn).elim,λ_ _ _ _ _ e=>yj_,λc1 b d lw lr ow o q e _ hb a=>?_,λc1 b d fw fr g i f e _ hb a=>?_,λc1 b d fw fr g e _ hb a=>?_⟩;all_goals
  cases e;rcases h with h|⟨n,h⟩
  .rw[h]at hb;cases hb
  .rw[h]at a;cases a
def Qy{F:FD}{T:Ah}{x y:PT}{k:Nat}(hx:x.isAlts=false)(hn:Nev (zx F.ds) (zx F.ds') x y)(d:LL F x k):ClU F T (x,y) k:=by
 refine⟨λp ws e=>?_,λ_ _=>⟨k,d,.refl _⟩,λc p p' u u' e hv=>?_,λc p p' lw lr ow o q e hv hb a b=>?_,λc p p' fw fr g i d e hv hb a b=>?_,λc p p' fw fr g e hv hb a b=>?_⟩
 .have e:x=.alts p ws:=e;rw[e]at hx;cases hx
 .have e:x=.wrap c p u:=e;subst e;exact(hv.nev (by simp[xi]) hn).elim
 all_goals
  have e:x=.leaf c p:=e;subst e;exact(hv.nev (kF hb a b rfl) hn).elim
section
variable {F:FD} {W:Aw} {r:By} {rv:Ax} {g:Aq} {T:Ah} {x y rr:PT} {wT:Av} {wx v:Ax} {m:Nat}
def wB(a:F.OK)(b:ql)(h:TbI (uT F) (uI F) (uL F) W r rv g T)(ty:TyV W F.P x (.iface wT wx))(ok:okQ F (.ty x))(hx:x.isAlts=false)(hn:Nev (zx F.ds) (zx F.ds') x y):Calls prog 92 #[P_ F.fb,.iface 307 (.agg #[]),.iface wT wx] W (yB (uT F) (uI F) (uL F) W r rv g T (x,y)):=by
 have j:=vH a;refine sW (tb:=F.tb) h.i.1.i.cell4 (λD hf hb=>?_);have f:=h.new j hf;have k:=bI a b f.i.1 f.i.2 (ty.fr hf u_) ok;apply k.mono;rintro e b ⟨_,C,A,z,rfl,hz,s,b,hs,o⟩;refine yB.ret j h hf hb ?_;obtain⟨l,B⟩:=TbI.data a f b hs o;have q:=(b.t.q z hz).2.2;have sv:=(b.v z hz).1;rw[s]at sv;have u:=svD.data l sv;exact⟨(C,A),rv,g,T,z.n,z.d,rfl,q.1,q.2,l,B,Grw.refl _ _,Qy hx hn (ll o hz s),u.1,λe=>by
  obtain⟨d,d1,a,d3⟩:=u.2 e
  exact⟨d,⟨.never hx hn (d1.1 _ rfl),d1.2⟩,a,d3⟩⟩
def fJ(a:F.OK)(h:TbI (uT F) (uI F) (uL F) W r rv g T)(hv:Via (zx F.ds) (zx F.ds') (.leaf c p) y rr)(hm:xi (zx F.ds) (zx F.ds') (.leaf c p) rr=true)(hc:zi c=true\/∃n,zx F.ds c=some (.bytes n)):Calls prog 92 #[P_ F.fb,.iface 275 (.agg #[]),.iface wT wx] W (yB (uT F) (uI F) (uL F) W r rv g T (.leaf c p,y)):=
 eB (λb hf=>⟨r,rv,g,T,0,.nilIface,rfl,M_,.inl rfl,h.new (vH a) hf,C_ hf (λ_ h=>h),Grw.refl _ _,WI hv hm hc,(vH a).z _ _ _⟩)
def mr(d:F.OK)(H:ql){Z:Ds}(G:KOK (uT F) (uI F) (uL F) 54 prV m)(h:TbI (uT F) (uI F) (uL F) W r rv g T)(ty:TyV W F.P x (.iface wT wx))(ok:okQ F (.ty x))(a0:okY F rr)(hx:x.isAlts=false)(hv:Via (zx F.ds) (zx F.ds') x y rr)(S:xi (zx F.ds) (zx F.ds') x rr=false->Nev (zx F.ds) (zx F.ds') x y)(hm:90000<=T.length+m)(R:MtV W F.P F.P' F.s F.s' (zx F.ds) (zx F.ds') Z x rr v):Calls prog 92 #[P_ F.fb,v,.iface wT wx] W (yB (uT F) (uI F) (uL F) W r rv g T (x,y)):=by
 have f:=vH d;cases R with
 |never h0=>exact wB d H h ty ok hx (S h0)
 |same hc h0=>exact fJ d h hv h0 (.inl hc)
 |items hc ha hb=>
  obtain⟨aT,ax,rfl⟩:=ha.iface;obtain⟨bT,bx,rfl⟩:=hb.iface;obtain⟨Y,I,J⟩:=a0;unfold okT at I;unfold vq at J;refine lz (λE hf t=>?_);have k:=sG d G (h.new f hf) (ha.fr hf u_) (hb.fr hf u_) (ty.fr hf u_) ok ⟨Y.wrap,I.2,J⟩ hv hm;exact k.mono (λe L hp=>yB.ret f h hf t hp)
 |body hn hx' hy' ha hb hz hmb hs=>
  have l:=xM hn;cases hmb with
  |never h0=>exact absurd hs h0
  |same=>exact fJ d h hv (kF l hx' hy' hs) (.inr ⟨_,hx'⟩)
  |flds=>
   cases ha with
   |recd pw ho hP hF hp=>
    cases hb with
    |recd pr ho' hP' hF' hp'=>
     obtain⟨ua,uc,rfl⟩:=zw ho;obtain⟨va,vc,rfl⟩:=zw ho';refine cd (λE hf t=>?_);have k:=da d H G (h.new f hf) (xh.fr ⟨ho,hP,hF⟩ hf u_) (xh.fr ⟨ho',hP',hF'⟩ hf u_) hp hp' hv (kF l hx' hy' hs) l hx' hy' hm;exact k.mono (λe L hp=>yB.ret f h hf t hp)
  |syms=>
   cases ha with
   |enum pw ho hP hu hp=>
    cases hb with
    |enum pr ho' hP' hu' hp'=>
     obtain⟨ua,uc,rfl⟩:=zw ho;obtain⟨va,vc,rfl⟩:=zw ho';obtain⟨ud,rfl⟩:=hu.ptr;obtain⟨vd,rfl⟩:=hu'.ptr;rename_i lw lr ow o;have hg:=(d.g _ _ hx').1;have N:=(d.g' _ _ hy').1;refine ui (λE hf t=>?_);have k:=Vt (p:=(pw:Int)) (q:=(pr:Int)) (a:=ud) (zj ho hf u_) (zj ho' hf u_) (hu'.fr hf u_) hg.1 N.1;apply k.mono;rintro e L ⟨D,U⟩;refine yB.ret f h hf t ?_;have K:=(h.new f hf).new f D;rcases U with⟨rfl,M⟩|⟨i,j,hi,hr,rfl⟩
     .refine⟨r,rv,g,T,0,.nilIface,rfl,M_,.inl rfl,K,C_ D (λ_ h=>h),Grw.refl _ _,?_,f.z _ _ _⟩;refine⟨λ_ _ e=>yj_,λ_ hn=>(hv.nev (kF l hx' hy' hs) hn).elim,λ_ _ _ _ _ e=>yj_,λc1 A B a3 a2 a4 o1 q e _ hb b C V hr=>?_,λc1 A B fw fr g i O e _ hb b=>?_,λc1 A B fw fr g e _ hb b=>?_⟩
      .cases e;rw[hx']at b;cases b;rw[hy']at C;cases C;have hl:=aj_ V;refine absurd ?_ (M q _ hl);rw[as_,ax_,hl]at hr;exact hr
      .cases e;rw[hx']at b;cases b
      .cases e;rw[hx']at b;cases b
     .have Q:=(ak_.1 hi).1;have X:=hg.2.1 j (ai_ hi);have hc:j.1<256:=by
       have:97<=j.1/\j.1<=122:=by simpa[zl] using X
       omega
      have a1:lw.length<=300:=hg.1;refine⟨r,rv,g,T,1,_,rfl,M_,.inr ⟨_,_,rfl⟩,K,C_ D (λ_ h=>h),Grw.refl _ _,?_,λe=>M_,λ_=>?_⟩
      .refine⟨λ_ _ e=>yj_,λ_ hn=>(hv.nev (kF l hx' hy' hs) hn).elim,λ_ _ _ _ _ e=>yj_,λ_ _ _ _ _ _ _ _ _ _ _ _ _ _ _=>.refl _,λc1 A B fw fr g i O e _ hb b=>?_,λc1 A B fw fr g e _ hb b=>?_⟩
       .cases e;rw[hx']at b;cases b
       .cases e;rw[hx']at b;cases b
      .refine⟨.mk 101 (i:Int) noB [] [],⟨.sym hv l hx' hy' Q (by rw[as_,ax_,hi];exact hr),.leaf x6_ D_⟩,by simp[nd3,ndT,za],λ_ u hu=>?_⟩;have hu:u=_:=hu;subst hu;refine .flat (.sym i j.1 M_) (λn l' e=>?_);simp only[Value.iface.injEq,Value.agg.injEq,true_and,Array.mk.injEq,List.cons.injEq,Value.int.injEq,and_true]at e;obtain⟨b,C⟩:=e;obtain rfl:i=n:=M_;obtain rfl:l'=j.1:=M_;exact⟨by simp[fU,hx',as_,ax_,hi],hc⟩
def eU(b:F.OK)(j:ql){Z:Ds}(f:KOK (uT F) (uI F) (uL F) 54 prV m)(h:TbI (uT F) (uI F) (uL F) W r rv g T)(ty:TyV W F.P x (.iface wT wx))(ok:okQ F (.ty x))(q:okY F y)(hm:90000<=T.length+m)(D:MeV W F.P F.P' F.s F.s' (zx F.ds) (zx F.ds') Z x y v):Calls prog 92 #[P_ F.fb,v,.iface wT wx] W (yB (uT F) (uI F) (uL F) W r rv g T (x,y)):=by
 have d:=vH b;cases D with
 |outb X ho hX hb hP=>
  obtain⟨J,bx,rfl⟩:=hb.iface;obtain⟨K,L,rfl⟩:=zw ho;refine sQ (λB hf l=>?_);have k:=Zt b f (h.new d hf) (zj ho hf u_) hP (λi t e=>(hX i t e).fr hf u_) (hb.fr hf u_) ok q hm;exact k.mono (λe I hp=>yB.ret d h hf l hp)
 |flat fx fy o=>
  have hy:y.isAlts=false:=by cases y<;>first|rfl|exact fy.elim
  have hx:x.isAlts=false:=by cases x<;>first|rfl|exact fx.elim
  exact mr b j f h ty ok q hx (.inl ⟨hy,rfl⟩) (λh0=>.inl ⟨hy,h0⟩) hm o
 |into fx a=>
  rename_i p rs;have hx:x.isAlts=false:=by cases x<;>first|rfl|exact fx.elim
  cases hk:xZ (zx F.ds) (zx F.ds') x rs 0 none with
  |none=>
   rw[hk]at a;have a:v=_:=a;subst a;exact wB b j h ty ok hx (.inr ⟨p,rs,rfl,hk⟩)
  |some k=>
   rw[hk]at a;obtain⟨rr,T',u,hr,rfl,C,o⟩:=a;have n:=ai_ hr;obtain⟨E,G,A⟩:=q;have z:=G;unfold okT at z;unfold vq at A;have H:okY F rr:=⟨E.alts rr n,(vI z.2 rr n).2,(kU A.2 rr n)⟩;refine eP (λB hf l=>?_);have k:=mr b j f (h.new d hf) (ty.fr hf u_) ok H hx (.inr ⟨p,rs,k,rfl,hk,hr⟩) (λh0=>by rw[C]at h0;cases h0) hm (o.fr hf u_ u_);exact k.mono (λe I hp=>yB.ret d h hf l hp)
end
def gi{F:FD}(N:F.OK)(a0:ql){m:Nat}(t:KOK (uT F) (uI F) (uL F) 54 prV m):FOK (uT F) (uI F) (uL F) 53 (P_ F.fb) prV m:=by
 rintro W r rv g T ⟨x,y⟩ v h A ⟨⟨u,u',rfl,ty,L⟩,-⟩ hm;obtain⟨l,q,rfl⟩:=ty.iface;obtain⟨s,bx,rfl⟩:=L.iface;obtain⟨O,I⟩:=y_ (yB (uT F) (uI F) (uL F) W r rv g T (x,y));rw[<- I.o];have z:=vH N;obtain⟨w1,hw1⟩:=e_ ((W.alloc (.cells #[.iface l q,.iface s bx] 92)).alloc (.cells #[O_,.nilIface] 85));have B:Fr W w1 N_:=x9_
 have C:Blk w1 W.heap.size [.iface l q,.iface s bx] 92:=xe_
 have M:Blk w1 (W.heap.size+1) [O_,.nilIface] 85:=by
  rw[hw1];have:=B_ (W.alloc (.cells #[.iface l q,.iface s bx] 92)) #[O_,.nilIface] 85;rw[zm]at this;exact this
 have hl:=λx (hx:TSS (uT F) (uL F) rv r x)=>(h.li z hx);have a1:F.fb<W.heap.size:=y1_
 have fb:∀V,Fr w1 V N_->Blk V F.fb [F.sv,.iface F.sT F.sx,F.sv',.iface F.rT F.rx,P_ F.tb,P_ F.tu] 89:=λV j=>(h.new z (B.trans j u_)).i.1.i.b;obtain⟨sa,sc,X⟩:=zw h.i.1.i.D.row;obtain⟨ra,rc,Y⟩:=zw h.i.1.i.E.row;have G:H_ (∀V,Fr w1 V N_->V.cell? ⟨F.fb,0,none⟩=some F.sv/\V.cell? ⟨F.fb,1,none⟩=some (.iface F.sT F.sx)/\V.cell? ⟨F.fb,2,none⟩=some F.sv'/\V.cell? ⟨F.fb,3,none⟩=some (.iface F.rT F.rx)/\V.cell? ⟨W.heap.size,0,none⟩=some (.iface l q)/\V.cell? ⟨W.heap.size,1,none⟩=some (.iface s bx)):=zy (λV j=>⟨(fb V j).cell 0,(fb V j).cell 1,(fb V j).cell 2,(fb V j).cell 3,(j.bl C id).cell 0,(j.bl C id).cell 1⟩);have call:H_ (∀V,Fr w1 V N_->Calls prog 86 #[.agg #[F.sv,.iface F.sT F.sx,F.sv',.iface F.rT F.rx],.iface l q,.iface s bx] V λe w'=>∃v,e=.returned v/\Fr V w' N_/\(∃T u,v=.iface T u)/\Calls prog 92 #[P_ F.fb,v,.iface l q] w' (yB (uT F) (uI F) (uL F) w' r rv g T (x,y))):=zy (λV j=>by
  have hf:=B.trans j u_
  have tV:=h.new z hf
  have k:=aO (sT:=F.sT) (sx:=F.sx) (rT:=F.rT) (rx:=F.rx) tV.i.1.i.D tV.i.1.i.E (ty.fr hf u_) (L.fr hf u_) A.1.2.1 A.2.2.1 A.2.2.2
  apply k.mono
  rintro e w' ⟨v,rfl,f',U⟩
  have S:=hf.trans f' u_
  exact⟨v,rfl,f',U.iface,eU N a0 t (h.new z S) (ty.fr S u_) A.1 A.2 hm U⟩)
 have fin:H_ (∀V f e,Fr w1 V N_->yB (uT F) (uI F) (uL F) V r rv g T (x,y) e f->∃(n:Nat) (d:Value),e=.returned (.agg #[I_ n,d])/\IfV d/\Blk f (W.heap.size+1) [O_,.nilIface] 85/\(f.cell? ⟨F.fb,0,none⟩=some F.sv/\f.cell? ⟨F.fb,1,none⟩=some (.iface F.sT F.sx)/\f.cell? ⟨F.fb,2,none⟩=some F.sv'/\f.cell? ⟨F.fb,3,none⟩=some (.iface F.rT F.rx)/\f.cell? ⟨W.heap.size,0,none⟩=some (.iface l q)/\f.cell? ⟨W.heap.size,1,none⟩=some (.iface s bx))/\O (.returned (.agg #[I_ n,d])) ((f.setCell ⟨W.heap.size+1,0,none⟩ (I_ n)).setCell ⟨W.heap.size+1,1,none⟩ d)):=zy (λV f e j hp=>by
  obtain⟨r',rv',g',T',n,d,rfl,hn,hd,Z,hs,hg,hc,hv⟩:=hp
  have b3:=hs.1.bl (j.bl M id) (λe=>o1_ ((hl _ e).2))
  have b0:=hs.1.bl (j.bl C id) (λe=>o1_ ((hl _ e).2))
  have bf:=Z.i.1.i.b
  refine⟨n,d,rfl,hd,b3,⟨bf.cell 0,bf.cell 1,bf.cell 2,bf.cell 3,b0.cell 0,b0.cell 1⟩,?_⟩
  rw[I.o]
  have J:=J_ f (W.heap.size+1) 0 1 (I_ n) d
  have hs':=(C_ (B.trans j u_) (λ_ h=>h)).trans hs
  exact⟨r',rv',g',T',n,d,rfl,hn,hd,Z.put z (by show F.fb<W.heap.size+1;omega) b3 J,⟨hs'.1.trans J (λx hx e=>M_),hs'.2⟩,hg,hc,z.svp _ _ _ _ _ _ _ _ hv b3 J⟩)
 have c0:=G.o w1 (A_ _ _);rw[X,Y]at c0 call G fin;replace hw1:=zy hw1;show Calls prog 53 #[P_ F.fb,.agg #[.iface l q,.iface s bx]] W O;go_in;go_upto_region 1 with fail;rw[<- hw1.o];refine tr_ 13 (λV=>z_ V F.fb 0 (.slice sa F.ds.length sc)/\z_ V F.fb 1 (.iface F.sT F.sx)/\z_ V F.fb 2 (.slice ra F.ds'.length rc)/\z_ V F.fb 3 (.iface F.rT F.rx)/\z_ V W.heap.size 0 (.iface l q)/\z_ V W.heap.size 1 (.iface s bx)) ?_;refine tz_ 0 ?_;refine tz_ 1 ?_;refine tz_ 2 ?_;refine tz_ 3 ?_;refine tz_ 4 ?_;refine tz_ 5 ?_;refine tz_ 6 ?_;refine tz_ 7 ?_;refine tz_ 8 ?_;refine tz_ 10 ?_;refine tz_ 11 ?_;refine zh 9 rfl K_ (λ_=>c0) (λK t=>?_);go_simp;apply(call.o _ (A_ w1 _).drew).mono;rintro e w2 ⟨v,rfl,P,⟨j,j,rfl⟩,H⟩;refine t _ _ ?_;have j:=(A_ w1 N_).drew.trans P u_;have c2:=G.o w2 j;have Q:=zy (λf e=>fin.o w2 f e j);replace H:=zy H;refine zh 12 rfl K_ (λ_=>c2) (λK t=>?_);go_simp;apply H.o.mono;rintro e f hp;obtain⟨n,d,rfl,hd,hb,c3,hP⟩:=Q.o f e hp;refine t _ _ ?_;have q:=hb.cell 0;have s:=hb.cell 1;have f:=hb.th 0;have f:=hb.th 1;have f:=(λW a m=>run_store prog W a d m hd.one);have f:=(hb.set 0 (I_ n)).set 1 d;have j:=f.cell 0;have l:=f.cell 1;simp only[an_,ap_,aa_,ab_]at q s j l;replace hP:=zy hP;refine t1_ 13 c3 ?_;refine td_ ?_ _;go_wp2;refine bodyPost_ret (v:=.agg #[I_ n,d]) (by simp[results,results53,go_sem,j,l]) rfl ?_;exact hP
def jv:∀a W,(callFunc 53 a).run prog W=.ok (.enter 53 a) W:=qZ func53 K_ rfl
def ZQ{F:FD}(b:F.OK){W:Aw}{a:Es}{v:Ay}(h:(uT F).QV W a v):Gl kvU a v:=by
 obtain⟨⟨u,u',rfl,h1,d⟩,ha⟩:=h;obtain⟨T,x,rfl⟩:=h1.iface;obtain⟨T',e,rfl⟩:=d.iface;have:=lQ ha.1.1;have:=lQ ha.2.1;have:=b.hs;have:=b.hs';exact⟨T,x,T',e,a.1.place,a.2.place,rfl,rfl,M_,M_,wR h1,wR d⟩
def lV{F:FD}(b:F.OK)(d:ql):∀m,KOK (uT F) (uI F) (uL F) 54 prV m:=by
 intro m;induction m with
 |zero=>exact ng (Xo b) (vH b) jv (λW a v h=>ZQ b h) M_ (λf e=>by cases e)
 |succ m ih=>exact ng (Xo b) (vH b) jv (λW a v h=>ZQ b h) M_ (λf e=>by cases e;exact gi b d ih)
def sA{F:FD}(b:F.OK)(l:ql){W:Aw}{r:By}{rv:Ax}{T:Ah}{a:Es}{j vT:Av}{ux vx:Ax}(h:TbI (uT F) (uI F) (uL F) W r rv false T)(s:Gd (ClU F) T)(ty:TyV W F.P a.1 (.iface j ux))(o:TyV W F.P' a.2 (.iface vT vx))(ok:uQ F a):Calls prog 30 #[P_ F.tu,.agg #[.iface j ux,.iface vT vx]] W (cg (uT F) (uI F) (uL F) W r rv a):=by
 have d:=vH b;have qv:(uT F).QV W a [.iface j ux,.iface vT vx]:=⟨⟨_,_,rfl,ty,o⟩,ok⟩;have o:=@Kj (PT×PT) (Value×List (Rw Qu)) (uT F) kvU (uQ F) (λa=>a.1.place*300+a.2.place) 90000 F.fb F.tu F.mu (.func (.func 52) #[] #[]) (.func (.func 53) #[P_ F.fb] #[]) W r rv T a j vT ux vx (Xo b) d h s qv M_;have s:uI F=IU kvU (uQ F) (λa=>a.1.place*300+a.2.place) 90000:=rfl;have z:uL F=⟨F.fb,F.tu,F.mu,.func (.func 52) #[] #[],.func (.func 53) #[P_ F.fb] #[]⟩:=rfl;rw[<- s,<- z]at o;refine o ?_ ?_ ?_
 .intro V o;have s:=d.qv _ _ _ _ _ qv o (λ_ f=>f.elim);have k:=lV b l 90000 V r rv false T a [.iface j ux,.iface vT vx] (h.new d o) ok s (by show 90000<=_;omega);exact k
 .intro V r rv g T j o ha;have k:=mM d (λW a v h=>ZQ b h) j o ha;exact k
 .intro V r rv g T i x j hx;have s:=ai_ hx;have k:=PI (Xo b) d (λw n m dv kv=>jA) jv j hx (λW' u u' o e=>by
   have k:=gi b l (lV b l 90000) W' r rv g T x.a x.v (j.new d o) (j.t.q x s).1 (d.qv _ _ _ _ _ (j.v x s).2 o (λ_ f=>f.elim)) (by show 90000<=_;omega)
   rw[e]at k
   exact k)
  exact k
def Xd(kf ff:Ax)(TT:Av)(w:Aw)(e:Ak)(w':Aw):Prop:=
 e=.returned (.pointer (some ⟨w.heap.size+1,0,none⟩))/\Fr w w' N_/\w'.heap.size=w.heap.size+2/\w'.heap[w.heap.size]?=some (.map #[] 0)/\Blk w' (w.heap.size+1) [kf,ff,L_,.map (some w.heap.size),.bool false] TT
def XU{kf ff:Ax}{TT:Av}:Xd kf ff TT w (.returned (.pointer (some ⟨w.heap.size+1,0,none⟩))) ((w.alloc (.map #[] 0)).alloc (.cells #[kf,ff,L_,.map (some w.heap.size),.bool false] TT)):=by
 refine⟨rfl,((A_ w _).alloc _).alloc _,by rw[zm,zm],?_,?_⟩
 .have h:(w.alloc (.map #[] 0)).heap[w.heap.size]?=some (.map #[] 0):=by show(w.heap.push _)[w.heap.size]?=_;simp
  have hf:=(A_ (w.alloc (.map #[] 0)) N_).alloc (.cells #[kf,ff,L_,.map (some w.heap.size),.bool false] TT);rw[hf.block w.heap.size (by rw[zm];omega) id];exact h
 .have h:=B_ (w.alloc (.map #[] 0)) #[kf,ff,L_,.map (some w.heap.size),.bool false] TT;rw[zm]at h;exact h
def KE{fn:Et}{fa:Dy}:Calls prog 49 #[.func (.methodOf 46 "Place") #[] #[],.func (.func fn) fa #[]] w (Xd (.func (.methodOf 46 "Place") #[] #[]) (.func (.func fn) fa #[]) 213 w):=by
 obtain⟨b,a⟩:=y_ (Xd (.func (.methodOf 46 "Place") #[] #[]) (.func (.func fn) fa #[]) 213 w)
 rw[<- a.o];have mm:∀t W,(Instr.makeMap t none).run prog W=.ok (.map (some W.heap.size)) (W.alloc (.map #[] 0)):=λ_ _=>rfl;go_in;go_wp2;try go_ret
 rw[a.o];exact XU
def KI{k fn:Et}{fa:Dy}:Calls prog 51 #[.func (.func k) #[] #[],.func (.func fn) fa #[]] w (Xd (.func (.func k) #[] #[]) (.func (.func fn) fa #[]) 134 w):=by
 obtain⟨b,a⟩:=y_ (Xd (.func (.func k) #[] #[]) (.func (.func fn) fa #[]) 134 w);rw[<- a.o];have mm:∀t W,(Instr.makeMap t none).run prog W=.ok (.map (some W.heap.size)) (W.alloc (.map #[] 0)):=λ_ _=>rfl;go_in;go_wp2;try go_ret
 rw[a.o];exact XU
def ee(sv sv':Ax)(sT rT:Av)(sx rx:Ax)(w:Aw)(e:Ak)(w':Aw):Prop:=
 ∃fb tb mb tu mu,e=.returned (P_ fb)/\Fr w w' N_/\w.heap.size<=fb/\fb<tb/\fb<mb/\fb<tu/\fb<mu/\mb≠mu/\
  Blk w' fb [sv,.iface sT sx,sv',.iface rT rx,P_ tb,P_ tu] 89/\
  w'.heap[mb]?=some (.map #[] 0)/\Blk w' tb [.func (.methodOf 46 "Place") #[] #[],.func (.func 50) #[P_ fb] #[],L_,.map (some mb),.bool false] 213/\
  w'.heap[mu]?=some (.map #[] 0)/\Blk w' tu [.func (.func 52) #[] #[],.func (.func 53) #[P_ fb] #[],L_,.map (some mu),.bool false] 134
def dU{sa ra:Am}{sn sc rn rc:Nat}{sT rT:Av}{sx rx:Ax}:Calls prog 29 #[.agg #[.slice sa sn sc,.iface sT sx,.slice ra rn rc,.iface rT rx]] w (ee (.slice sa sn sc) (.slice ra rn rc) sT rT sx rx w):=by
 obtain⟨n,s⟩:=y_ (ee (.slice sa sn sc) (.slice ra rn rc) sT rT sx rx w);rw[<- s.o];obtain⟨w1,hw1⟩:=e_ ((w.alloc (.cells #[.slice sa sn sc,.iface sT sx,.slice ra rn rc,.iface rT rx] 83)).alloc (.cells #[.slice sa sn sc,.iface sT sx,.slice ra rn rc,.iface rT rx,.pointer none,.pointer none] 89));obtain⟨fb,i⟩:=e_ (w.heap.size+1);have u:Fr w w1 N_:=xz_
 have t:w1.heap.size=fb+1:=by rw[hw1,zm,zm,i]
 have z:Blk w1 fb [.slice sa sn sc,.iface sT sx,.slice ra rn rc,.iface rT rx,.pointer none,.pointer none] 89:=by
  rw[hw1,i];have h:=B_ (w.alloc (.cells #[.slice sa sn sc,.iface sT sx,.slice ra rn rc,.iface rT rx] 83)) #[.slice sa sn sc,.iface sT sx,.slice ra rn rc,.iface rT rx,.pointer none,.pointer none] 89;rw[zm]at h;exact h
 have one:H_ (∀e a,Xd (.func (.methodOf 46 "Place") #[] #[]) (.func (.func 50) #[P_ fb] #[]) 213 w1 e a->e=.returned (.pointer (some ⟨fb+2,0,none⟩))/\(∃x,a.cell? ⟨fb,4,none⟩=some x)/\a.frozen? ⟨fb,4,none⟩=false/\∀(d:World),d=a.setCell ⟨fb,4,none⟩ (.pointer (some ⟨fb+2,0,none⟩))->∀e' b,Xd (.func (.func 52) #[] #[]) (.func (.func 53) #[P_ fb] #[]) 134 d e' b->e'=.returned (.pointer (some ⟨fb+4,0,none⟩))/\(∃x,b.cell? ⟨fb,5,none⟩=some x)/\b.frozen? ⟨fb,5,none⟩=false/\n (.returned (P_ fb)) (b.setCell ⟨fb,5,none⟩ (.pointer (some ⟨fb+4,0,none⟩)))):=zy (λe a k=>by
  obtain⟨rfl,C,H,E,b2⟩:=k
  rw[t]at H E b2
  have n:=C.bl z id
  refine⟨by rw[t],⟨_,n.cell 4⟩,n.th 4,λd f e' b l=>?_⟩
  have A:Fr a d (λx=>x=fb):=by rw[f];exact X_ a ⟨fb,4,none⟩ _
  have J:Blk d fb [.slice sa sn sc,.iface sT sx,.slice ra rn rc,.iface rT rx,.pointer (some ⟨fb+2,0,none⟩),.pointer none] 89:=by rw[f];exact n.set 4 _
  have I:d.heap.size=fb+3:=by rw[f];show(a.heap.modify fb _).size=_;rw[Array.size_modify,H]
  obtain⟨rfl,f4,n,G,B⟩:=l
  rw[I]at n G B
  have n:=f4.bl J id
  refine⟨by rw[I],⟨_,n.cell 5⟩,n.th 5,?_⟩
  have j:Fr b (b.setCell ⟨fb,5,none⟩ (.pointer (some ⟨fb+4,0,none⟩))) (λx=>x=fb):=X_ b ⟨fb,5,none⟩ (.pointer (some ⟨fb+4,0,none⟩))
  have K:Blk (b.setCell ⟨fb,5,none⟩ (.pointer (some ⟨fb+4,0,none⟩))) fb [.slice sa sn sc,.iface sT sx,.slice ra rn rc,.iface rT rx,.pointer (some ⟨fb+2,0,none⟩),.pointer (some ⟨fb+4,0,none⟩)] 89:=n.set 5 _
  rw[s.o]
  have n:fb+1+1=fb+2:=rfl
  have n:fb+3+1=fb+4:=rfl
  have D:∀g,g≠fb->g<a.heap.size->(b.setCell ⟨fb,5,none⟩ (.pointer (some ⟨fb+4,0,none⟩))).heap[g]?=a.heap[g]?:=λg hg hl=>by
   rw[j.block g M_ hg,f4.block g M_ id,A.block g hl hg]
  refine⟨fb,fb+2,fb+1,fb+4,fb+3,rfl,?_,M_,M_,M_,M_,M_,M_,K,?_,?_,?_,j.bl B M_⟩
  .refine Fr.trans (Fr.trans (Fr.trans (u.trans C u_) A (λx hx e=>?_)) f4 u_) j (λx hx e=>?_)
   .have e:x=fb:=e
    omega
   .have e:x=fb:=e
    omega
  .rw[D _ M_ M_]
   exact E
  .unfold Blk at b2⊢
   rw[D _ M_ M_]
   exact b2
  .rw[j.block _ M_ (by show ¬_=fb;omega)]
   exact G)
 have call:H_ (∀V,Calls prog 49 #[.func (.methodOf 46 "Place") #[] #[],.func (.func 50) #[P_ fb] #[]] V _):=zy (λV=>KE)
 have L:H_ (∀V,Calls prog 51 #[.func (.func 52) #[] #[],.func (.func 53) #[P_ fb] #[]] V _):=zy (λV=>KI);replace hw1:=zy hw1;replace i:=zy i;clear u t z s;go_in;go_upto_region 2 with fail;rw[<- hw1.o,<- i.o];clear hw1 i;go_upto_region 3 with(go_at_call 49;apply(call.o _).mono;rintro e a k;obtain⟨rfl,⟨i,c4⟩,t4,nx⟩:=one.o e a k;replace nx:=zy nx;clear k);obtain⟨d,f⟩:=e_ (a.setCell ⟨fb,4,none⟩ (.pointer (some ⟨fb+2,0,none⟩)));have M:=zy (nx.o d f);rw[<- f];clear f nx c4 t4;go_wp2_with (go_at_call 51;apply(L.o _).mono;rintro e b l;obtain⟨rfl,⟨a,c5⟩,t5,a⟩:=M.o e b l;replace a:=zy a;clear l);try go_ret
 exact a
end Go.Proofs.YtokgeopihcopeaaGreatDoor
