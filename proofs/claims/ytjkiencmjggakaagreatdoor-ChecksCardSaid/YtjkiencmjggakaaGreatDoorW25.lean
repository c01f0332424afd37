import Derived.Test.YtjkiencmjggakaaGreatDoorW24
set_option maxHeartbeats 16000000
set_option maxRecDepth 100000
set_option linter.unusedVariables false
set_option linter.defProp false
set_option linter.unusedSimpArgs false
open Go.Proofs.Tryz
namespace Go.Proofs.YtjkiencmjggakaaGreatDoor
open Go.RowKit
variable {c p:Nat}{w:World}
def cU{F:FD}(G:F.OK)(n9:jM){W:World}{r:Value×List (Rw Qu)}{rv:Value}{g:Bool}{T:List (Rw (PT×PT))}{p' m pw pr:Nat}{y:PT}{fw fr:List PF}{ua va:Option Addr}{uc vc:Nat}{xs ys:List Value}(I:KOK (uT F) (uI F) (uL F) 52 prV m)(h:TbI (uT F) (uI F) (uL F) W r rv g T)(hw:xB W F.P F.s fw (.slice ua fw.length uc) xs)(hr:xB W F.P' F.s' fr (.slice va fr.length vc) ys)(m0:pB F.s pw (.recd fw))(l9:pB F.s' pr (.recd fr))(hv:Via (zx F.ds) (zx F.ds') (.leaf c p) y (.leaf c p'))(l7:yW (zx F.ds) (zx F.ds') (.leaf c p) (.leaf c p')=true)(hb:zu c=false)(b5:zx F.ds c=some (.recd fw))(b4:zx F.ds' c=some (.recd fr))(hm:90000<=T.length+m):Calls prog 125 #[P_ F.fb,.agg #[I_ pw,.slice ua fw.length uc,I_ pr,.slice va fr.length vc]] W (yi (uT F) (uI F) (uL F) W r rv g T (.leaf c p,y)):=by
 obtain⟨n6,Q_⟩:=y_ (yi (uT F) (uI F) (uL F) W r rv g T (.leaf c p,y));rw[<- Q_.o];have a4:=vo G;obtain⟨l4,i9⟩:=Jz G (p:=pw) (fs:=fw) ⟨m0,c,b5⟩;have r5:fr.length<=300:=(G.g' c _ b4).1.1;have l8:∀f∈fr,okY F f.ty:=λf hf=>by
  obtain⟨j,hp⟩:=l9;exact⟨Zn hp f hf,G.e' c _ b4 f hf,ZA _ ((G.g' c _ b4).1.2.2 f hf)⟩
 obtain⟨c0,f1⟩:∃l:List Value,l=[I_ pw,.slice ua fw.length uc,I_ pr,.slice va fr.length vc]:=⟨_,rfl⟩;obtain⟨w3,h2⟩:=e_ ((W.alloc (.cells #[I_ pw,.slice ua fw.length uc,I_ pr,.slice va fr.length vc] 283)).alloc (.cells #[O_,.nilIface] 88));obtain⟨O,a3⟩:=e_ (RFM (uT F) (uI F) (uL F) F fw (λ_ f k=>LL F f.ty k) c0 283 W r rv g T);have start:O [] (λ_=>.nilIface) (L_) w3 r rv g T:=by rw[h2,a3,f1];exact .start a4 h #[I_ pw,.slice ua fw.length uc,I_ pr,.slice va fr.length vc] 283
 have c1:=(show RFM (uT F) (uI F) (uL F) F _ _ _ _ W r rv g T _ _ _ _ _ _ _ _ from a3▸start).o0.1.cell 1;rw[f1]at c1;simp only[aa_,ab_]at c1;have i5:∀x,TSS (uT F) (uL F) rv r x->F.fb<x:=λx e=>(h.li a4 e).1;have g9:∀x,F.P x->¬TSS (uT F) (uL F) rv r x:=λx hx e=>by have:=i5 x e;have:=G.pP x hx;omega
 have j0:∀x,F.P' x->¬TSS (uT F) (uL F) rv r x:=λx hx e=>by have:=i5 x e;have:=G.pP' x hx;omega
 have q7:F.fb<W.heap.size:=by have:F.fb<F.tu/\F.tu<W.heap.size:=h.li a4 (.inl (.inl rfl));omega
 have item:H_ (∀V r' rv' g' T' ns Dv lv f q,O ns Dv lv V r' rv' g' T'->fw[q]?=some f->∃b J fx fd,ua=some ⟨b,0,none⟩/\V.cell? ⟨b,q*4,none⟩=some (I_ f.place)/\V.cell? ⟨b,q*4+1,none⟩=some (U_ f.letter)/\V.cell? ⟨b,q*4+2,none⟩=some (.iface J fx)/\V.cell? ⟨b,q*4+3,none⟩=some (.pointer fd)/\V.cell? ⟨F.fb,4,none⟩=some (P_ F.tb)/\TyV V F.P f.ty (.iface J fx)):=zy (λV r' rv' g' T' ns Dv lv f q M hf=>by
  rw[a3]at M
  have o1:=zj hw.row M.st.1 (λx e=>g9 x (hw.off x e))
  obtain⟨b,cap,e⟩:=zm o1 (by have:=(ae_.1 hf).1;omega)
  cases e
  obtain⟨J,fx,fd,k1,k2,k3,k4,k5,k6⟩:=wR o1 (hw.V.fr M.st.1 g9) hf
  exact⟨b,J,fx,fd,rfl,k1,k2,k3,k4,M.ti.i.1.i.cell4,k5⟩)
 have call:H_ (∀V r' rv' g' T' ns Dv lv f J fx,O ns Dv lv V r' rv' g' T'->fw[ns.length]?=some f->TyV V F.P f.ty (.iface J fx)->Calls prog 121 #[P_ F.tb,.iface J fx] V (uy (dT F) (dI F) (dL F) V () r'.1 (.ty f.ty))):=zy (λV r' rv' g' T' ns Dv lv f J fx M hf ty=>by
  rw[a3]at M
  exact fE G n9 M.ti.i.1 M.ti.i.2 ty (i9 f (aj_ hf)))
 have known:H_ (∀V r' rv' g' T' ns Dv lv V1 a7 Td,O ns Dv lv V r' rv' g' T'->TbI (dT F) (dI F) (dL F) V1 () a7 false Td->Stp V V1 (TSS (dT F) (dL F) r'.1 ()) (TSS (dT F) (dL F) a7 ())->Gd (ClD F) Td->O ns Dv lv V1 (a7,Td) rv' g' T'/\Stp V V1 (TSS (uT F) (uL F) rv' r') (TSS (uT F) (uL F) rv' (a7,Td))):=zy (λV r' rv' g' T' ns Dv lv V1 a7 Td M ht hs hg=>by
  rw[a3]at M⊢
  obtain⟨a1,a2⟩:=TbI.data G M.ti ht hs hg
  exact⟨M.known a4 (λ_ _ _ _ k=>k) a1 a2 (Grw.refl _ _),a2⟩)
 have next:H_ (∀V a7 Td rv' g' T' ns Dv lv f (x:Rw Qu) o L v5,O ns Dv lv V (a7,Td) rv' g' T'->fw[ns.length]?=some f->x∈Td->x.a=.ty f.ty->L.ownsRow (W.heap.size+2) 88 2 v5 (ns.length+1) (((List.range ns.length).flatMap λj=>[z_ ((ns.getD j 0:Nat):Int),Dv j])++[I_ x.n,x.d])->(V.alloc o).grownBy L lv.ownBlock->(v5.ownBlock=lv.ownBlock\/v5.ownBlock=some (V.alloc o).heap.size)->O (ns++[x.n]) (λj=>if j<ns.length then Dv j else x.d) v5 L (a7,Td) rv' g' T'):=zy (λV a7 Td rv' g' T' ns Dv lv f x o L v5 M hf hx ha k1 k2 k3=>by
  rw[a3]at M⊢
  have q:=(M.ti.i.1.t.q x hx).2.2
  have sv:=(M.ti.i.1.v x hx).1
  rw[ha]at sv
  exact M.item a4 hf (uR M.ti.i.2 hx ha) (svD.data M.ti sv) q.1 q.2 k1 k2 k3)
 have row:H_ (∀V r' rv' g' T' ns Dv lv,O ns Dv lv V r' rv' g' T'->V.ownsRow (W.heap.size+2) 88 2 lv ns.length ((List.range ns.length).flatMap λj=>[z_ ((ns.getD j 0:Nat):Int),Dv j])/\W.heap.size+2<=V.heap.size):=zy (λV r' rv' g' T' ns Dv lv M=>by rw[a3]at M;exact⟨M.row,by have:=M.o1.1.lt;omega⟩);have i7:H_ (∀V r' rv' g' T' ns Dv lv V1,O ns Dv lv V r' rv' g' T'->Fr V V1 N_->O ns Dv lv V1 r' rv' g' T'):=zy (λV r' rv' g' T' ns Dv lv V1 M hf=>by rw[a3]at M⊢;exact M.new a4 hf);have j1:H_ (∀V r' rv' g' T' ns Dv lv,O ns Dv lv V r' rv' g' T'->(∀x,lv.ownBlock=some x->x<V.heap.size/\F.fb<x)/\∀x,TSS (uT F) (uL F) rv' r' x->x<V.heap.size):=zy (λV r' rv' g' T' ns Dv lv M=>by
  rw[a3]at M
  exact⟨λx e=>⟨(M.row.lt x e).2,by have:=(M.row.lt x e).1;omega⟩,λx e=>(M.ti.li a4 e).2⟩)
 obtain⟨E,S⟩:=e_ (UFM F fw fr c0 W r rv g T (.leaf c p,y));have j5:H_ (∀V r' rv' g' T' ns Dv lv,O ns Dv lv V r' rv' g' T'->ns.length=fw.length->E V.heap.size ns Dv lv 0 0 .nilIface (V.alloc (.cells #[O_,.nilIface] 88)) r' rv' g' T'):=zy (λV r' rv' g' T' ns Dv lv M hl=>by
  rw[a3]at M
  rw[S]
  exact UFM.start G M hl)
 have a8:H_ (∀qf ns Dv lv j n d V r' rv' g' T',E qf ns Dv lv j n d V r' rv' g' T'->V.cell? ⟨W.heap.size,0,none⟩=some (I_ pw)/\V.cell? ⟨W.heap.size,1,none⟩=some (.slice ua fw.length uc)/\V.cell? ⟨W.heap.size,3,none⟩=some (.slice va fr.length vc)/\V.cell? ⟨F.fb,5,none⟩=some (P_ F.tu)/\xB V F.P F.s fw (.slice ua fw.length uc) xs):=zy (λqf ns Dv lv j n d V r' rv' g' T' M=>by
  rw[S]at M
  have k:=M.B.o0.1
  rw[f1]at k
  exact⟨k.cell 0,k.cell 1,k.cell 3,M.B.ti.i.1.i.cell5,hw.fr M.B.st.1 g9⟩)
 have j2:H_ (∀qf ns Dv lv j n d V r' rv' g' T' x,E qf ns Dv lv j n d V r' rv' g' T'->fr[j]?=some x->∃b Q gx gd,va=some ⟨b,0,none⟩/\V.cell? ⟨b,j*4,none⟩=some (I_ x.place)/\V.cell? ⟨b,j*4+1,none⟩=some (U_ x.letter)/\V.cell? ⟨b,j*4+2,none⟩=some (.iface Q gx)/\V.cell? ⟨b,j*4+3,none⟩=some (.pointer gd)/\TyV V F.P' x.ty (.iface Q gx)/\DfV V F.P' F.s' x.dflt (.pointer gd)):=zy (λqf ns Dv lv j n d V r' rv' g' T' x M hf=>by
  rw[S]at M
  have o1:=zj hr.row M.B.st.1 (λx e=>j0 x (hr.off x e))
  obtain⟨b,cap,e⟩:=zm o1 (by have:=(ae_.1 hf).1;omega)
  cases e
  obtain⟨J,fx,fd,k1,k2,k3,k4,k5,k6⟩:=wR o1 (hr.V.fr M.B.st.1 j0) hf
  exact⟨b,J,fx,fd,rfl,k1,k2,k3,k4,k5,k6⟩)
 have a6:H_ (∀qf ns Dv lv j n d V r' rv' g' T' V1,E qf ns Dv lv j n d V r' rv' g' T'->Fr V V1 N_->E qf ns Dv lv j n d V1 r' rv' g' T'):=zy (λqf ns Dv lv j n d V r' rv' g' T' V1 M hf=>by rw[S]at M⊢;exact M.new G hf);have h9:H_ (∀qf ns Dv lv j n d V r' rv' g' T',E qf ns Dv lv j n d V r' rv' g' T'->Calls prog 147 #[lv] V λe w'=>∃v,e=.returned v/\Fr V w' N_/\w'.ownsRow V.heap.size 88 2 v ns.length ((List.range ns.length).flatMap λj=>[z_ ((ns.getD j 0:Nat):Int),Dv j])):=zy (λqf ns Dv lv j n d V r' rv' g' T' M=>by
  rw[S]at M
  refine XA M.B.row (by have:=M.len;omega) (λu hu=>?_)
  obtain⟨q,_,hq⟩:=List.mem_flatMap.1 hu
  simp only[ao_,a9_,or_false]at hq
  rcases hq with rfl|rfl
  .rfl
  .exact(M.B.iv q).one)
 have e7:H_ (∀qf ns Dv lv j n d V r' rv' g' T' x v,E qf ns Dv lv j n d V r' rv' g' T'->fr[j]?=some x->jg fw x.letter=none->x.dflt=none->qI V v ns Dv->UCM F fw (.leaf c p,y) x ns Dv v V r' rv' T'):=zy (λqf ns Dv lv j n d V r' rv' g' T' x v M hx hi hd ro=>by
  rw[S]at M
  exact VJ G M hv hb b5 b4 hx hi hd ro)
 have e8:H_ (∀qf ns Dv lv j n d V r' rv' g' T' x,E qf ns Dv lv j n d V r' rv' g' T'->fr[j]?=some x->jg fw x.letter=none->x.dflt≠none->E qf ns Dv lv (j+1) n d V r' rv' g' T'):=zy (λqf ns Dv lv j n d V r' rv' g' T' x M hx hi hd=>by
  rw[S]at M⊢
  exact M.next (λx' m3=>by rw[hx]at m3;cases m3;exact⟨λi h e=>(by rw[hi]at e;cases e),λ_ e=>absurd e hd⟩))
 have d7:H_ (∀qf ns Dv lv j n d V r' rv' g' T' (x:PF) (i:Nat) (f:PF) hT hx Q gx,E qf ns Dv lv j n d V r' rv' g' T'->fr[j]?=some x->fw[i]?=some f->TyV V F.P f.ty (.iface hT hx)->TyV V F.P' x.ty (.iface Q gx)->Calls prog 52 #[P_ F.tu,.agg #[.iface hT hx,.iface Q gx]] V (vN (uT F) (uI F) (uL F) V r' rv' g' T' (f.ty,x.ty))):=zy (λqf ns Dv lv j n d V r' rv' g' T' x i f hT hx Q gx M p6 o4 t1 t2=>by
  rw[S]at M
  have o1:=i9 f (aj_ o4)
  have o2:=l8 x (aj_ p6)
  obtain⟨R,hR,_⟩:=M.B.gr
  exact I V r' rv' g' T' (f.ty,x.ty) [.iface hT hx,.iface Q gx] M.B.ti ⟨o1,o2⟩ ⟨⟨_,_,rfl,t1,t2⟩,o1,o2⟩ (by rw[hR,ai_];show 90000<=_;omega))
 have d8:H_ (∀qf ns Dv lv j n d V r' rv' g' T' (x:PF) (i:Nat) (f:PF) V1 r1 A D C (z:Rw (PT×PT)) gw cap lo,E qf ns Dv lv j n d V r' rv' g' T'->fr[j]?=some x->jg fw x.letter=some i->fw[i]?=some f->z∈C->z.a=(f.ty,x.ty)->TbI (uT F) (uI F) (uL F) V1 r1 A D C->Stp V V1 (TSS (uT F) (uL F) rv' r') (TSS (uT F) (uL F) A r1)->Grw (uT F).Cl T' C g' D->V1.ownsRow lo 88 2 (S_ gw ns.length cap) ns.length ((List.range ns.length).flatMap λj=>[z_ ((ns.getD j 0:Nat):Int),Dv j])->W.heap.size+2<=lo->lv.ownBlock≠some gw->gw≠qf->E qf ns Dv lv j n d ((V1.setCell ⟨gw,i*2,none⟩ (I_ z.n)).setCell ⟨gw,i*2+1,none⟩ z.d) r1 A D C/\UCM F fw (.leaf c p,y) x (ns.set i z.n) (λj=>if j=i then z.d else Dv j) (S_ gw ns.length cap) ((V1.setCell ⟨gw,i*2,none⟩ (I_ z.n)).setCell ⟨gw,i*2+1,none⟩ z.d) r1 A C):=zy (λqf ns Dv lv j n d V r' rv' g' T' x i f V1 r1 A D C z gw cap lo M hx hi hf hz e6 ht hs hg ro g7 g5 o5=>by
  rw[S]at M⊢
  have M1:=M.known G ht hs hg
  have i6:=(ae_.1 hf).1
  have r6:=M.len
  have m9:=((ro.stored (i*2) (I_ z.n)).1.stored (i*2+1) z.d).1
  rw[Vy M_]at m9
  obtain⟨cs,g2⟩:=fe ro rfl
  have a9:Blk V1 gw cs.toList 88:=by unfold Blk;simpa using g2
  have M2:=M1.put G (V1:=(V1.setCell ⟨gw,i*2,none⟩ (I_ z.n)).setCell ⟨gw,i*2+1,none⟩ z.d) a9 (by have:=(ro.lt gw rfl).1;omega) g5 o5 (V_ V1 gw (i*2) (i*2+1) _ _)
  refine⟨M2,Yd G M2 hv hb b5 b4 hx hi hf hz e6 ?_⟩
  have r2:=zS m9
  unfold qI
  rw[bh_]at r2⊢
  exact r2)
 have d6:H_ (∀qf ns Dv lv j n d V r' rv' g' T' x ks Dk v,E qf ns Dv lv j n d V r' rv' g' T'->fr[j]?=some x->UCM F fw (.leaf c p,y) x ks Dk v V r' rv' T'->IfV d/\(∀V1,Fr V V1 N_->Blk V1 qf [I_ n,d] 88)/\∀b,btr (jnN ks) n=b->∀V1 kv V2,Fr V V1 N_->IfV kv->(jnN ks=0\/jnN ks=301->kv=.nilIface)->(1<=jnN ks->jnN ks<=300->RcR (V.heap.size+2) ks.length Dk kv V1)->Fr V1 V2 N_->E qf ns Dv lv (j+1) (if b=true then jnN ks else n) (if b=true then kv else d) ((V2.setCell ⟨qf,0,none⟩ (z_ ((if b=true then jnN ks else n:Nat):Int))).setCell ⟨qf,1,none⟩ (if b=true then kv else d)) r' rv' g' T'):=zy (λqf ns Dv lv j n d V r' rv' g' T' x ks Dk v M hx Z=>by
  rw[S]at M⊢
  refine⟨M.d1,λV1 hf=>(M.bf.new hf).1,λb f0 V1 kv V2 hf hk h0 h1 l0=>?_⟩
  exact(M.new G (hf.trans l0 u_)).best G (tU ks) hk ((Z.sv V1 kv hf h0 h1).stp (E_ l0 (λ_ h=>h))) hx Z.cl b f0)
 have j4:H_ (∀qf ns Dv lv j n d V r' rv' g' T',E qf ns Dv lv j n d V r' rv' g' T'->qf<V.heap.size/\W.heap.size+2<=V.heap.size/\(∀x,lv.ownBlock=some x->x<V.heap.size)/\(∀x,TSS (uT F) (uL F) rv' r' x->x<V.heap.size)/\ns.length=fw.length/\(∀x,TSS (uT F) (uL F) rv' r' x->F.fb<x/\x≠W.heap.size)):=zy (λqf ns Dv lv j n d V r' rv' g' T' M=>by
  rw[S]at M
  exact⟨M.bf.1.lt,by have:=M.B.o1.1.lt;omega,λx e=>(M.B.row.lt x e).2,λx e=>(M.B.ti.li a4 e).2,M.len,λx e=>⟨(M.B.ti.li a4 e).1,λh=>M.B.o0.2 (h▸e)⟩⟩)
 have fin:H_ (∀qf ns Dv lv j n d V r' rv' g' T',E qf ns Dv lv j n d V r' rv' g' T'->fr.length<=j->IfV d/\Blk V qf [I_ n,d] 88/\Blk V (W.heap.size+1) [O_,.nilIface] 88/\n6 (.returned (.agg #[I_ n,d])) ((V.setCell ⟨W.heap.size+1,0,none⟩ (I_ n)).setCell ⟨W.heap.size+1,1,none⟩ d)):=zy (λqf ns Dv lv j n d V r' rv' g' T' M hj=>by
  rw[S]at M
  refine⟨M.d1,M.bf.1,M.B.o1.1,?_⟩
  rw[Q_.o]
  have hF:=V_ V (W.heap.size+1) 0 1 (I_ n) d
  refine⟨r',rv',g',T',n,d,rfl,M.n3,M.d1,M.B.ti.put a4 (by show F.fb<W.heap.size+1;omega) M.B.o1.1 hF,⟨M.B.st.1.trans hF (λx hx e=>M_),M.B.st.2⟩,M.B.gr,?_,svD.put M.sv M.B.o1.1 D_ D_ hF⟩
  refine⟨λp1 ws e=>(by cases e),λ_ hn=>(Via.nev hv l7 hn).elim,λc1 p1 j3 u1 s0 e=>(by cases e),λc1 p1 j3 lw lr ow o q e m2 k8 H=>(by cases e;rw[b5]at H;cases H),λc1 p1 j3 n8 n7 D i h1 e m2 k8 H e2 hg hi hf=>?_,λc1 p1 j3 n8 n7 D e m2 k8 H e2 hg hi hf=>?_⟩
  .cases e
   rw[b5]at H
   cases H
   rw[b4]at e2
   cases e2
   obtain⟨q,hq⟩:=a5_ hg
   exact(M.dn q D (by have:=(ae_.1 hq).1;omega) hq).1 i h1 hi hf
  .cases e
   rw[b5]at H
   cases H
   rw[b4]at e2
   cases e2
   obtain⟨q,hq⟩:=a5_ hg
   exact(M.dn q D (by have:=(ae_.1 hq).1;omega) hq).2 hi hf)
 replace start:=zy start;replace h2:=zy h2;replace a3:=zy a3;replace S:=zy S;replace f1:=zy f1;clear I hw hr m0 l9 hv l7 hb b5 b4 h i5 i9 l8 g9 j0 hm a4;go_in;go_upto_region 1 with fail;rw[<- h2.o];go_wp2;go_loopg [5,18] (fw.length+1) (λm v5 v V=>∃ns Dv lv r' rv' g' T',lv=v5/\v=z_ ((ns.length:Nat):Int)/\ns.length<=fw.length/\fw.length+1-ns.length<=m/\H_ (O ns Dv lv V r' rv' g' T'));case atStart=>exact⟨[],_,_,_,_,_,_,rfl,rfl,al_ _,by simp,start⟩
 case round=>
  clear start c1;obtain⟨ns,Dv,lv,r',rv',g',T',rfl,rfl,hq,hm,M⟩:=hrel;by_cases i6:ns.length<fw.length
  .have l5:(ns.length:Int)<(fw.length:Int):=M_;obtain⟨f,hf⟩:∃f,fw[ns.length]?=some f:=⟨_,af_ i6⟩;obtain⟨b,J,fx,fd,rfl,k0,k1,k2,k3,e4,ty⟩:=item.o _ _ _ _ _ _ _ _ _ _ M hf;obtain⟨w4,Y⟩:=e_ (wr.alloc (.cells #[I_ f.place,U_ f.letter,.iface J fx,.pointer fd] 189));have A4:Fr wr w4 N_:=by rw[Y];exact(A_ wr _).alloc _
   have B4:Blk w4 wr.heap.size [I_ f.place,U_ f.letter,.iface J fx,.pointer fd] 189:=by rw[Y];exact B_ wr _ _
   have M4:=zy (i7.o _ _ _ _ _ _ _ _ w4 M A4);have z4:=A4.ke e4;have z2:=B4.c2;have f5:=ty.fr A4 u_;have hC:H_ (∀V1,Fr w4 V1 N_->Calls prog 121 #[P_ F.tb,.iface J fx] V1 (uy (dT F) (dI F) (dL F) V1 () r'.1 (.ty f.ty))):=zy (λV1 k9=>call.o V1 _ _ _ _ _ _ _ _ _ _ (i7.o _ _ _ _ _ _ _ _ V1 M4 k9) hf (f5.fr k9 u_));have g8:¬TSS (uT F) (uL F) rv' r' wr.heap.size:=λe=>absurd ((j1.o _ _ _ _ _ _ _ _ M).2 _ e) (a3_ _);have g7:=zy ((j1.o _ _ _ _ _ _ _ _ M).1);replace g8:=zy g8;replace hf:=zy hf;replace Y:=zy Y;replace B4:=zy B4;clear ty f5 A4 e4 M j5 a8 j2 a6 h9 e7 e8 d7 d8 d6 j4 fin;go_wp2;rw[<- Y.o];refine tr_ 10 (λV=>f_ V F.fb 4 (P_ F.tb)/\f_ V wr.heap.size 2 (.iface J fx)) ?_;refine tz_ 0 ?_;refine tz_ 1 ?_;refine tz_ 2 ?_;refine tz_ 3 ?_;refine tz_ 4 ?_;refine tz_ 5 ?_;refine tz_ 6 ?_;refine zw 7 rfl K_ (λ_=>⟨z4,z2⟩) (λK I=>?_);go_simp;apply(hC.o _ (A_ w4 _).drew).mono;rintro e L ⟨r1,A,C,x,rfl,hx,ha,h1,s1,G1⟩;refine I _ _ ?_;clear I K k0 k1 k2 k3 z4 z2;have n1:=(E_ (A_ w4 _).drew (λ_ h=>h)).trans s1;obtain⟨M5,S5⟩:=known.o _ _ _ _ _ _ _ _ L A C M4 h1 n1 G1;replace M5:=zy M5;have B5:=S5.1.bl B4 g8;have y4:L.cell? ⟨F.fb,4,none⟩=some (P_ F.tb):=h1.i.cell4;have y2:=B5.c2;have o9:=(h1.t.q x hx).2.2.2;obtain⟨h4,p7⟩:=row.o _ _ _ _ _ _ _ _ M5;have k7:H_ (∀o U,(L.alloc o).grownBy U lv.ownBlock->U.cell? ⟨F.fb,4,none⟩=some (P_ F.tb)/\U.cell? ⟨wr.heap.size,2,none⟩=some (.iface J fx)):=zy (λo U hg=>by
    have A5:=(A_ L N_).alloc o
    have hF:Fr (L.alloc o) U (λx=>lv.ownBlock=some x):=(A_ _ _).gw hg (λk e _=>e)
    have q4:=A5.ke y4
    have b6:=hF.bl (A5.bl B5 id) (λe=>absurd (g7.o _ e).1 (a3_ _))
    have q2:=b6.c2
    refine⟨?_,q2⟩
    rw[World.cell?_of_block (hF.block F.fb (World.block_lt_of_cell? _ _ q4) (λe=>absurd (g7.o _ e).2 (a3_ _)))]
    exact q4)
   have m7:H_ (∀o U v6,U.ownsRow (W.heap.size+2) 88 2 v6 (ns.length+1) (((List.range ns.length).flatMap λj=>[z_ ((ns.getD j 0:Nat):Int),Dv j])++[I_ x.n,x.d])->(L.alloc o).grownBy U lv.ownBlock->(v6.ownBlock=lv.ownBlock\/v6.ownBlock=some (L.alloc o).heap.size)->O (ns++[x.n]) (λj=>if j<ns.length then Dv j else x.d) v6 U (A,C) rv' g' T'):=zy (λo U v6 o6 g6 l6=>next.o _ _ _ _ _ _ _ _ _ f x o U v6 M5 hf hx ha o6 g6 l6);have p4:ns.length<=1000:=M_;generalize x.n=xn at *;generalize x.d=xd at *;clear hx ha h1 s1 n1 S5 G1 M5 M4 B4 B5 hC g7 g8;replace h4:=zy h4;generalize i3:ns.length=N at *;rcases o9 with rfl|⟨dT,dx,rfl⟩;all_goals
    refine t1_ 8 ⟨y4,y2⟩ ?_;have A5:=λo=>(A_ L N_).alloc o;refine zw 9 rfl K_ (λ_=>⟨(A5 _).ke y4,(A5 _).ke y2⟩) (λK I=>?_);rw[i_ (show Region.wanted _ _=true by kernel_rfl)];refine ig _ _ rfl (B:=W.heap.size+2) (v:=lv) h4 p4 p7 rfl rfl rfl rfl rfl ?_;intro v6 U o6 g6 l6;refine I _ _ ?_;clear I K;have g2:=k7.o _ _ g6;have nx:=zy (m7.o _ _ _ o6 g6 l6);clear o6 g6 l6 A5 h4 m7 k7;refine t1_ 10 g2 ?_;clear g2;refine td_ ?_ _;go_wp2;go_roundg (fw.length+1-(N+1));case measure=>omega
    case rel=>exact⟨ns++[xn],_,_,_,_,_,_,rfl,by simp[i3],by simp[i3];omega,by simp[i3],nx⟩
  .have l5:¬((ns.length:Int)<(fw.length:Int)):=M_;have i8:ns.length=fw.length:=M_;obtain⟨n0,_⟩:=row.o _ _ _ _ _ _ _ _ M;obtain⟨la,lc,rfl⟩:=zl n0;obtain⟨qf,f2⟩:=e_ wr.heap.size;obtain⟨L,f3⟩:=e_ (wr.alloc (.cells #[O_,.nilIface] 88));have s2:H_ (E qf ns Dv (.slice la ns.length lc) 0 0 .nilIface L r' rv' g' T'):=zy (by rw[f3,f2];exact j5.o _ _ _ _ _ _ _ _ M i8);obtain⟨-,-,e3,-,-⟩:=a8.o _ _ _ _ _ _ _ _ _ _ _ _ s2;replace f3:=zy f3;replace f2:=zy f2;replace i8:=zy i8;clear M n0 item call known next row i7 j1 j5;go_upto_region 8 with fail;rw[<- f3.o,<- f2.o];clear f3;go_wp2;go_loopg [37] (fr.length+1) (λmm v V=>∃(j n:Nat) (d:Value) (r':Value×List (Rw Qu)) (rv':Value) (g':Bool) (T':List (Rw (PT×PT))),v=I_ j/\j<=fr.length/\fr.length+1-j<=mm/\H_ (E qf ns Dv (.slice la ns.length lc) j n d V r' rv' g' T'));case atStart=>exact⟨0,0,.nilIface,_,_,_,_,rfl,al_ _,M_,s2⟩
   case round=>
    clear s2 e3 l5 i6 hq hm f2;obtain⟨j,n,d,r',rv',g',T',rfl,hj,r7,M⟩:=hrel;by_cases i4:j<fr.length
    .have p3:(j:Int)<(fr.length:Int):=M_;obtain⟨x,hx⟩:∃x,fr[j]?=some x:=⟨_,af_ i4⟩;obtain⟨b,Q,gx,gd,rfl,k0,k1,k2,k3,ty,df⟩:=j2.o _ _ _ _ _ _ _ _ _ _ _ _ x M hx;obtain⟨h5,h6,h7,f4,h8,e9⟩:=j4.o _ _ _ _ _ _ _ _ _ _ _ _ M;obtain⟨fq,d9⟩:=e_ wr.heap.size;obtain⟨w4,Y⟩:=e_ (wr.alloc (.cells #[I_ x.place,U_ x.letter,.iface Q gx,.pointer gd] 189));have A4:Fr wr w4 N_:=by rw[Y];exact(A_ wr _).alloc _
     have B4:Blk w4 fq [I_ x.place,U_ x.letter,.iface Q gx,.pointer gd] 189:=by rw[Y,d9];exact B_ wr _ _
     have M4:=zy (a6.o _ _ _ _ _ _ _ _ _ _ _ _ w4 M A4);have hC:=zy (h9.o _ _ _ _ _ _ _ _ _ _ _ _ M4);have d2:wr.heap.size<w4.heap.size:=by rw[Y,zi];omega
     have f5:=zy (ty.fr A4 u_);have g4:H_ ((x.dflt=none->gd=none)/\(x.dflt≠none->∃a,gd=some a)):=zy (by
      unfold DfV at df
      split at df
      .rename_i e
       cases df
       exact⟨λ_=>rfl,λh=>absurd e h⟩
      .rename_i e
       obtain⟨g',x',_,e',_⟩:=df
       cases e'
       exact⟨λh=>(by rw[e]at h;cases h),λ_=>⟨_,rfl⟩⟩)
     replace hx:=zy hx;replace Y:=zy Y;replace d9:=zy d9;replace h5:=zy h5;replace h6:=zy h6;replace h7:=zy h7;replace f4:=zy f4;replace h8:=zy h8;replace e9:=zy e9;replace d2:=zy d2;clear ty df A4 M fin j2 h9 j4;go_upto_region 11 with fail;rw[<- Y.o,<- d9.o];clear k0 k1 k2 k3;go_upto_region 12 with(go_at_call 147;apply hC.o.mono;rintro e U ⟨v6,rfl,f6,o6⟩;have M6:=zy (a6.o _ _ _ _ _ _ _ _ _ _ _ _ U M4 f6);have B6:=zy (f6.bl B4 id);have n2:=zy (f5.o.fr f6 u_);have p8:=zy f6.size;replace o6:=zy o6;clear f6);obtain⟨s3,n5,rfl⟩:=zl o6;clear hC M4 B4 f5;obtain⟨e0,H,-,-,j7⟩:=a8.o _ _ _ _ _ _ _ _ _ _ _ _ M6;have z1:=B6.o.c1;have z3:=B6.o.c3;obtain⟨oi,e1⟩:=x_ ((jg fw x.letter).getD 0);obtain⟨ob,b7⟩:=x_ ((jg fw x.letter).isSome);have hH:=VH (p:=(pw:Int)) (c:=x.letter) j7 l4;unfold fY at hH;rw[e1,b7]at hH;replace hH:=zy hH;replace e1:=zy e1;replace b7:=zy b7;clear j7;go_upto_if 52 with(go_at_call 148;apply hH.o.mono;rintro e w7 ⟨rfl,f7⟩;have M7:=zy (a6.o _ _ _ _ _ _ _ _ _ _ _ _ w7 M6 f7);have B7:=zy (f7.bl B6 id);have g0:=zy (n2.o.fr f7 u_);have o7:=zy (zj o6 f7 u_);clear f7);clear hH M6 B6 n2 o6 e0 H z1 z3;obtain⟨e0,H,-,e5,a5⟩:=a8.o _ _ _ _ _ _ _ _ _ _ _ _ M7;replace a5:=zy a5;have z3:=B7.o.c3;have z2:=B7.o.c2;go_cut [11] (λv V=>∃ks Dk r1 A D C,H_ (E qf ns Dv (.slice la ns.length lc) j n d V r1 A D C)/\H_ (UCM F fw (.leaf c p,y) x ks Dk v V r1 A C));case first=>
      cases ob with
      |false=>
       have hi:jg fw x.letter=none:=by
        have:=b7.o;cases he:jg fw x.letter with
        |none=>rfl
        |some i=>rw[he]at this;cases this
       by_cases g3:x.dflt=none
       .obtain rfl:=g4.o.1 g3;have Z:=zy (e7.o _ _ _ _ _ _ _ _ _ _ _ _ _ _ M7 hx hi g3 (zS o7));clear e7 e8 d7 d8 d6 a6 a8 B7 g0 o7 hi e0 H e5 z2 a5;go_wp2;go_meet;exact⟨_,_,_,_,_,_,M7,Z⟩
       .obtain⟨ga,rfl⟩:=g4.o.2 g3;have M8:=zy (e8.o _ _ _ _ _ _ _ _ _ _ _ _ _ M7 hx hi g3);clear e7 e8 d7 d8 d6 a6 a8 M7 B7 g0 o7 hi e0 H e5 z2 a5;go_wp2;go_roundg (fr.length+1-(j+1));case measure=>omega
        case rel=>exact⟨j+1,n,d,_,_,_,_,by simp,i4,l_,M8⟩
      |true=>
       obtain⟨i,hi⟩:∃i,jg fw x.letter=some i:=by
        have:=b7.o;cases he:jg fw x.letter with
        |none=>rw[he]at this;cases this
        |some i=>exact⟨i,rfl⟩
       obtain rfl:i=oi:=by
        have:=e1.o;rw[hi]at this;exact this
       have p0:i<fw.length:=by
        have l3:=hi;unfold jg at l3;obtain⟨h1,_⟩:=List.findIdx?_eq_some_iff_getElem.1 l3;simpa using h1
       have r3:(i:Int)<(fw.length:Int):=M_;have p5:=h8.o;have p2:i<ns.length:=M_;have r4:(i:Int)<(ns.length:Int):=M_;obtain⟨f,hf⟩:∃f,fw[i]?=some f:=⟨_,af_ p0⟩;obtain⟨gw,cap,e⟩:=zm o7 M_;cases e;obtain⟨b2,p9,e⟩:=zm a5.o.row M_;cases e;obtain⟨hT,h3,q6,-,-,y2,-,n4,-⟩:=wR a5.o.row a5.o.V hf;have kp:H_ (∀V,Fr w7 V N_->V.cell? ⟨F.fb,5,none⟩=some (P_ F.tu)/\V.cell? ⟨W.heap.size,1,none⟩=some (S_ b2 fw.length uc)/\V.cell? ⟨b2,i*4+2,none⟩=some (.iface hT h3)/\V.cell? ⟨fq,2,none⟩=some (.iface Q gx)):=zy (λV X=>⟨X.ke e5,X.ke H,X.ke y2,X.ke z2⟩);have j6:H_ (∀V,Fr w7 V N_->Calls prog 52 #[P_ F.tu,.agg #[.iface hT h3,.iface Q gx]] V (vN (uT F) (uI F) (uL F) V r' rv' g' T' (f.ty,x.ty))):=zy (λV X=>d7.o _ _ _ _ _ _ _ _ _ _ _ _ _ i f _ _ _ _ (a6.o _ _ _ _ _ _ _ _ _ _ _ _ V M7 X) hx hf (n4.fr X u_) (g0.o.fr X u_));have g5:(Value.slice la ns.length lc).ownBlock≠some gw:=λe=>by
        have:=h7.o _ e;have:=(o7.o.lt gw rfl).1;have:=d2.o;omega
       have j8:H_ (∀V V1 r1 A D C (z:Rw (PT×PT)),Fr w7 V N_->z∈C->z.a=(f.ty,x.ty)->TbI (uT F) (uI F) (uL F) V1 r1 A D C->Stp V V1 (TSS (uT F) (uL F) rv' r') (TSS (uT F) (uL F) A r1)->Grw (uT F).Cl T' C g' D->(∃a0 a1,V1.cell? ⟨gw,i*2,none⟩=some a0/\V1.cell? ⟨gw,i*2+1,none⟩=some a1)/\(∀o,V1.frozen? ⟨gw,o,none⟩=false)/\E qf ns Dv (.slice la ns.length lc) j n d ((V1.setCell ⟨gw,i*2,none⟩ (I_ z.n)).setCell ⟨gw,i*2+1,none⟩ z.d) r1 A D C/\UCM F fw (.leaf c p,y) x (ns.set i z.n) (λj=>if j=i then z.d else Dv j) (S_ gw ns.length n5) ((V1.setCell ⟨gw,i*2,none⟩ (I_ z.n)).setCell ⟨gw,i*2+1,none⟩ z.d) r1 A C):=zy (λV V1 r1 A D C z X hz e6 ht hs hg=>by
        have gl:=(o7.o.lt gw rfl).1
        have o7:=zj o7 X u_
        have o8:=zj o7 hs.1 (λg e k=>by
         have e:gw=g:=by simpa[Value.ownBlock] using e
         subst e
         have:=f4.o _ k
         have:=d2.o
         omega)
        have cc:=qI.cells (zS o8) (af_ p2)
        exact⟨⟨_,_,cc.1,cc.2⟩,λo=>o8.frozenAt _,d8.o _ _ _ _ _ _ _ _ _ _ _ _ x i f V1 r1 A D C z gw n5 _ (a6.o _ _ _ _ _ _ _ _ _ _ _ _ V M7 X) hx hi hf hz e6 ht hs hg o8 (by have:=h6.o;have:=d2.o;omega) g5 (by have:=h5.o;have:=d2.o;omega)⟩)
       have m6:H_ (∀V V1 r1 A,Fr w7 V N_->Stp V V1 (TSS (uT F) (uL F) rv' r') (TSS (uT F) (uL F) A r1)->V1.cell? ⟨F.fb,5,none⟩=some (P_ F.tu)/\V1.cell? ⟨W.heap.size,1,none⟩=some (S_ b2 fw.length uc)/\V1.cell? ⟨b2,i*4+2,none⟩=some (.iface hT h3)/\V1.cell? ⟨fq,2,none⟩=some (.iface Q gx)):=zy (λV V1 r1 A X hs=>by
        have kk:∀(a o:Nat) (z:Value),w7.cell? ⟨a,o,none⟩=some z->¬TSS (uT F) (uL F) rv' r' a->V1.cell? ⟨a,o,none⟩=some z:=λa o z hz hn=>by
         have m4:=X.ke hz
         rw[World.cell?_of_block (hs.1.block a (World.block_lt_of_cell? _ _ m4) hn)]
         exact m4
        have q5:=G.pP b2 (a5.o.off b2 rfl)
        exact⟨kk _ _ _ e5 (λe=>by have:=(e9.o _ e).1;omega),kk _ _ _ H (λe=>(e9.o _ e).2 rfl),kk _ _ _ y2 (λe=>by have:=(e9.o _ e).1;omega),kk _ _ _ z2 (λe=>by have:=f4.o _ e;have:=d9.o;omega)⟩)
       have m1:H_ (∀V r1 A D C,TbI (uT F) (uI F) (uL F) V r1 A D C->∀x∈C,IfV x.d):=zy (λV r1 A D C ht x hx=>(ht.t.q x hx).2.2.2);replace hi:=zy hi;have m5:=kp.o w7 (A_ _ _);clear e7 e8 d7 d8 d6 a6 a8 M7 B7 g0 o7 n4 a5 g5 z3 e0 g4 hf p5 kp b7 e1;clear H e5 y2 z2;go_upto_region 14 with fail;refine tr_ 18 (λV=>f_ V F.fb 5 (P_ F.tu)/\f_ V W.heap.size 1 (S_ b2 fw.length uc)/\f_ V b2 (i*4+2) (.iface hT h3)/\f_ V fq 2 (.iface Q gx)) ?_;refine tz_ 0 ?_;refine tz_ 1 ?_;refine tz_ 2 ?_;refine tz_ 3 ?_;refine tz_ 4 ?_;refine tz_ 5 ?_;refine tz_ 6 ?_;refine tz_ 7 ?_;refine tz_ 8 ?_;refine tz_ 9 ?_;refine tz_ 10 ?_;refine tz_ 11 ?_;refine tz_ 12 ?_;refine tz_ 13 ?_;refine tz_ 14 ?_;refine tz_ 15 ?_;refine zw 16 rfl K_ (λ_=>m5) (λK I=>?_);go_simp;apply(j6.o _ (A_ w7 _).drew).mono;rintro e w8 ⟨r1,A,D,C,z,rfl,hz,e6,ht,hs,hg⟩;refine I _ _ ?_;clear I K m5 j6;have c8:=m6.o _ w8 r1 A (A_ w7 _).drew hs;obtain⟨⟨a0,a1,q0,q1⟩,t0,i0,i1⟩:=j8.o _ w8 r1 A D C z (A_ w7 _).drew hz e6 ht hs hg;have sD:=λW a m=>run_store prog W a z.d m (m1.o w8 r1 A D C ht z hz).one;replace i0:=zy i0;replace i1:=zy i1;clear hz e6 ht hs hg j8 m1 m6;generalize z.n=zn at *;generalize z.d=zd at *;refine t1_ 17 c8 ?_;refine t1_ 18 c8 ?_;refine td_ ?_ _;go_wp2;go_meet;exact⟨_,_,_,_,_,_,i0,i1⟩
     case rest=>
      obtain⟨ks,Dk,r1,A,D,C,M9,Z⟩:=hcut;clear e0 H e5 z2 z3 M7 B7 g0 o7 a5 b7 e1 g4 e7 e8 d7 d8 a8 a6 Y d9 h5 h6 h7 f4 h8 e9 d2 p8;obtain⟨hd,a9,g1⟩:=d6.o _ _ _ _ _ _ _ _ _ _ _ _ _ _ _ _ M9 hx Z;obtain⟨r8,r9,rfl⟩:=zl Z.o.row;replace a9:=zy a9;replace g1:=zy g1;go_upto_region 16 with fail;have hC:=zy (fC (w:=wc.drew) (zj Z.o.row (A_ wc N_).drew u_) Z.o.iv Z.o.le (by rw[Z.o.len];exact l4));have bq:=a9.o wc (A_ _ _);have q0:=bq.c0;have q1:=bq.c1;obtain⟨bb,f0⟩:=x_ (btr (jnN ks) n);have nx:=zy (g1.o bb f0);have i2:H_ (∀V kv,IfV kv->Calls prog 111 #[.agg #[I_ n,d],.agg #[z_ (jnN ks:Int),kv]] V λe w'=>e=.returned (if bb=true then .agg #[z_ (jnN ks:Int),kv] else .agg #[I_ n,d])/\Fr V w' N_):=zy (λV kv hk=>by rw[<- f0];exact gC hd hk);have o3:=zy hd.one;clear bq g1 d6 hd M9 f0;generalize jnN ks=jn at *;cases bb;all_goals
       simp only[if_true,bs_,if_false]at nx i2;refine tr_ 4 (λV=>f_ V qf 0 (I_ n)/\f_ V qf 1 d) ?_;refine tz_ 0 ?_;refine tz_ 1 ?_;refine zw 2 rfl K_ (λ_=>⟨q0,q1⟩) (λK I=>?_);go_simp;apply hC.o.mono;rintro e w8 ⟨kv,rfl,hk,f8,v0,v1⟩;refine I _ _ ?_;clear I K;have F8:=(A_ wc N_).drew.trans f8 u_;have b8:=a9.o w8 F8;have q8:=b8.c0;have q9:=b8.c1;have j9:=zy (λV=>i2.o V kv hk);have m8:=zy (λV2=>nx.o w8 kv V2 F8 hk v0 v1);have sK:=λW a m=>run_store prog W a kv m hk.one;have sD:=λW a m=>run_store prog W a d m o3;clear i2 nx v0 v1 f8 hk b8 hC;refine zw 3 rfl K_ (λ_=>⟨q8,q9⟩) (λK I=>?_);go_simp;apply(j9.o _).mono;rintro e w9 ⟨rfl,f9⟩;refine I _ _ ?_;clear I K q0 q1 q8 q9;have b9:=a9.o w9 (F8.trans f9 u_);have q0:=b9.c0;have q1:=b9.c1;have t0:=b9.th 0;have t1:=b9.th 1;have fn:=zy (m8.o w9 f9);clear f9 F8 j9 m8 b9 a9 Z;refine t1_ 4 ⟨q0,q1⟩ ?_;refine td_ ?_ _;go_wp2;go_roundg (fr.length+1-(j+1));case measure=>omega
       case rel=>exact⟨j+1,_,_,_,_,_,_,by simp,i4,l_,fn⟩
    .have p3:¬((j:Int)<(fr.length:Int)):=M_;obtain⟨hd,bf,b1,hP⟩:=fin.o _ _ _ _ _ _ _ _ _ _ _ _ M M_;have q0:=bf.cell 0;have q1:=bf.cell 1;have x0:=b1.cell 0;have x1:=b1.cell 1;have t0:=b1.th 0;have t1:=b1.th 1;have sD:=(λW a m=>run_store prog W a d m hd.one);have B8:=(b1.set 0 (I_ n)).set 1 d;have y0:=B8.cell 0;have y1:=B8.cell 1;simp only[am_,an_,aa_,ab_]at q0 q1 x0 x1 y0 y1;replace hP:=zy hP;clear B8 b1 bf hd M fin;go_wp2;refine bodyPost_ret (v:=.agg #[I_ n,d]) (by simp[results,results125,go_sem,y0,y1]) rfl ?_;exact hP
def qL{ew er:Nat->Option PB}{p':Nat}{X Y:PB}(hb:zu c=false)(hx:ew c=some X)(hy:er c=some Y)(hs:yV X=yV Y):yW ew er (.leaf c p) (.leaf c p')=true:=by
 simp[yW,hb,hx,hy,hs]
def QY{F:FD}{T:List (Rw (PT×PT))}{y rr:PT}{v:Nat}(hv:Via (zx F.ds) (zx F.ds') (.leaf c p) y rr)(hm:yW (zx F.ds) (zx F.ds') (.leaf c p) rr=true)(h:zu c=true\/∃n,zx F.ds c=some (.bytes n)):ClU F T (.leaf c p,y) v:=by
 refine⟨λ_ _ e=>(by cases e),λ_ hn=>(hv.nev hm hn).elim,λ_ _ _ _ _ e=>(by cases e),λc1 b d lw lr ow o q e _ hb a=>?_,λc1 b d fw fr g i f e _ hb a=>?_,λc1 b d fw fr g e _ hb a=>?_⟩;all_goals
  cases e;rcases h with h|⟨n,h⟩
  .rw[h]at hb;cases hb
  .rw[h]at a;cases a
def XO{F:FD}{T:List (Rw (PT×PT))}{x y:PT}{k:Nat}(hx:x.isAlts=false)(hn:Nev (zx F.ds) (zx F.ds') x y)(d:LL F x k):ClU F T (x,y) k:=by
 refine⟨λp ws e=>?_,λ_ _=>⟨k,d,.refl _⟩,λc p p' u u' e hv=>?_,λc p p' lw lr ow o q e hv hb a b=>?_,λc p p' fw fr g i f e hv hb a b=>?_,λc p p' fw fr g e hv hb a b=>?_⟩
 .have e:x=.alts p ws:=e;rw[e]at hx;cases hx
 .have e:x=.wrap c p u:=e;subst e;exact(hv.nev (by simp[yW]) hn).elim
 all_goals
  have e:x=.leaf c p:=e;subst e;exact(hv.nev (qL hb a b rfl) hn).elim
section
variable {F:FD} {W:World} {r:Value×List (Rw Qu)} {rv:Value} {g:Bool} {T:List (Rw (PT×PT))} {x y rr:PT} {wT:TypeId} {wx v:Value} {m:Nat}
def kD(a:F.OK)(D:jM)(h:TbI (uT F) (uI F) (uL F) W r rv g T)(ty:TyV W F.P x (.iface wT wx))(ok:okQ F (.ty x))(hx:x.isAlts=false)(hn:Nev (zx F.ds) (zx F.ds') x y):Calls prog 81 #[P_ F.fb,.iface 271 (.agg #[]),.iface wT wx] W (yi (uT F) (uI F) (uL F) W r rv g T (x,y)):=by
 have j:=vo a;refine dZ (tb:=F.tb) h.i.1.i.cell4 (λG hf hb=>?_);have f:=h.new j hf;have k:=fE a D f.i.1 f.i.2 (ty.fr hf u_) ok;apply k.mono;rintro e H ⟨_,E,A,z,rfl,hz,s,b,hs,o⟩;refine yi.ret j h hf hb ?_;obtain⟨l,B⟩:=TbI.data a f b hs o;have q:=(b.t.q z hz).2.2;have sv:=(b.v z hz).1;rw[s]at sv;have u:=svD.data l sv;exact⟨(E,A),rv,g,T,z.n,z.d,rfl,q.1,q.2,l,B,Grw.refl _ _,XO hx hn (uR o hz s),u.1,λe=>by
  obtain⟨d,d1,C,d3⟩:=u.2 e
  exact⟨d,.never hx hn (d1 _ rfl),C,d3⟩⟩
def gv(a:F.OK)(h:TbI (uT F) (uI F) (uL F) W r rv g T)(hv:Via (zx F.ds) (zx F.ds') (.leaf c p) y rr)(hm:yW (zx F.ds) (zx F.ds') (.leaf c p) rr=true)(hc:zu c=true\/∃n,zx F.ds c=some (.bytes n)):Calls prog 81 #[P_ F.fb,.iface 332 (.agg #[]),.iface wT wx] W (yi (uT F) (uI F) (uL F) W r rv g T (.leaf c p,y)):=
 nT (λb hf=>⟨r,rv,g,T,0,.nilIface,rfl,M_,.inl rfl,h.new (vo a) hf,E_ hf (λ_ h=>h),Grw.refl _ _,QY hv hm hc,(vo a).z _ _ _⟩)
def bo(d:F.OK)(H:jM){Z:PB->Value->Prop}(G:KOK (uT F) (uI F) (uL F) 52 prV m)(h:TbI (uT F) (uI F) (uL F) W r rv g T)(ty:TyV W F.P x (.iface wT wx))(ok:okQ F (.ty x))(a0:okY F rr)(hx:x.isAlts=false)(hv:Via (zx F.ds) (zx F.ds') x y rr)(S:yW (zx F.ds) (zx F.ds') x rr=false->Nev (zx F.ds) (zx F.ds') x y)(hm:90000<=T.length+m)(R:MtV W F.P F.P' F.s F.s' (zx F.ds) (zx F.ds') Z x rr v):Calls prog 81 #[P_ F.fb,v,.iface wT wx] W (yi (uT F) (uI F) (uL F) W r rv g T (x,y)):=by
 have f:=vo d;cases R with
 |never h0=>exact kD d H h ty ok hx (S h0)
 |same hc h0=>exact gv d h hv h0 (.inl hc)
 |items hc ha hb=>
  obtain⟨aT,ax,rfl⟩:=ha.iface;obtain⟨bT,bx,rfl⟩:=hb.iface;obtain⟨Y,I,J⟩:=a0;unfold okT at I;unfold vu at J;refine uP (λE hf t=>?_);have k:=dY d G (h.new f hf) (ha.fr hf u_) (hb.fr hf u_) (ty.fr hf u_) ok ⟨Y.wrap,I.2,J⟩ hv hm;exact k.mono (λe L hp=>yi.ret f h hf t hp)
 |body hn hx' hy' ha hb hz hmb hs=>
  have l:=xM hn;cases hmb with
  |never h0=>exact absurd hs h0
  |same=>exact gv d h hv (qL l hx' hy' hs) (.inr ⟨_,hx'⟩)
  |flds=>
   cases ha with
   |recd pw ho hP hF hp=>
    cases hb with
    |recd pr ho' hP' hF' hp'=>
     obtain⟨ua,uc,rfl⟩:=zl ho;obtain⟨va,vc,rfl⟩:=zl ho';refine uk (λE hf t=>?_);have k:=cU d H G (h.new f hf) (xB.fr ⟨ho,hP,hF⟩ hf u_) (xB.fr ⟨ho',hP',hF'⟩ hf u_) hp hp' hv (qL l hx' hy' hs) l hx' hy' hm;exact k.mono (λe L hp=>yi.ret f h hf t hp)
  |syms=>
   cases ha with
   |enum pw ho hP hu hp=>
    cases hb with
    |enum pr ho' hP' hu' hp'=>
     obtain⟨ua,uc,rfl⟩:=zl ho;obtain⟨va,vc,rfl⟩:=zl ho';obtain⟨ud,rfl⟩:=hu.ptr;obtain⟨vd,rfl⟩:=hu'.ptr;rename_i lw lr ow o;have hg:=(d.g _ _ hx').1;have N:=(d.g' _ _ hy').1;refine pZ (λE hf t=>?_);have k:=Ym (p:=(pw:Int)) (q:=(pr:Int)) (a:=ud) (zj ho hf u_) (zj ho' hf u_) (hu'.fr hf u_) hg.1 N.1;apply k.mono;rintro e L ⟨D,U⟩;refine yi.ret f h hf t ?_;have K:=(h.new f hf).new f D;rcases U with⟨rfl,M⟩|⟨i,j,hi,hr,rfl⟩
     .refine⟨r,rv,g,T,0,.nilIface,rfl,M_,.inl rfl,K,E_ D (λ_ h=>h),Grw.refl _ _,?_,f.z _ _ _⟩;refine⟨λ_ _ e=>(by cases e),λ_ hn=>(hv.nev (qL l hx' hy' hs) hn).elim,λ_ _ _ _ _ e=>(by cases e),λc1 A B a3 a2 a4 o1 q e _ hb b C V hr=>?_,λc1 A B fw fr g i O e _ hb b=>?_,λc1 A B fw fr g e _ hb b=>?_⟩
      .cases e;rw[hx']at b;cases b;rw[hy']at C;cases C;have hl:=af_ V;refine absurd ?_ (M q _ hl);rw[ap_,aq_,hl]at hr;exact hr
      .cases e;rw[hx']at b;cases b
      .cases e;rw[hx']at b;cases b
     .have Q:=(ae_.1 hi).1;have X:=hg.2.1 j (aj_ hi);have hc:j.1<256:=by
       have:97<=j.1/\j.1<=122:=by simpa[zh] using X
       omega
      have a1:lw.length<=300:=hg.1;refine⟨r,rv,g,T,1,_,rfl,M_,.inr ⟨_,_,rfl⟩,K,E_ D (λ_ h=>h),Grw.refl _ _,?_,λe=>M_,λ_=>?_⟩
      .refine⟨λ_ _ e=>(by cases e),λ_ hn=>(hv.nev (qL l hx' hy' hs) hn).elim,λ_ _ _ _ _ e=>(by cases e),λ_ _ _ _ _ _ _ _ _ _ _ _ _ _ _=>.refl _,λc1 A B fw fr g i O e _ hb b=>?_,λc1 A B fw fr g e _ hb b=>?_⟩
       .cases e;rw[hx']at b;cases b
       .cases e;rw[hx']at b;cases b
      .refine⟨.mk 101 (i:Int) noB [] [],.sym hv l hx' hy' Q (by rw[ap_,aq_,hi];exact hr),by simp[nd3,ndT,yc],λ_ u hu=>?_⟩;have hu:u=_:=hu;subst hu;refine .flat (.sym i j.1 M_) (λn l' e=>?_);simp only[Value.iface.injEq,Value.agg.injEq,true_and,Array.mk.injEq,List.cons.injEq,Value.int.injEq,and_true]at e;obtain⟨b,C⟩:=e;obtain rfl:i=n:=M_;obtain rfl:l'=j.1:=M_;exact⟨by simp[sk,hx',ap_,aq_,hi],hc⟩
def nN(b:F.OK)(j:jM){Z:PB->Value->Prop}(f:KOK (uT F) (uI F) (uL F) 52 prV m)(h:TbI (uT F) (uI F) (uL F) W r rv g T)(ty:TyV W F.P x (.iface wT wx))(ok:okQ F (.ty x))(q:okY F y)(hm:90000<=T.length+m)(D:MeV W F.P F.P' F.s F.s' (zx F.ds) (zx F.ds') Z x y v):Calls prog 81 #[P_ F.fb,v,.iface wT wx] W (yi (uT F) (uI F) (uL F) W r rv g T (x,y)):=by
 have d:=vo b;cases D with
 |outb X ho hX hb hP=>
  obtain⟨J,bx,rfl⟩:=hb.iface;obtain⟨K,L,rfl⟩:=zl ho;refine de (λB hf l=>?_);have k:=eN b f (h.new d hf) (zj ho hf u_) hP (λi t e=>(hX i t e).fr hf u_) (hb.fr hf u_) ok q hm;exact k.mono (λe I hp=>yi.ret d h hf l hp)
 |flat fx fy o=>
  have hy:y.isAlts=false:=by cases y<;>first|rfl|exact fy.elim
  have hx:x.isAlts=false:=by cases x<;>first|rfl|exact fx.elim
  exact bo b j f h ty ok q hx (.inl ⟨hy,rfl⟩) (λh0=>.inl ⟨hy,h0⟩) hm o
 |into fx a=>
  rename_i p rs;have hx:x.isAlts=false:=by cases x<;>first|rfl|exact fx.elim
  cases hk:xk (zx F.ds) (zx F.ds') x rs 0 none with
  |none=>
   rw[hk]at a;have a:v=_:=a;subst a;exact kD b j h ty ok hx (.inr ⟨p,rs,rfl,hk⟩)
  |some k=>
   rw[hk]at a;obtain⟨rr,T',u,hr,rfl,C,o⟩:=a;have n:=aj_ hr;obtain⟨E,G,A⟩:=q;have z:=G;unfold okT at z;unfold vu at A;have H:okY F rr:=⟨E.alts rr n,(vp z.2 rr n).2,(qR A.2 rr n)⟩;refine nD (λB hf l=>?_);have k:=bo b j f (h.new d hf) (ty.fr hf u_) ok H hx (.inr ⟨p,rs,k,rfl,hk,hr⟩) (λh0=>by rw[C]at h0;cases h0) hm (o.fr hf u_ u_);exact k.mono (λe I hp=>yi.ret d h hf l hp)
end
def wt{F:FD}(Q:F.OK)(a3:jM){m:Nat}(t:KOK (uT F) (uI F) (uL F) 52 prV m):FOK (uT F) (uI F) (uL F) 51 (P_ F.fb) prV m:=by
 rintro W r rv g T ⟨x,y⟩ v h A ⟨⟨u,u',rfl,ty,O⟩,-⟩ hm;obtain⟨l,q,rfl⟩:=ty.iface;obtain⟨s,bx,rfl⟩:=O.iface;obtain⟨S,L⟩:=y_ (yi (uT F) (uI F) (uL F) W r rv g T (x,y));rw[<- L.o];have z:=vo Q;obtain⟨w1,B⟩:=e_ ((W.alloc (.cells #[.iface l q,.iface s bx] 95)).alloc (.cells #[O_,.nilIface] 88));have C:Fr W w1 N_:=by rw[B];exact((A_ W _).alloc _).alloc _
 have G:Blk w1 W.heap.size [.iface l q,.iface s bx] 95:=by rw[B];exact(B_ W _ _).alloc _
 have P:Blk w1 (W.heap.size+1) [O_,.nilIface] 88:=by
  rw[B];have:=B_ (W.alloc (.cells #[.iface l q,.iface s bx] 95)) #[O_,.nilIface] 88;rw[zi]at this;exact this
 have hl:=λx (hx:TSS (uT F) (uL F) rv r x)=>(h.li z hx);have a4:F.fb<W.heap.size:=by have:F.fb<F.tu/\F.tu<W.heap.size:=hl F.tu (.inl (.inl rfl));omega
 have fb:∀V,Fr w1 V N_->Blk V F.fb [F.sv,.iface F.sT F.sx,F.sv',.iface F.rT F.rx,P_ F.tb,P_ F.tu] 92:=λV j=>(h.new z (C.trans j u_)).i.1.i.b;obtain⟨sa,sc,a1⟩:=zl h.i.1.i.D.row;obtain⟨ra,rc,a2⟩:=zl h.i.1.i.E.row;have H:H_ (∀V,Fr w1 V N_->V.cell? ⟨F.fb,0,none⟩=some F.sv/\V.cell? ⟨F.fb,1,none⟩=some (.iface F.sT F.sx)/\V.cell? ⟨F.fb,2,none⟩=some F.sv'/\V.cell? ⟨F.fb,3,none⟩=some (.iface F.rT F.rx)/\V.cell? ⟨W.heap.size,0,none⟩=some (.iface l q)/\V.cell? ⟨W.heap.size,1,none⟩=some (.iface s bx)):=zy (λV j=>⟨(fb V j).cell 0,(fb V j).cell 1,(fb V j).cell 2,(fb V j).cell 3,(j.bl G id).cell 0,(j.bl G id).cell 1⟩);have call:H_ (∀V,Fr w1 V N_->Calls prog 82 #[.agg #[F.sv,.iface F.sT F.sx,F.sv',.iface F.rT F.rx],.iface l q,.iface s bx] V λe w'=>∃v,e=.returned v/\Fr V w' N_/\(∃T u,v=.iface T u)/\Calls prog 81 #[P_ F.fb,v,.iface l q] w' (yi (uT F) (uI F) (uL F) w' r rv g T (x,y))):=zy (λV j=>by
  have hf:=C.trans j u_
  have tV:=h.new z hf
  have k:=JP (sT:=F.sT) (sx:=F.sx) (rT:=F.rT) (rx:=F.rx) tV.i.1.i.D tV.i.1.i.E (ty.fr hf u_) (O.fr hf u_) A.1.2.1 A.2.2.1 A.2.2.2
  apply k.mono
  rintro e w' ⟨v,rfl,U,a0⟩
  have Z:=hf.trans U u_
  exact⟨v,rfl,U,a0.iface,nN Q a3 t (h.new z Z) (ty.fr Z u_) A.1 A.2 hm a0⟩)
 have fin:H_ (∀V f e,Fr w1 V N_->yi (uT F) (uI F) (uL F) V r rv g T (x,y) e f->∃(n:Nat) (d:Value),e=.returned (.agg #[I_ n,d])/\IfV d/\Blk f (W.heap.size+1) [O_,.nilIface] 88/\(f.cell? ⟨F.fb,0,none⟩=some F.sv/\f.cell? ⟨F.fb,1,none⟩=some (.iface F.sT F.sx)/\f.cell? ⟨F.fb,2,none⟩=some F.sv'/\f.cell? ⟨F.fb,3,none⟩=some (.iface F.rT F.rx)/\f.cell? ⟨W.heap.size,0,none⟩=some (.iface l q)/\f.cell? ⟨W.heap.size,1,none⟩=some (.iface s bx))/\S (.returned (.agg #[I_ n,d])) ((f.setCell ⟨W.heap.size+1,0,none⟩ (I_ n)).setCell ⟨W.heap.size+1,1,none⟩ d)):=zy (λV f e j hp=>by
  obtain⟨r',rv',g',T',n,d,rfl,hn,hd,ht,hs,hg,hc,hv⟩:=hp
  have b3:=hs.1.bl (j.bl P id) (λe=>by have:=(hl _ e).2;omega)
  have b0:=hs.1.bl (j.bl G id) (λe=>by have:=(hl _ e).2;omega)
  have bf:=ht.i.1.i.b
  refine⟨n,d,rfl,hd,b3,⟨bf.cell 0,bf.cell 1,bf.cell 2,bf.cell 3,b0.cell 0,b0.cell 1⟩,?_⟩
  rw[L.o]
  have N:=V_ f (W.heap.size+1) 0 1 (I_ n) d
  have hs':=(E_ (C.trans j u_) (λ_ h=>h)).trans hs
  exact⟨r',rv',g',T',n,d,rfl,hn,hd,ht.put z (by show F.fb<W.heap.size+1;omega) b3 N,⟨hs'.1.trans N (λx hx e=>M_),hs'.2⟩,hg,hc,z.svp _ _ _ _ _ _ _ _ hv b3 N⟩)
 have c0:=H.o w1 (A_ _ _);rw[a1,a2]at c0 call H fin;replace B:=zy B;show Calls prog 51 #[P_ F.fb,.agg #[.iface l q,.iface s bx]] W S;go_in;go_upto_region 1 with fail;rw[<- B.o];refine tr_ 13 (λV=>f_ V F.fb 0 (.slice sa F.ds.length sc)/\f_ V F.fb 1 (.iface F.sT F.sx)/\f_ V F.fb 2 (.slice ra F.ds'.length rc)/\f_ V F.fb 3 (.iface F.rT F.rx)/\f_ V W.heap.size 0 (.iface l q)/\f_ V W.heap.size 1 (.iface s bx)) ?_;refine tz_ 0 ?_;refine tz_ 1 ?_;refine tz_ 2 ?_;refine tz_ 3 ?_;refine tz_ 4 ?_;refine tz_ 5 ?_;refine tz_ 6 ?_;refine tz_ 7 ?_;refine tz_ 8 ?_;refine tz_ 10 ?_;refine tz_ 11 ?_;refine zw 9 rfl K_ (λ_=>c0) (λK t=>?_);go_simp;apply(call.o _ (A_ w1 _).drew).mono;rintro e w2 ⟨v,rfl,X,⟨vT,vx,rfl⟩,I⟩;refine t _ _ ?_;have M:=(A_ w1 N_).drew.trans X u_;have c2:=H.o w2 M;have Y:=zy (λf e=>fin.o w2 f e M);replace I:=zy I;refine zw 12 rfl K_ (λ_=>c2) (λK t=>?_);go_simp;apply I.o.mono;rintro e f hp;obtain⟨n,d,rfl,hd,hb,c3,hP⟩:=Y.o f e hp;refine t _ _ ?_;have q0:=hb.cell 0;have q1:=hb.cell 1;have t0:=hb.th 0;have t1:=hb.th 1;have sD:=(λW a m=>run_store prog W a d m hd.one);have J:=(hb.set 0 (I_ n)).set 1 d;have x0:=J.cell 0;have x1:=J.cell 1;simp only[am_,an_,aa_,ab_]at q0 q1 x0 x1;replace hP:=zy hP;refine t1_ 13 c3 ?_;refine td_ ?_ _;go_wp2;refine bodyPost_ret (v:=.agg #[I_ n,d]) (by simp[results,results51,go_sem,x0,x1]) rfl ?_;exact hP
def vW:∀a W,(callFunc 51 a).run prog W=.ok (.enter 51 a) W:=jA func51 K_ rfl
def ag{F:FD}(b:F.OK){W:World}{a:PT×PT}{v:List Value}(h:(uT F).QV W a v):QR kvU a v:=by
 obtain⟨⟨u,u',rfl,h1,d⟩,ha⟩:=h;obtain⟨T,x,rfl⟩:=h1.iface;obtain⟨T',e,rfl⟩:=d.iface;have:=mw ha.1.1;have:=mw ha.2.1;have:=b.hs;have:=b.hs';exact⟨T,x,T',e,a.1.place,a.2.place,rfl,rfl,M_,M_,kA h1,kA d⟩
def mj{F:FD}(b:F.OK)(d:jM):∀m,KOK (uT F) (uI F) (uL F) 52 prV m:=by
 intro m;induction m with
 |zero=>exact rg (Zr b) (vo b) vW (λW a v h=>ag b h) M_ (λf e=>by cases e)
 |succ m ih=>exact rg (Zr b) (vo b) vW (λW a v h=>ag b h) M_ (λf e=>by cases e;exact wt b d ih)
def dN{F:FD}(b:F.OK)(o:jM){W:World}{r:Value×List (Rw Qu)}{rv:Value}{T:List (Rw (PT×PT))}{a:PT×PT}{l vT:TypeId}{ux vx:Value}(h:TbI (uT F) (uI F) (uL F) W r rv false T)(D:Gd (ClU F) T)(ty:TyV W F.P a.1 (.iface l ux))(G:TyV W F.P' a.2 (.iface vT vx))(ok:uQ F a):Calls prog 31 #[P_ F.tu,.agg #[.iface l ux,.iface vT vx]] W (uy (uT F) (uI F) (uL F) W r rv a):=by
 have d:=vo b;have qv:(uT F).QV W a [.iface l ux,.iface vT vx]:=⟨⟨_,_,rfl,ty,G⟩,ok⟩;have A:=@VS (PT×PT) (Value×List (Rw Qu)) (uT F) kvU (uQ F) (λa=>a.1.place*300+a.2.place) 90000 F.fb F.tu F.mu (.func (.func 50) #[] #[]) (.func (.func 51) #[P_ F.fb] #[]) W r rv T a l vT ux vx (Zr b) d h D qv M_;have B:uI F=IU kvU (uQ F) (λa=>a.1.place*300+a.2.place) 90000:=rfl;have C:uL F=⟨F.fb,F.tu,F.mu,.func (.func 50) #[] #[],.func (.func 51) #[P_ F.fb] #[]⟩:=rfl;rw[<- B,<- C]at A;refine A ?_ ?_ ?_
 .intro V s;have z:=d.qv _ _ _ _ _ qv s (λ_ f=>f.elim);have k:=mj b o 90000 V r rv false T a [.iface l ux,.iface vT vx] (h.new d s) ok z (by show 90000<=_;omega);exact k
 .intro V r rv g T j E ha;have k:=bL d (λW a v h=>ag b h) j E ha;exact k
 .intro V r rv g T i x j hx;have z:=aj_ hx;have k:=Gy (Zr b) d (λw n m dv kv=>jJ) vW j hx (λW' u u' s e=>by
   have k:=wt b o (mj b o 90000) W' r rv g T x.a x.v (j.new d s) (j.t.q x z).1 (d.qv _ _ _ _ _ (j.v x z).2 s (λ_ f=>f.elim)) (by show 90000<=_;omega)
   rw[e]at k
   exact k)
  exact k
def Zp(kf ff:Value)(TT:TypeId)(w:World)(e:Ending)(w':World):Prop:=
 e=.returned (.pointer (some ⟨w.heap.size+1,0,none⟩))/\Fr w w' N_/\w'.heap.size=w.heap.size+2/\w'.heap[w.heap.size]?=some (.map #[] 0)/\Blk w' (w.heap.size+1) [kf,ff,L_,.map (some w.heap.size),.bool false] TT
def ZQ{kf ff:Value}{TT:TypeId}:Zp kf ff TT w (.returned (.pointer (some ⟨w.heap.size+1,0,none⟩))) ((w.alloc (.map #[] 0)).alloc (.cells #[kf,ff,L_,.map (some w.heap.size),.bool false] TT)):=by
 refine⟨rfl,((A_ w _).alloc _).alloc _,by rw[zi,zi],?_,?_⟩
 .have h:(w.alloc (.map #[] 0)).heap[w.heap.size]?=some (.map #[] 0):=by show(w.heap.push _)[w.heap.size]?=_;simp
  have hf:=(A_ (w.alloc (.map #[] 0)) N_).alloc (.cells #[kf,ff,L_,.map (some w.heap.size),.bool false] TT);rw[hf.block w.heap.size (by rw[zi];omega) id];exact h
 .have h:=B_ (w.alloc (.map #[] 0)) #[kf,ff,L_,.map (some w.heap.size),.bool false] TT;rw[zi]at h;exact h
def JV{fn:FuncId}{fa:Array Value}:Calls prog 47 #[.func (.methodOf 53 "Place") #[] #[],.func (.func fn) fa #[]] w (Zp (.func (.methodOf 53 "Place") #[] #[]) (.func (.func fn) fa #[]) 197 w):=by
 obtain⟨b,a⟩:=y_ (Zp (.func (.methodOf 53 "Place") #[] #[]) (.func (.func fn) fa #[]) 197 w)
 rw[<- a.o];have mm:∀t W,(Instr.makeMap t none).run prog W=.ok (.map (some W.heap.size)) (W.alloc (.map #[] 0)):=λ_ _=>rfl;go_in;go_wp2;try go_ret
 rw[a.o];exact ZQ
def JX{k fn:FuncId}{fa:Array Value}:Calls prog 49 #[.func (.func k) #[] #[],.func (.func fn) fa #[]] w (Zp (.func (.func k) #[] #[]) (.func (.func fn) fa #[]) 132 w):=by
 obtain⟨b,a⟩:=y_ (Zp (.func (.func k) #[] #[]) (.func (.func fn) fa #[]) 132 w);rw[<- a.o];have mm:∀t W,(Instr.makeMap t none).run prog W=.ok (.map (some W.heap.size)) (W.alloc (.map #[] 0)):=λ_ _=>rfl;go_in;go_wp2;try go_ret
 rw[a.o];exact ZQ
def nK(sv sv':Value)(sT rT:TypeId)(sx rx:Value)(w:World)(e:Ending)(w':World):Prop:=
 ∃fb tb mb tu mu,e=.returned (P_ fb)/\Fr w w' N_/\w.heap.size<=fb/\fb<tb/\fb<mb/\fb<tu/\fb<mu/\mb≠mu/\
  Blk w' fb [sv,.iface sT sx,sv',.iface rT rx,P_ tb,P_ tu] 92/\
  w'.heap[mb]?=some (.map #[] 0)/\Blk w' tb [.func (.methodOf 53 "Place") #[] #[],.func (.func 48) #[P_ fb] #[],L_,.map (some mb),.bool false] 197/\
  w'.heap[mu]?=some (.map #[] 0)/\Blk w' tu [.func (.func 50) #[] #[],.func (.func 51) #[P_ fb] #[],L_,.map (some mu),.bool false] 132
def cE{i d:Option Addr}{sn sc f rc:Nat}{sT rT:TypeId}{sx rx:Value}:Calls prog 30 #[.agg #[.slice i sn sc,.iface sT sx,.slice d f rc,.iface rT rx]] w (nK (.slice i sn sc) (.slice d f rc) sT rT sx rx w):=by
 obtain⟨S,B⟩:=y_ (nK (.slice i sn sc) (.slice d f rc) sT rT sx rx w);rw[<- B.o];obtain⟨w1,k⟩:=e_ ((w.alloc (.cells #[.slice i sn sc,.iface sT sx,.slice d f rc,.iface rT rx] 86)).alloc (.cells #[.slice i sn sc,.iface sT sx,.slice d f rc,.iface rT rx,.pointer none,.pointer none] 92));obtain⟨fb,n⟩:=e_ (w.heap.size+1);have G:Fr w w1 N_:=by rw[k];exact((A_ w _).alloc _).alloc _
 have E:w1.heap.size=fb+1:=by rw[k,zi,zi,n]
 have H:Blk w1 fb [.slice i sn sc,.iface sT sx,.slice d f rc,.iface rT rx,.pointer none,.pointer none] 92:=by
  rw[k,n];have h:=B_ (w.alloc (.cells #[.slice i sn sc,.iface sT sx,.slice d f rc,.iface rT rx] 86)) #[.slice i sn sc,.iface sT sx,.slice d f rc,.iface rT rx,.pointer none,.pointer none] 92;rw[zi]at h;exact h
 have one:H_ (∀e a,Zp (.func (.methodOf 53 "Place") #[] #[]) (.func (.func 48) #[P_ fb] #[]) 197 w1 e a->e=.returned (.pointer (some ⟨fb+2,0,none⟩))/\(∃x,a.cell? ⟨fb,4,none⟩=some x)/\a.frozen? ⟨fb,4,none⟩=false/\∀(j:World),j=a.setCell ⟨fb,4,none⟩ (.pointer (some ⟨fb+2,0,none⟩))->∀e' b,Zp (.func (.func 50) #[] #[]) (.func (.func 51) #[P_ fb] #[]) 132 j e' b->e'=.returned (.pointer (some ⟨fb+4,0,none⟩))/\(∃x,b.cell? ⟨fb,5,none⟩=some x)/\b.frozen? ⟨fb,5,none⟩=false/\S (.returned (P_ fb)) (b.setCell ⟨fb,5,none⟩ (.pointer (some ⟨fb+4,0,none⟩)))):=zy (λe a t=>by
  obtain⟨rfl,K,N,L,b2⟩:=t
  rw[E]at N L b2
  have z:=K.bl H id
  refine⟨by rw[E],⟨_,z.cell 4⟩,z.th 4,λj l e' b u=>?_⟩
  have I:Fr a j (λx=>x=fb):=by rw[l];exact Y_ a ⟨fb,4,none⟩ _
  have P:Blk j fb [.slice i sn sc,.iface sT sx,.slice d f rc,.iface rT rx,.pointer (some ⟨fb+2,0,none⟩),.pointer none] 92:=by rw[l];exact z.set 4 _
  have O:j.heap.size=fb+3:=by rw[l];show(a.heap.modify fb _).size=_;rw[Array.size_modify,N]
  obtain⟨rfl,C,Y,M,J⟩:=u
  rw[O]at Y M J
  have A:=C.bl P id
  refine⟨by rw[O],⟨_,A.cell 5⟩,A.th 5,?_⟩
  have s:Fr b (b.setCell ⟨fb,5,none⟩ (.pointer (some ⟨fb+4,0,none⟩))) (λx=>x=fb):=Y_ b ⟨fb,5,none⟩ (.pointer (some ⟨fb+4,0,none⟩))
  have Q:Blk (b.setCell ⟨fb,5,none⟩ (.pointer (some ⟨fb+4,0,none⟩))) fb [.slice i sn sc,.iface sT sx,.slice d f rc,.iface rT rx,.pointer (some ⟨fb+2,0,none⟩),.pointer (some ⟨fb+4,0,none⟩)] 92:=A.set 5 _
  rw[B.o]
  have kb:∀g,g≠fb->g<a.heap.size->(b.setCell ⟨fb,5,none⟩ (.pointer (some ⟨fb+4,0,none⟩))).heap[g]?=a.heap[g]?:=λg hg hl=>by
   rw[s.block g M_ hg,C.block g M_ id,I.block g hl hg]
  refine⟨fb,fb+2,fb+1,fb+4,fb+3,rfl,?_,M_,M_,M_,M_,M_,M_,Q,?_,?_,?_,s.bl J M_⟩
  .refine Fr.trans (Fr.trans (Fr.trans (G.trans K u_) I (λx hx e=>?_)) C u_) s (λx hx e=>?_)
   .have e:x=fb:=e
    omega
   .have e:x=fb:=e
    omega
  .rw[kb _ M_ M_]
   exact L
  .unfold Blk at b2⊢
   rw[kb _ M_ M_]
   exact b2
  .rw[s.block _ M_ (by show ¬_=fb;omega)]
   exact M)
 have call:H_ (∀V,Calls prog 47 #[.func (.methodOf 53 "Place") #[] #[],.func (.func 48) #[P_ fb] #[]] V _):=zy (λV=>JV)
 have U:H_ (∀V,Calls prog 49 #[.func (.func 50) #[] #[],.func (.func 51) #[P_ fb] #[]] V _):=zy (λV=>JX);replace k:=zy k;replace n:=zy n;clear G E H B;go_in;go_upto_region 2 with fail;rw[<- k.o,<- n.o];clear k n;go_upto_region 3 with(go_at_call 47;apply(call.o _).mono;rintro e a t;obtain⟨rfl,⟨x2,c4⟩,t4,nx⟩:=one.o e a t;replace nx:=zy nx;clear t);obtain⟨j,l⟩:=e_ (a.setCell ⟨fb,4,none⟩ (.pointer (some ⟨fb+2,0,none⟩)));have X:=zy (nx.o j l);rw[<- l];clear l nx c4 t4;go_wp2_with (go_at_call 49;apply(U.o _).mono;rintro e b u;obtain⟨rfl,⟨x4,c5⟩,t5,D⟩:=X.o e b u;replace D:=zy D;clear u);try go_ret
 exact D
end Go.Proofs.YtjkiencmjggakaaGreatDoor
