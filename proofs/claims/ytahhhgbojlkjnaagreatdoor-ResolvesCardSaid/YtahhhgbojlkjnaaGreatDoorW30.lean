import Derived.Test.YtahhhgbojlkjnaaGreatDoorW29
set_option maxHeartbeats 16000000
set_option maxRecDepth 100000
set_option linter.defProp false
set_option linter.unusedSimpArgs false
set_option linter.unusedVariables false
open Go.Proofs.Tryz
namespace Go.Proofs.YtahhhgbojlkjnaaGreatDoor
open Go.RowKit
variable {c p:Nat}{n:Int}{tx:BA}{ks:Aa}{ds:Ak}{t':PT}
section
variable {W:Aw} {B:Ct} {ba bb w r:Nat} {s s':BA} {ta tb:Aq} {ew er:Ay} {df:Ad}
def cwYk1_{p:Prop}(h:p:=by
 go_simp;(first|(have:=cc1;refine hK1 _ _ ?_;clear hK1 K1;refine zd 27 rfl K_ (mv.o _ ((A_ wr N_).drew.alloc _)) (λK1 hK1=>?_);go_simp;apply(hC5.o _ ((A_ wr N_).drew.alloc _)).mono)|(apply(hC5.o _ (A_ wr N_).drew).mono));rintro e w5 ⟨ek,en,et,x1,x2,x3,x4,x5,x6,rfl,hf5,hv5⟩;simp only[zq];refine hK1 _ _ ?_;clear hK1 K1;(first|(have:=cc1;have X5:=zy (pU (A_ wr N_).drew hB5 hf5 hv5))|(have X5:=zy (cd (A_ wr N_).drew hf5 hv5)));(first|(have:=cc1;have N5:Blk w5 wr.heap.size zf 32:=hf5.bl (B_ wr.drew zf.toArray 32) id)|(have G5:=(A_ wr N_).drew.trans hf5 u_));(first|(have:=cc1;have hm5:=mv.o _ (((A_ wr N_).drew.alloc _).trans hf5 u_))|(have hm5:=mv.o _ G5));clear hf5 hv5;refine tA_ 28 rfl K_ (λ_ _ _ h=>h) x1_ ?_;refine tA_ 29 rfl K_ (λ_ _ _ h=>h) x1_ ?_;refine tA_ 30 rfl K_ (λ_ _ _ h=>h) x1_ ?_;(first|(have:=cc1;have R5:=zy (N5))|(refine zd 31 rfl K_ hm5 (λK1 hK1=>?_);go_simp;refine hK1 _ _ ?_;clear hK1 K1;have R5:=zy (B_ w5 zf.toArray 32)));obtain⟨r0,r1,r2,r3,r4⟩:=R5.o.f5;obtain⟨t0,t1,t2,t3,t4⟩:=R5.o.t5;simp only[zf,zq,aa_,ab_,af_]at r0 r1 r2 r3 r4;(first|(have:=cc1;refine zd 32 rfl K_ hm5 (λK1 hK1=>?_))|(refine zd 32 rfl K_ (mv.o _ (G5.alloc _)) (λK1 hK1=>?_)));go_simp;refine hK1 _ _ ?_;clear hK1 K1;have hm6:=mv.o _ (qe.fr X5.o);refine tA_ 33 rfl K_ (λ_ _ _ h=>h) x1_ ?_;refine zV K_ hm6 ?_ _;(first|(have:=cc1;clear hm5 hm6)|(clear hm5 hm6 G5));go_wp2;go_meet;case rel=>exact X5.o):p:=h
def Yk{p':Nat}{u u':PT}{G:DT->Option DT}{a1:Ao}{m1 c1:Nat}{a2:Ao}{m2 c2:Nat}(hc:c=91\/c=123)(h3:ds.length<=100000)(hm:yw ew er (.wrap c p u) (.wrap c p' u')=true)(hD:zF W (λg=>g<B.1/\g≠B.2) (.mk c n tx ks ds) (zq c n tx (.slice a1 m1 c1) (.slice a2 m2 c2)))(ih:∀(W':World) (j j' i:Nat) (d:DT) (t:Nat) (y:Int) (z:BA) (b1:Option Addr) (F I:Nat) (b2:Option Addr) (H J:Nat),ds[i]?=some d->isT ta j u->isT tb j' u'->Fr W W' N_->zF W (λg=>g<B.1/\g≠B.2) d (zq t y z (.slice b1 F I) (.slice b2 H J))->Calls prog 13 #[P_ ba,I_ j,P_ bb,I_ j',.agg (zq t y z (.slice b1 F I) (.slice b2 H J)).toArray] W' (jx W' B (G d)))(a7:okT ew (.wrap c p u))(a8:okT er (.wrap c p' u'))(X:MX W B ba bb s s' ta tb ew er df)(hw:isT ta w (.wrap c p u))(hr:isT tb r (.wrap c p' u')):Calls prog 13 #[P_ ba,I_ w,P_ bb,I_ r,.agg (zq c n tx (.slice a1 m1 c1) (.slice a2 m2 c2)).toArray] W (jx W B ((yb G ds).map (λl=>DT.mk c n tx ks l))):=by
 refine hq_ λa9 Q_=>?_;obtain⟨V,hV⟩:=e_ (mw W (zq c n tx (.slice a1 m1 c1) (.slice a2 m2 c2)));have A:Fr W V N_:=hV▸mZ _ _;have B0:Blk V W.heap.size (zq c n tx (.slice a1 m1 c1) (.slice a2 m2 c2)) 32:=hV▸eD _ _;have B1:Blk V (W.heap.size+1) zf 32:=hV▸eR _ _;have hz:V.heap.size=W.heap.size+2:=y9_
 have XV:=X.fr A;have hC:=zy (jP XV.a XV.b hw hr a7 a8 rfl rfl);rw[hm]at hC;unfold isT at hw hr;obtain⟨j,hx,hj⟩:=hw;obtain⟨j',hy,b5⟩:=hr;obtain⟨ga,na,ca,sa,sc,u0,i6,u1,u2,ho⟩:=X.a.type hx;obtain⟨R,nb,cb,i7,d0,u3,g7,u4,u5,a3⟩:=X.b.type hy;simp only[au_,ar_,bp_,aw_,a5_]at u1 u2 u4 u5 ho a3;have c0:=A.ke u0;have d7:=A.ke u1;have z0:=A.ke u3;have z1:=A.ke u4;have f6:((c:Int)==40)=false:=by
  have:c≠40:=vQ a7 rfl;simp;omega
 have f7:((c:Int)==40)=false:=by
  have:c≠40:=vQ a8 rfl;simp;omega
 have hB:=X.hB;replace hV:=zy hV;replace A:=zy A;obtain⟨gs,_,e⟩:=zu ho M_;cases e;obtain⟨a0,_,e⟩:=zu a3 M_;cases e;have Z:=ze ho rfl (k:=0) (x:=I_ j) rfl;have L:=ze a3 rfl (k:=0) (x:=I_ j') rfl;obtain⟨aa,cc,e,b9⟩:=hD.sub;cases e;have item:H_ (∀f (i:Nat) (d:DT),Fr W f N_->ds[i]?=some d->∃(m t:Nat) (y:Int) (z:BA) (b1:Option Addr) (F I:Nat) (b2:Option Addr) (H J:Nat),a2=some ⟨m,0,none⟩/\f.cell? ⟨m,i*5,none⟩=some (U_ t)/\f.cell? ⟨m,i*5+1,none⟩=some (Z_ y)/\f.cell? ⟨m,i*5+2,none⟩=some (.string z)/\f.cell? ⟨m,i*5+3,none⟩=some (.slice b1 F I)/\f.cell? ⟨m,i*5+4,none⟩=some (.slice b2 H J)/\∀W',Fr f W' N_->Calls prog 13 #[P_ ba,I_ j,P_ bb,I_ j',.agg (zq t y z (.slice b1 F I) (.slice b2 H J)).toArray] W' (jx W' B (G d))):=zy (λf i d N hi=>by
  obtain⟨m,t,y,z,i8,i9,rfl,d9,⟨x1,L,z1,rfl⟩,⟨x2,y2,z2,rfl⟩,D,d1,d2,d3,d4⟩:=b9 i d hi
  exact⟨m,t,y,z,x1,L,z1,x2,y2,z2,rfl,N.ke D,N.ke d1,N.ke d2,N.ke d3,N.ke d4,λW' h=>ih W' j j' i d t y z _ _ _ _ _ _ hi hj b5 (N.trans h u_) d9⟩)
 have d6:H_ (∀f,Fr W f N_->f.cell? ⟨ba,0,none⟩=some (S_ ga na ca)/\f.cell? ⟨ga,w*2+1,none⟩=some (S_ gs 1 sc)/\f.cell? ⟨gs,0,none⟩=some (I_ j)/\f.cell? ⟨bb,0,none⟩=some (S_ R nb cb)/\f.cell? ⟨R,r*2+1,none⟩=some (S_ a0 1 d0)/\f.cell? ⟨a0,0,none⟩=some (I_ j')/\f.cell? ⟨R,r*2,none⟩=some (U_ c)):=zy (λf h=>⟨h.ke u0,h.ke u2,h.ke Z,h.ke u3,h.ke u5,h.ke L,h.ke u4⟩);have b8:H_ (yb G ds=ahO [] (yb G (ds.drop 0))):=zy (by rw[List.drop_zero];unfold ahO;cases yb G ds<;>rfl);clear X XV hx hy hj b5 ho a3 hm a7 a8 ih b9 Z L u0 u1 u2 u3 u4 u5;obtain⟨b,f1,f0⟩:∃b,((c:Int)==91)=b/\((c:Int)==123) = !b:=by rcases hc with rfl|rfl;exact⟨true,rfl,rfl⟩;exact⟨false,rfl,rfl⟩
 have e9:((c:Int)==108)=false:=x4_
 replace hc:=zy hc;go_in;go_upto_region 1 with fail;change Code.wp _ _ _ _ (mw W (zq c n tx (.slice a1 m1 c1) (.slice a2 ds.length c2)));rw[<- hV.o];go_upto_region 13 with(go_at_call 28;apply hC.o.mono;rintro e Y ⟨rfl,f3⟩;have D3:=f3.bl B0 id;obtain⟨D,d1,d2,d3,d4⟩:=D3.f5;simp only[zq,aa_,ab_]at D d1 d2 d3 d4;have f3':=zy f3;replace D3:=zy D3);obtain⟨Q,hw4⟩:=e_ (Y.alloc (.cells (zq c n tx (.slice a1 m1 c1) (.slice a2 ds.length c2)).toArray 32));have f4:Fr V Q N_:=ye_
 have O4:Blk Q Y.heap.size (zq c n tx (.slice a1 m1 c1) (.slice a2 ds.length c2)) 32:=by rw[hw4];exact B_ Y (zq c n tx (.slice a1 m1 c1) (.slice a2 ds.length c2)).toArray 32
 have D4:Blk Q W.heap.size (zq c n tx (.slice a1 m1 c1) (.slice a2 ds.length c2)) 32:=yg_
 have R4:=f4.bl B1 id;have s3:=f3'.o.size;change Code.wp _ _ _ _ (Y.alloc (.cells (zq c n tx (.slice a1 m1 c1) (.slice a2 ds.length c2)).toArray 32));rw[<- hw4];generalize Y.heap.size=bo at *;clear D d1 d2 d3 d4 D3 f3' hw4;have e1:W.heap.size+2<=bo:=M_;have M0:MR W B bo (zq c n tx (.slice a1 m1 c1) (.slice a2 ds.length c2)) c n tx (.slice a1 m1 c1) (L_) [] (Q.setCell ⟨bo,4,none⟩ (L_)):=by
  have E:=V_ Q ⟨bo,4,none⟩ (L_);exact⟨(A.o.trans f4 u_).trans E (λx hx e=>by have e:x=bo:=e;omega),O4.set 4 _,E.bl D4 (by show ¬W.heap.size=bo;omega),E.bl R4 (by show ¬W.heap.size+1=bo;omega),e1,hB,λe=>by simp[Value.ownBlock]at e,jg.nil _ _ _⟩
 have D:=D4.cell 0;have P:=O4.cell 4;have p4:=O4.th 4;simp only[zq,aa_,ab_,af_]at D P;replace M0:=zy M0;clear D4 O4 R4 c0 d7 z0 z1 f4;go_upto_if 105 with fail;go_cut [105] (λx f=>x=.bool true/\f=Q);case first=>
  cases b;all_goals
   go_wp2;go_meet;case rel=>exact⟨rfl,rfl⟩
 case rest=>
  obtain⟨rfl,rfl⟩:=hcut;go_wp2;go_loopg [17,18,19] (ds.length+1) (λmm v x b V=>∃(i:Nat) (acc:List DT) (T:Option Addr) (U:Nat),v=I_ i/\i<=ds.length/\ds.length+1-i<=mm/\acc.length=i/\H_ (MR W B bo (zq c n tx (.slice a1 m1 c1) (.slice a2 ds.length c2)) c n tx (.slice a1 m1 c1) (.slice T acc.length U) acc V)/\H_ (yb G ds=ahO acc (yb G (ds.drop i))));case atStart=>exact⟨0,[],none,0,rfl,aj_ _,M_,rfl,M0,b8⟩
  case round=>
   clear M0 b8 D P p4;obtain⟨i,acc,T,U,rfl,hi,f9,O,M,hs⟩:=hrel;have b4:=M.o.b0.cell 4;simp only[zq,aa_,ab_]at b4;by_cases b7:i<ds.length
   .have e7:(i:Int)<(ds.length:Int):=M_;obtain⟨d,hd⟩:∃d,ds[i]?=some d:=⟨_,ak_ b7⟩;obtain⟨m,t,y,z,b1,F,I,b2,H,J,rfl,i0,i1,i2,i3,i4,hC5⟩:=item.o wr i d M.o.fr hd;obtain⟨Z,L,y2,y3,y4,y5,y6⟩:=d6.o wr M.o.fr;have hB5:B.1<=wr.heap.size:=ai_ hB M.o.fr.size;obtain⟨CL,hCL⟩:∃C:World->Prop,H_ (C=λW'=>W'.cell? ⟨ba,0,none⟩=some (S_ ga na ca)/\W'.cell? ⟨ga,w*2+1,none⟩=some (S_ gs 1 sc)/\W'.cell? ⟨gs,0,none⟩=some (I_ j)/\W'.cell? ⟨bb,0,none⟩=some (S_ R nb cb)/\W'.cell? ⟨R,r*2+1,none⟩=some (S_ a0 1 d0)/\W'.cell? ⟨a0,0,none⟩=some (I_ j')/\W'.cell? ⟨W.heap.size,4,none⟩=some (S_ m ds.length c2)/\W'.cell? ⟨m,i*5,none⟩=some (U_ t)/\W'.cell? ⟨m,i*5+1,none⟩=some (Z_ y)/\W'.cell? ⟨m,i*5+2,none⟩=some (.string z)/\W'.cell? ⟨m,i*5+3,none⟩=some (.slice b1 F I)/\W'.cell? ⟨m,i*5+4,none⟩=some (.slice b2 H J)):=⟨_,rfl⟩;have mv:H_ (∀W',Fr wr W' N_->CL W'):=zy (λW' h=>by
     rw[hCL.o]
     exact⟨h.ke Z,h.ke L,h.ke y2,h.ke y3,h.ke y4,h.ke y5,h.ke b4,h.ke i0,h.ke i1,h.ke i2,h.ke i3,h.ke i4⟩)
    replace hC5:=zy hC5;replace O:=zy O;replace hd:=zy hd;clear Z L y2 y3 y4 y5 y6 i0 i1 i2 i3 i4;go_upto_region 20 with fail;go_cut [18,19] (λv b W'=>qe wr B (G d) v b W');case first=>
     refine tR_ CL ?_;refine tA_ 0 rfl K_ (λ_ _ _ h=>h) x1_ ?_;refine tA_ 1 rfl K_ (λ_ _ _ h=>h) x1_ ?_;refine tA_ 2 rfl K_ (λ_ _ _ h=>h) x1_ ?_;refine tA_ 3 rfl K_ (λ_ _ _ h=>h) x1_ ?_;refine tA_ 4 rfl K_ (λ_ _ _ h=>h) x1_ ?_;refine tA_ 5 rfl K_ (λ_ _ _ h=>h) x1_ ?_;refine tA_ 6 rfl K_ (λ_ _ _ h=>h) x1_ ?_;refine tA_ 7 rfl K_ (λ_ _ _ h=>h) x1_ ?_;refine tA_ 8 rfl K_ (λ_ _ _ h=>h) x1_ ?_;refine tA_ 9 rfl K_ (λ_ _ _ h=>h) x1_ ?_;refine tA_ 10 rfl K_ (λ_ _ _ h=>h) x1_ ?_;refine tA_ 11 rfl K_ (λ_ _ _ h=>h) x1_ ?_;refine tA_ 12 rfl K_ (λ_ _ _ h=>h) x1_ ?_;refine tA_ 13 rfl K_ (λ_ _ _ h=>h) x1_ ?_;refine tA_ 14 rfl K_ (λ_ _ _ h=>h) x1_ ?_;refine tA_ 15 rfl K_ (λ_ _ _ h=>h) x1_ ?_;refine tA_ 16 rfl K_ (λ_ _ _ h=>h) x1_ ?_;refine tA_ 17 rfl K_ (λ_ _ _ h=>h) x1_ ?_;refine tA_ 18 rfl K_ (λ_ _ _ h=>h) x1_ ?_;refine tA_ 19 rfl K_ (λ_ _ _ h=>h) x1_ ?_;refine tA_ 20 rfl K_ (λ_ _ _ h=>h) x1_ ?_;refine tA_ 21 rfl K_ (λ_ _ _ h=>h) x1_ ?_;refine tA_ 22 rfl K_ (λ_ _ _ h=>h) x1_ ?_;refine tA_ 23 rfl K_ (λ_ _ _ h=>h) x1_ ?_;refine tA_ 24 rfl K_ (λ_ _ _ h=>h) x1_ ?_;refine tA_ 25 rfl K_ (λ_ _ _ h=>h) x1_ ?_;refine tA_ 26 rfl K_ (λ_ _ _ h=>h) x1_ ?_;refine wm 27 31 rfl rfl K_ (mv.o _ (A_ wr N_).drew) (λK1 hK1=>?_) (λK1 hK1=>?_)
     .exact cwYk1_
     .have cc1:=Nat;exact cwYk1_
    case rest=>
     clear hCL mv b4;obtain⟨gx,ek,en,et,x1,x2,x3,x4,x5,x6,rfl,rfl,f5,f2,X5,hv5⟩:=hcut;have q:=M.o.call f5;cases K:G d with
     |none=>
      have S:yb G ds=none:=by rw[hs.o];exact rX hd K
      rw[S]at Q_;have a4:=zy (show a9 _ _ from Q_.o▸qL (r:=none) (w5:=wc) (k:=0) (n:=0) (tx:=⟨#[]⟩) (a1:=none) (m1:=0) (c1:=0) (a2:=none) (m2:=0) (c2:=0) hB q.fr (λ_ h=>by cases h));have R5:=zy (q.b1);obtain⟨r0,r1,r2,r3,r4⟩:=R5.o.f5;obtain⟨t0,t1,t2,t3,t4⟩:=R5.o.t5;simp only[zf,zq,aa_,ab_,af_]at r0 r1 r2 r3 r4;rw[by_];replace K:=zy K;clear q X5 hv5 S;go_wp2;exact xB results13 R5.o a4.o
     |some x=>
      have e2:=zy (M.o.take (hv5 x K));have e0:=zy (show yb G ds=ahO (acc++[x]) (yb G (ds.drop (i+1))) by rw[hs.o];exact rZ hd K);obtain⟨X,r1,r2⟩:=q.row;obtain⟨ti,e3,e4,e5,e6⟩:=info_parts wC;obtain⟨g0,g1,g2,g3,g4⟩:=X5.f5;simp only[zf,zq,aa_,ab_,af_]at g0 g1 g2 g3 g4;have P:=q.o.cell 4;simp only[zq,aa_,ab_]at P;have f8:acc.length<=100000:=by have:=O.o;omega
      have i5:=f5.size;have g8:=M.o.b1.lt;rw[b3_];replace K:=zy K;replace q:=zy q;replace r1:=zy r1;replace r2:=zy r2;clear hv5 X5
      go_wp2_with (at_builtin;go_must (refine wpList_append_own_at _ rfl _ _ 30 rfl (W.heap.size+2) 32 ti _ 5 80 wi e3 e4 e5 e6 rfl D_ (.slice T acc.length U) acc.length ((List.range acc.length).flatMap X) rfl ?hown _ 1 1 (zq ek en et (.slice x1 x2 x3) (.slice x4 x5 x6)) rfl rfl (zL _ (zq ek en et (.slice x1 x2 x3) (.slice x4 x5 x6)).toArray _ _ ?nn) ?one ?b1 ?b2 ?b3 ?_)
                   case hown=>exact World.ownsRow.alloc r1 _
                   case nn=>simp
                   case one=>simp[zq,Value.oneCell']
                   case b1=>unfold maxLen;omega
                   case b2=>omega
                   case b3=>simp;omega
                   intro v6 w6 a6 a5 e8 b6
                   have M6:=q.o.item r2 e2 a5 a6 (λg e=>r1.o.lt g e) b6
                   have Q6:=(T_ ((A_ wc (λg=>(Value.slice T acc.length U).ownBlock=some g)).alloc _) a5 (λk e _=>e)).bl q.o.o q.o.nb
                   have q4:=Q6.cell 4
                   have s4:=Q6.th 4
                   simp only[zq,aa_,ab_]at q4
                   obtain⟨g6,d8,rfl⟩:=zu a6 M_
                   clear a5 b6 e8 a6 Q6
                   replace M6:=zy M6)
      go_roundg (ds.length+1-(i+1));case measure=>omega
      case rel=>exact⟨i+1,acc++[x],some ⟨g6,0,none⟩,d8,by simp,b7,l_,by rw[ah_,O.o];rfl,zy zt_,e0⟩
   .have e7:¬(i:Int)<(ds.length:Int):=M_;have S:yb G ds=some acc:=by
     rw[hs.o,ci_ M_];unfold ahO yb;simp
    rw[S]at Q_;have a4:=zy (show a9 _ _ from Q_.o▸qL (r:=some (DT.mk c n tx ks acc)) (w5:=wr) (k:=c) (n:=n) (tx:=tx) (a1:=a1) (m1:=m1) (c1:=c1) (a2:=T) (m2:=acc.length) (c2:=U) hB M.o.fr (λx hx=>by
     cases hx
     exact(hD.fr M.o.fr u_).swap M.o.row (λ_ h=>.inl h) (λ_ h=>h.1) (λg e=>.inr z0_)))
    obtain⟨-,-,-,y3,-,-,y6⟩:=d6.o wr M.o.fr;have R5:=zy (M.o.b1);obtain⟨r0,r1,r2,r3,r4⟩:=R5.o.f5;obtain⟨t0,t1,t2,t3,t4⟩:=R5.o.t5;simp only[zf,zq,aa_,ab_,af_]at r0 r1 r2 r3 r4;have O9:=M.o.o;obtain⟨o0,o1,o2,o3,P⟩:=O9.f5;simp only[zf,zq,aa_,ab_,af_]at o0 o1 o2 o3 P;replace O:=zy O;clear O9 S;go_wp2;exact xB results13 R5.o a4.o
end
def SC.fields{W:Aw}{bz:Nat}{s:BA}{ts:Aq}{env:Ay}{fs:Am}(Z:SC W bz s ts env)(hn:zZ c=true)(he:env c=some (.recd fs)):∃d j,W.cell? ⟨bz,1+(c-65)*5+1,none⟩=some (.slice d fs.length j)/\
 ∀q f,fs[q]?=some f->∃g num a b tx h l c1 i m c2,d=some ⟨g,0,none⟩/\isT ts num f.ty/\
  W.cell? ⟨g,q*10,none⟩=some (U_ f.letter)/\W.cell? ⟨g,q*10+1,none⟩=some (I_ num)/\W.cell? ⟨g,q*10+2,none⟩=some (.bool f.dflt.isSome)/\
  W.cell? ⟨g,q*10+5,none⟩=some (.int .u8 a)/\W.cell? ⟨g,q*10+6,none⟩=some (Z_ b)/\W.cell? ⟨g,q*10+7,none⟩=some (.string tx)/\W.cell? ⟨g,q*10+8,none⟩=some (.slice h l c1)/\W.cell? ⟨g,q*10+9,none⟩=some (.slice i m c2):=by
 obtain⟨P1,P2,rt,Z⟩:=Z;have hc:65<=c/\c<=70:=zs_
 have t:yA env (c-65)=fs:=z1_
 obtain⟨d,j,h1,o⟩:=Z.fields (k:=c-65) M_;rw[t]at h1 o;refine⟨d,j,h1,λq f C=>?_⟩;obtain⟨g,num,a,b,tx,h,l,c1,i,m,c2,e,_,d,j,t,u,_,_,v,x,y,z,A,_⟩:=o q f C;exact⟨g,num,a,b,tx,h,l,c1,i,m,c2,e,d,j,t,u,v,x,y,z,A⟩
def zF.form{w:Aw}{P:Au}{d:DT}{v:Az}(h:zF w P d v):∃k n tx a e c1 b f c2,v=zq k n tx (.slice a e c1) (.slice b f c2):=by
 cases h with
 |mk X hk hkP hs hsP hd=>
  obtain⟨a,c1,rfl⟩:=zh hk;obtain⟨b,c2,rfl⟩:=zh hs;exact⟨_,_,_,_,_,_,_,_,_,rfl⟩
section
variable {W:Aw} {B:Ct} {ba bb w r:Nat} {s s':BA} {ta tb:Aq} {ew er:Ay} {df:Ad}
def Kt{p':Nat}{fw fr:Am}{R:Cz}{a1:Ao}{m1 c1:Nat}{a2:Ao}{c2:Nat}(hn:zZ c=true)(e4:ew c=some (.recd fw))(b8:er c=some (.recd fr))(b6:ds.length=fw.length)(h3:fw.length<=300)(k6:fr.length<=300)(b7:∀g∈fr,(df g).isSome=g.dflt.isSome)(hD:zF W (λg=>g<B.1/\g≠B.2) (.mk 114 n tx ks ds) (zq 114 n tx (.slice a1 m1 c1) (.slice a2 ds.length c2)))(ih:∀(W':World) (j j' i:Nat) (g h:PF) (d:DT) (k':Nat) (n':Int) (a9:BA) (b1:Option Addr) (S L:Nat) (b2:Option Addr) (e2 f2:Nat),fw[i]?=some h->ds[i]?=some d->g∈fr->isT ta j h.ty->isT tb j' g.ty->Fr W W' N_->zF W (λg=>g<B.1/\g≠B.2) d (zq k' n' a9 (.slice b1 S L) (.slice b2 e2 f2))->Calls prog 13 #[P_ ba,I_ j,P_ bb,I_ j',.agg (zq k' n' a9 (.slice b1 S L) (.slice b2 e2 f2)).toArray] W' (jx W' B (R h.ty g.ty d)))(X:MX W B ba bb s s' ta tb ew er df)(hw:isT ta w (.leaf c p))(hr:isT tb r (.leaf c p')):Calls prog 31 #[P_ ba,I_ w,P_ bb,I_ r,.agg (zq 114 n tx (.slice a1 m1 c1) (.slice a2 ds.length c2)).toArray] W (jx W B ((yb (mkF R df fw ds) fr).map (λl=>DT.mk 114 0 noB [] l))):=by
 refine hq_ λd6 Q_=>?_;have hB:=X.hB;unfold isT at hw hr;have h9:=zy (λV (h:Fr W V N_)=>kC (X.a.fr h) hw);have i0:=zy (λV (h:Fr W V N_)=>kC (X.b.fr h) hr);obtain⟨fa,fc,ka,b4⟩:=X.a.fields hn e4;obtain⟨fb,fd,kb,d8⟩:=X.b.fields hn b8;obtain⟨aa,cc,e,g4⟩:=hD.sub;cases e;obtain⟨w4,b9⟩:=e_ ((mw W (zq 114 n tx (.slice a1 m1 c1) (.slice a2 ds.length c2))).alloc (.cells (zq 114 0 noB (L_) (L_)).toArray 32));have M0:MR W B (W.heap.size+2) (zq 114 n tx (.slice a1 m1 c1) (.slice a2 ds.length c2)) 114 0 noB (L_) (L_) [] w4:=by
  rw[b9];have e:=kt W (zq 114 n tx (.slice a1 m1 c1) (.slice a2 ds.length c2));refine⟨(mZ W _).alloc _,?_,(eD W _).alloc _,(eR W _).alloc _,l_,hB,λe=>by simp[Value.ownBlock]at e,jg.nil _ _ _⟩;have:=B_ (mw W (zq 114 n tx (.slice a1 m1 c1) (.slice a2 ds.length c2))) (zq 114 0 noB (L_) (L_)).toArray 32;rw[e]at this;exact this
 have i3:H_ (yb (mkF R df fw ds) fr=ahO [] (yb (mkF R df fw ds) (fr.drop 0))):=zy (by rw[List.drop_zero];unfold ahO;cases yb (mkF R df fw ds) fr<;>rfl);replace M0:=zy M0;replace b9:=zy b9;replace b6:=zy b6;replace b4:=zy b4;replace d8:=zy d8;replace X:=zy X;replace ih:=zy ih;replace g4:=zy g4;replace b7:=zy b7;replace e4:=zy e4;replace b8:=zy b8;clear hw hr;go_in;go_upto_region 2 with fail;change Code.wp _ _ _ _ ((mw W (zq 114 n tx (.slice a1 m1 c1) (.slice a2 ds.length c2))).alloc (.cells (zq 114 0 noB (L_) (L_)).toArray 32));rw[<- b9.o];go_wp2_with (first
  |(go_at_call 29;apply(h9.o _ M0.o.fr).mono;rintro e w5 ⟨so,i6,fn,i8,sb,o,E,rfl,f5,v5⟩;obtain⟨-,v5⟩:=qI.yes v5 hn;obtain⟨rfl,rfl,rfl⟩:fa=i6/\fw.length=fn/\fc=i8:=(by have h:=(M0.o.fr.ke ka).symm.trans v5;simpa using h);have f:=zy (M0.o.call f5);have k7:∀V:World,(Instr.field 39 (.agg #[.int .u8 so,.slice fa fw.length fc,.string sb,Z_ o,Z_ E]) 1).run prog V=.ok (.slice fa fw.length fc) V:=(λ_=>K_);clear h9 f5 v5)
  |(go_at_call 29;apply(i0.o _ f.o.fr).mono;rintro e w6 ⟨k3,i7,j0,i9,k2,o',n6,rfl,f6,v6⟩;obtain⟨-,v6⟩:=qI.yes v6 hn;obtain⟨rfl,rfl,rfl⟩:fb=i7/\fr.length=j0/\fd=i9:=(by have h:=(f.o.fr.ke kb).symm.trans v6;simpa using h);have M6:=zy (f.o.call f6);have k8:∀V:World,(Instr.field 39 (.agg #[.int .u8 k3,.slice fb fr.length fd,.string k2,Z_ o',Z_ n6]) 1).run prog V=.ok (.slice fb fr.length fd) V:=(λ_=>K_);clear i0 f6 v6))
 go_loopg [15,16,17,18,19] (fr.length+1) (λmm v x1 x2 x3 x4 V=>∃(i:Nat) (acc:List DT) (va:Option Addr) (vc:Nat),v=I_ i/\i<=fr.length/\fr.length+1-i<=mm/\acc.length=i/\H_ (MR W B (W.heap.size+2) (zq 114 n tx (.slice a1 m1 c1) (.slice a2 ds.length c2)) 114 0 noB (L_) (.slice va acc.length vc) acc V)/\H_ (yb (mkF R df fw ds) fr=ahO acc (yb (mkF R df fw ds) (fr.drop i))));case atStart=>exact⟨0,[],none,0,rfl,aj_ _,M_,rfl,M6,i3⟩
 case round=>
  clear i3 M0 f M6;obtain⟨i,acc,va,vc,rfl,hi,l0,T,M,hs⟩:=hrel;by_cases g2:i<fr.length
  .have j6:(i:Int)<(fr.length:Int):=M_;obtain⟨g,hg⟩:∃g,fr[i]?=some g:=⟨_,ak_ g2⟩;obtain⟨gg,num,K,E,t5,b1,b2,b3,G,H,I,j3,hT,e0,S,e2,e5,e6,e7,e8,e9⟩:=d8.o i g hg;subst j3;have d9:=zy (aO (W:=wr) (fa:=fa) (fc:=fc) (fs:=fw) (c:=g.letter) (λq x hq=>by obtain⟨gw,_,_,_,_,_,_,_,_,_,_,h1,_,h2,_⟩:=b4.o q x hq;exact⟨gw,h1,M.o.fr.ke h2⟩) h3);have m0:=M.o.fr.ke e0;have k1:=M.o.fr.ke S;have m2:=M.o.fr.ke e2;replace T:=zy T;replace hg:=zy hg;cases J:kA fw g.letter with
   |none=>
    have D:mkF R df fw ds g=df g:=by unfold mkF;rw[J]
    replace J:=zy J;cases a0:df g with
    |none=>
     have hN:=b7.o g (al_ hg);rw[a0]at hN D;rw[<- hN,by_]at m2;replace D:=zy D;have Y:yb (mkF R df fw ds) fr=none:=by rw[hs.o];exact rX hg D
     rw[Y]at Q_;have N:=zy (λ(V:World) (h:Fr W V N_)=>show d6 _ _ from Q_.o▸qL (r:=none) (w5:=V) (k:=0) (n:=0) (tx:=⟨#[]⟩) (a1:=none) (m1:=0) (c1:=0) (a2:=none) (m2:=0) (c2:=0) hB h (λ_ h=>by cases h));replace N:=zy (N.o wr M.o.fr);have m:=zy (M.o.b1);obtain⟨r0,r1,u,P,Q⟩:=m.o.f5;obtain⟨t0,t1,t2,t3,t4⟩:=m.o.t5;simp only[zf,zq,aa_,ab_,af_]at r0 r1 u P Q;clear hN e0 S e2 e5 e6 e7 e8 e9 Y;replace a0:=zy a0;go_wp2_with (go_at_call 52;apply d9.o.mono;rintro e w2 ⟨rfl,Z⟩;rw[Z,J.o];clear Z;simp only[wI]);exact xB results31 m.o N.o
    |some xd=>
     have hN:=b7.o g (al_ hg);rw[a0]at hN D;rw[<- hN,b3_]at m2;obtain⟨k5,n9,cp,v,f0,L,f2⟩:=X.o.d c fr i g xd b8 hg a0;have g8:=f0.symm.trans kb;simp only[ae_,Value.slice.injEq,Addr.mk.injEq,and_true]at g8;obtain⟨rfl,-,-⟩:=g8;obtain⟨K,E,t5,b1,b2,b3,G,H,I,rfl⟩:=f2.form;have m5:=M.o.fr.ke (L 0 _ rfl);have m6:=M.o.fr.ke (L 1 _ rfl);have m7:=M.o.fr.ke (L 2 _ rfl);have m8:=M.o.fr.ke (L 3 _ rfl);have m9:=M.o.fr.ke (L 4 _ rfl);have e1:=zy (show yb (mkF R df fw ds) fr=ahO (acc++[xd]) (yb (mkF R df fw ds) (fr.drop (i+1))) by rw[hs.o];exact rZ hg D);have f:=M.o.call ((A_ wr N_).alloc (.cells (zq K E t5 (.slice b1 b2 b3) (.slice G H I)).toArray 32));have e3:=zy (M.o.take (gx:=wr.heap.size) (((f2.fr M.o.fr u_).fr ((A_ wr N_).alloc (.cells (zq K E t5 (.slice b1 b2 b3) (.slice G H I)).toArray 32)) u_).mono (λy _ hy=>⟨.inl hy,by have:=M.o.fr.size;omega⟩)));obtain⟨A,r1,u⟩:=f.row;obtain⟨ti,f1,f9,g0,g1⟩:=info_parts wC;have o4:=f.o.cell 4;simp only[zq,aa_,ab_]at o4;have j5:acc.length<=100000:=by have:=T.o;omega
     have j9:=M.o.fr.size;revert f r1 u;refine h_ λf r1 u=>?_;clear hN e0 S e2 e5 e6 e7 e8 e9 f0 L f2;replace a0:=zy a0;replace D:=zy D;go_wp2_with (first
      |(go_at_call 52;apply d9.o.mono;rintro e w2 ⟨rfl,Z⟩;rw[Z,J.o];clear Z;simp only[wI])
      |(at_builtin;go_must (refine wpList_append_own_at _ rfl _ _ 30 rfl (W.heap.size+2) 32 ti _ 5 80 wi f1 f9 g0 g1 rfl D_ (.slice va acc.length vc) acc.length ((List.range acc.length).flatMap A) rfl ?hown _ 1 1 (zq K E t5 (.slice b1 b2 b3) (.slice G H I)) rfl rfl (zL _ (zq K E t5 (.slice b1 b2 b3) (.slice G H I)).toArray _ _ ?nn) ?one ?b1 ?b2 ?b3 ?_)
        case hown=>exact World.ownsRow.alloc r1 _
        case nn=>simp
        case one=>simp[zq,Value.oneCell']
        case b1=>unfold maxLen;omega
        case b2=>omega
        case b3=>simp;omega
        intro v6 w6 a4 a3 g3 a5
        have M6:=f.o.item u e3 a3 a4 (λg e=>r1.o.lt g e) a5
        have Q6:=(T_ ((A_ (wr.alloc (.cells (zq K E t5 (.slice b1 b2 b3) (.slice G H I)).toArray 32)) (λg=>(Value.slice va acc.length vc).ownBlock=some g)).alloc _) a3 (λk e _=>e)).bl f.o.o f.o.nb
        have q4:=Q6.cell 4
        have s4:=Q6.th 4
        simp only[zq,aa_,ab_]at q4
        obtain⟨g6,d7,rfl⟩:=zu a4 M_
        clear a3 a5 g3 a4 Q6
        replace M6:=zy M6))
     go_roundg (fr.length+1-(i+1));case measure=>omega
     case rel=>exact⟨i+1,acc++[xd],some ⟨g6,0,none⟩,d7,by simp,g2,l_,by rw[ah_,T.o];rfl,zy zt_,e1⟩
   |some q=>
    have i5:q<fw.length:=by
     obtain⟨h1,_⟩:=List.findIdx?_eq_some_iff_getElem.1 J;simpa using h1
    obtain⟨h,hh⟩:∃h,fw[q]?=some h:=⟨_,ak_ i5⟩;obtain⟨d,b5⟩:∃d,ds[q]?=some d:=⟨_,ak_ (by rw[b6.o];exact i5)⟩;have D:mkF R df fw ds g=R h.ty g.ty d:=by unfold mkF;rw[J];simp only[hh,b5]
    obtain⟨gw,jn,_,_,_,_,_,_,_,_,_,j4,i2,_,g7,_⟩:=b4.o q h hh;subst j4;obtain⟨g5,k',n',a9,l9,m3,j2,i1,⟨z1,z2,z3,rfl⟩,⟨z4,z5,z6,rfl⟩,d0,d1,d2,d3,d4⟩:=g4.o q d b5;subst j2;have m5:=M.o.fr.ke e5;have m6:=M.o.fr.ke e6;have m7:=M.o.fr.ke e7;have m8:=M.o.fr.ke e8;have m9:=M.o.fr.ke e9;have l4:(q:Int)<(fw.length:Int):=M_;have l7:(q:Int)<(ds.length:Int):=by rw[b6.o];omega
    have l5:¬((q:Int)<0):=M_;have l6:(q:Int)≥0:=M_;obtain⟨z,a8⟩:=e_ (wr.alloc (.cells #[.int .u8 K,Z_ E,.string t5,.slice b1 b2 b3,.slice G H I] 32));have f7:Fr wr z N_:=by rw[a8];exact(A_ wr _).alloc _
    have B7:Blk z wr.heap.size #[.int .u8 K,Z_ E,.string t5,.slice b1 b2 b3,.slice G H I].toList 32:=by rw[a8];exact B_ wr #[.int .u8 K,Z_ E,.string t5,.slice b1 b2 b3,.slice G H I] 32
    have F7:=M.o.fr.trans f7 u_;have j1:B.1<=z.heap.size:=ai_ hB F7.size;obtain⟨CL,hCL⟩:∃C:World->Prop,H_ (C=λW'=>W'.cell? ⟨gw,q*10+1,none⟩=some (I_ jn)/\W'.cell? ⟨gg,i*10+1,none⟩=some (I_ num)/\W'.cell? ⟨W.heap.size,4,none⟩=some (S_ g5 ds.length c2)/\W'.cell? ⟨g5,q*5,none⟩=some (U_ k')/\W'.cell? ⟨g5,q*5+1,none⟩=some (Z_ n')/\W'.cell? ⟨g5,q*5+2,none⟩=some (.string a9)/\W'.cell? ⟨g5,q*5+3,none⟩=some (.slice z1 z2 z3)/\W'.cell? ⟨g5,q*5+4,none⟩=some (.slice z4 z5 z6)):=⟨_,rfl⟩;have mv:H_ (∀W',Fr z W' N_->CL W'):=zy (λW' h'=>by
     rw[hCL.o]
     have k:=F7.trans h' u_
     exact⟨k.ke g7,k.ke S,((f7.trans h' u_).bl M.o.b0 id).cell 4,k.ke d0,k.ke d1,k.ke d2,k.ke d3,k.ke d4⟩)
    have g9:=zy (λW' (h':Fr z W' N_)=>ih.o W' jn num q g h d k' n' a9 _ _ _ _ _ _ hh b5 (al_ hg) i2 hT (F7.trans h' u_) i1);have M7:=zy (M.o.call f7);replace a8:=zy a8;replace J:=zy J;replace D:=zy D;clear e0 S e2 e5 e6 e7 e8 e9 hh b5 i2 g7 i1 d0 d1 d2 d3 d4 hT;go_upto_region 12 with(go_at_call 52;apply d9.o.mono;rintro e w2 ⟨rfl,Z⟩;rw[Z,J.o];clear Z;simp only[wI]);change Code.wp _ _ _ _ (wr.alloc (.cells #[.int .u8 K,Z_ E,.string t5,.slice b1 b2 b3,.slice G H I] 32));rw[<- a8.o];go_cut [18,19] (λv b W'=>qe z B (R h.ty g.ty d) v b W');case first=>
     refine tR_ CL ?_;refine tA_ 0 rfl K_ (λ_ _ _ h=>h) x0_ ?_;refine tA_ 1 rfl K_ (λ_ _ _ h=>h) x0_ ?_;refine tA_ 2 rfl K_ (λ_ _ _ h=>h) x0_ ?_;refine tA_ 3 rfl K_ (λ_ _ _ h=>h) x0_ ?_;refine tA_ 4 rfl K_ (λ_ _ _ h=>h) x0_ ?_;refine tA_ 5 rfl K_ (λ_ _ _ h=>h) x0_ ?_;refine tA_ 6 rfl K_ (λ_ _ _ h=>h) x0_ ?_;refine tA_ 7 rfl K_ (λ_ _ _ h=>h) x0_ ?_;refine tA_ 8 rfl K_ (λ_ _ _ h=>h) x0_ ?_;refine tA_ 9 rfl K_ (λ_ _ _ h=>h) x0_ ?_;refine tA_ 10 rfl K_ (λ_ _ _ h=>h) x0_ ?_;refine tA_ 11 rfl K_ (λ_ _ _ h=>h) x0_ ?_;refine tA_ 12 rfl K_ (λ_ _ _ h=>h) x0_ ?_;refine tA_ 13 rfl K_ (λ_ _ _ h=>h) x0_ ?_;refine tA_ 14 rfl K_ (λ_ _ _ h=>h) x0_ ?_;refine tA_ 15 rfl K_ (λ_ _ _ h=>h) x0_ ?_;refine tA_ 16 rfl K_ (λ_ _ _ h=>h) x0_ ?_;refine wm 17 21 rfl rfl K_ (mv.o _ (A_ z N_).drew) (λF t=>?_) (λF t=>?_)
     .go_simp;apply(g9.o _ (A_ z N_).drew).mono;rintro e w5 ⟨ek,en,et,x1,x2,x3,x4,x5,x6,rfl,U,O⟩;simp only[zq];refine t _ _ ?_;clear t F;have A:=zy (cd (A_ z N_).drew U O);have G5:=(A_ z N_).drew.trans U u_;have a6:=mv.o _ G5;clear U O;refine tA_ 18 rfl K_ (λ_ _ _ h=>h) x0_ ?_;refine tA_ 19 rfl K_ (λ_ _ _ h=>h) x0_ ?_;refine tA_ 20 rfl K_ (λ_ _ _ h=>h) x0_ ?_;refine zd 21 rfl K_ a6 (λF t=>?_);go_simp;refine t _ _ ?_;clear t F;have m:=zy (B_ w5 zf.toArray 32);obtain⟨r0,r1,u,P,Q⟩:=m.o.f5;obtain⟨t0,t1,t2,t3,t4⟩:=m.o.t5;simp only[zf,zq,aa_,ab_,af_]at r0 r1 u P Q;refine zd 22 rfl K_ (mv.o _ (G5.alloc _)) (λF t=>?_);go_simp;refine t _ _ ?_;clear t F;have a7:=mv.o _ (qe.fr A);refine tA_ 23 rfl K_ (λ_ _ _ h=>h) x0_ ?_;refine zV K_ a7 ?_ _;clear a6 a7 G5;go_wp2;go_meet;case rel=>exact A
     .go_simp;refine t _ _ ?_;clear t F;refine zd 17 rfl K_ (mv.o _ ((A_ z N_).drew.alloc _)) (λF t=>?_);go_simp;apply(g9.o _ ((A_ z N_).drew.alloc _)).mono;rintro e w5 ⟨ek,en,et,x1,x2,x3,x4,x5,x6,rfl,U,O⟩;simp only[zq];refine t _ _ ?_;clear t F;have A:=zy (pU (A_ z N_).drew j1 U O);have N5:Blk w5 z.heap.size zf 32:=U.bl (B_ z.drew zf.toArray 32) id;have a6:=mv.o _ (((A_ z N_).drew.alloc _).trans U u_);clear U O;refine tA_ 18 rfl K_ (λ_ _ _ h=>h) x0_ ?_;refine tA_ 19 rfl K_ (λ_ _ _ h=>h) x0_ ?_;refine tA_ 20 rfl K_ (λ_ _ _ h=>h) x0_ ?_;have m:=zy (N5);obtain⟨r0,r1,u,P,Q⟩:=m.o.f5;obtain⟨t0,t1,t2,t3,t4⟩:=m.o.t5;simp only[zf,zq,aa_,ab_,af_]at r0 r1 u P Q;refine zd 22 rfl K_ a6 (λF t=>?_);go_simp;refine t _ _ ?_;clear t F;have a7:=mv.o _ (qe.fr A);refine tA_ 23 rfl K_ (λ_ _ _ h=>h) x0_ ?_;refine zV K_ a7 ?_ _;clear a6 a7;go_wp2;go_meet;case rel=>exact A
    case rest=>
     clear hCL mv m0 k1 m2 m5 m6 m7 m8 m9;obtain⟨gx,ek,en,et,x1,x2,x3,x4,x5,x6,rfl,rfl,f5,k9,A,O⟩:=hcut;have f8:=f7.trans f5 u_;cases hG:R h.ty g.ty d with
     |none=>
      have i4:mkF R df fw ds g=none:=by rw[D.o];exact hG
      have Y:yb (mkF R df fw ds) fr=none:=by rw[hs.o];exact rX hg i4
      rw[Y]at Q_;have N:=zy (λ(V:World) (h:Fr W V N_)=>show d6 _ _ from Q_.o▸qL (r:=none) (w5:=V) (k:=0) (n:=0) (tx:=⟨#[]⟩) (a1:=none) (m1:=0) (c1:=0) (a2:=none) (m2:=0) (c2:=0) hB h (λ_ h=>by cases h));replace N:=zy (N.o wc (M.o.fr.trans f8 u_));have m:=zy (f8.bl M.o.b1 id);obtain⟨r0,r1,u,P,Q⟩:=m.o.f5;obtain⟨t0,t1,t2,t3,t4⟩:=m.o.t5;simp only[zf,zq,aa_,ab_,af_]at r0 r1 u P Q;rw[by_];replace hG:=zy hG;clear A O Y i4;go_wp2;exact xB results31 m.o N.o
     |some x=>
      have e1:=zy (show yb (mkF R df fw ds) fr=ahO (acc++[x]) (yb (mkF R df fw ds) (fr.drop (i+1))) by rw[hs.o];exact rZ hg (by rw[D.o];exact hG));have E5:=Fr.fi wc wr.heap.size (U_ ek) (Z_ en) (.string et) (.slice x1 x2 x3) (.slice x4 x5 x6);have s7:=B7.lt;have f:=M.o.call (f8.trans E5 (λy hy e=>M_));have e3:=zy (M.o.take (gx:=gx) (((O x hG).fr E5 (λy hy e=>by have:=hy.1;have:=M.o.fr.size;omega)).mono (λy _ hy=>⟨by have:=hy.1;omega,hy.2⟩)));have B9:=f5.bl B7 id;obtain⟨v0,v1,v2,v3,v4⟩:=B9.f5;simp only[aa_,ab_,af_]at v0 v1 v2 v3 v4;obtain⟨u0,u1,u2,u3,u4⟩:=B9.t5;obtain⟨y0,y1,y2,y3,y4⟩:=A.f5;simp only[zf,zq,aa_,ab_,af_]at y0 y1 y2 y3 y4;have k4:gx≠wr.heap.size:=M_;rw[b3_];clear A O;obtain⟨A,r1,u⟩:=f.row;obtain⟨ti,f1,f9,g0,g1⟩:=info_parts wC;have o4:=f.o.cell 4;have p4:=f.o.th 4;simp only[zq,aa_,ab_]at o4;have j5:acc.length<=100000:=by have:=T.o;omega
      have j8:=M.o.o.lt;revert f r1 u;refine h_ λf r1 u=>?_;have O5:=f8.bl M.o.o id;have o5:=O5.cell 4;simp only[zq,aa_,ab_]at o5;have l3:=O5.lt;replace hG:=zy hG;clear O5 o4 p4 B9
      go_wp2_with (at_builtin;go_must (refine wpList_append_own_at _ rfl _ _ 30 rfl (W.heap.size+2) 32 ti _ 5 80 wi f1 f9 g0 g1 rfl D_ (.slice va acc.length vc) acc.length ((List.range acc.length).flatMap A) rfl ?hown _ 1 1 (zq ek en et (.slice x1 x2 x3) (.slice x4 x5 x6)) rfl rfl (zL _ (zq ek en et (.slice x1 x2 x3) (.slice x4 x5 x6)).toArray _ _ ?nn) ?one ?b1 ?b2 ?b3 ?_)
                   case hown=>exact World.ownsRow.alloc r1 _
                   case nn=>simp
                   case one=>simp[zq,Value.oneCell']
                   case b1=>unfold maxLen;omega
                   case b2=>omega
                   case b3=>simp;omega
                   intro v6 w6 a4 a3 g3 a5
                   have M6:=f.o.item u e3 a3 a4 (λg e=>r1.o.lt g e) a5
                   have Q6:=(T_ ((A_ (((((wc.setCell ⟨wr.heap.size,0,none⟩ (U_ ek)).setCell ⟨wr.heap.size,1,none⟩ (Z_ en)).setCell ⟨wr.heap.size,2,none⟩ (.string et)).setCell ⟨wr.heap.size,3,none⟩ (.slice x1 x2 x3)).setCell ⟨wr.heap.size,4,none⟩ (.slice x4 x5 x6)) (λg=>(Value.slice va acc.length vc).ownBlock=some g)).alloc _) a3 (λk e _=>e)).bl f.o.o f.o.nb
                   have q4:=Q6.cell 4
                   have s4:=Q6.th 4
                   simp only[zq,aa_,ab_]at q4
                   obtain⟨g6,d7,rfl⟩:=zu a4 M_
                   clear a3 a5 g3 a4 Q6
                   replace M6:=zy M6)
      go_roundg (fr.length+1-(i+1));case measure=>omega
      case rel=>exact⟨i+1,acc++[x],some ⟨g6,0,none⟩,d7,by simp,g2,l_,by rw[ah_,T.o];rfl,zy zt_,e1⟩
  .have j6:¬(i:Int)<(fr.length:Int):=M_;have Y:yb (mkF R df fw ds) fr=some acc:=by
    rw[hs.o,ci_ M_];unfold ahO yb;simp
   rw[Y]at Q_;have N:=zy (show d6 _ _ from Q_.o▸qL (r:=some (DT.mk 114 0 noB [] acc)) (w5:=wr) (k:=114) (n:=0) (tx:=noB) (a1:=none) (m1:=0) (c1:=0) (a2:=va) (m2:=acc.length) (c2:=vc) hB M.o.fr (λx hx=>by
    cases hx
    exact(zF.bare wr (λg=>g<B.1/\g≠B.2) 114 0 noB).swap M.o.row (λ_ h=>.inl h) (λ_ h=>h.1) (λg e=>.inr z0_)))
   have m:=zy (M.o.b1);obtain⟨r0,r1,u,P,Q⟩:=m.o.f5;obtain⟨t0,t1,t2,t3,t4⟩:=m.o.t5;simp only[zf,zq,aa_,ab_,af_]at r0 r1 u P Q;have O9:=M.o.o;obtain⟨o0,o1,o2,o3,o4⟩:=O9.f5;simp only[zf,zq,aa_,ab_,af_]at o0 o1 o2 o3 o4;replace T:=zy T;clear O9 Y;go_wp2;exact xB results31 m.o N.o
end
def zF.same{w:Aw}{P:Au}{k0 k:Nat}{a:Int}{b:BA}{vk vs:Ax}(h:zF w P (.mk k0 a b ks ds) (zq k n tx vk vs)):k0=k/\a=n/\b=tx:=by
 generalize a:zq k n tx vk vs=v at h;cases h with
 |mk X hk hkP hs hsP hd=>
  simp only[zq,List.cons.injEq,and_true,Value.int.injEq,Value.string.injEq,true_and]at a;exact⟨M_,a.2.1.symm,a.2.2.1.symm⟩
def th{ew er:Ay}(h:yw ew er (.leaf c p) t'=true):∃a p',t'=.leaf a p':=by
 cases t' with
 |leaf a p'=>exact⟨a,p',rfl⟩
 |wrap a p' u=>simp[yw]at h
 |alts p' l=>simp[yw]at h
def tc{ew er:Ay}{u:PT}(h:yw ew er (.wrap c p u) t'=true):∃p' u',t'=.wrap c p' u':=by
 cases t' with
 |wrap c' p' u'=>
  obtain rfl:c=c':=by simpa[yw] using h
  exact⟨p',u',rfl⟩
 |leaf c' p'=>simp[yw]at h
 |alts p' l=>simp[yw]at h
def uY{ew er:Ay}{X:PB}(hb:zY c=false)(hX:ew c=some X)(h:yw ew er (.leaf c p) t'=true):∃p' Y,t'=.leaf c p'/\er c=some Y/\xG X=xG Y:=by
 obtain⟨a,p',rfl⟩:=th h;simp only[yw,hb,a2_,if_false,a0_,beq_iff_eq]at h;obtain⟨rfl,h⟩:=h;rw[hX]at h;cases a:er c with
 |none=>rw[a]at h;cases h
 |some Y=>
  rw[a]at h;exact⟨p',Y,rfl,rfl,by simpa using h⟩
def sX{k:Nat}{i m:Nat}{d:DT}(h:ndT (.mk k n tx ks ds)<=m+1)(hd:ds[i]?=some d):ndT d<=m/\ds.length<=m:=by
 have h1:=(yE hd).2;have a:=xY ds;unfold ndT at h;omega
def Wz{B:Ct}{ba bb:Nat}{s s':BA}{ta tb:Aq}{ew er:Ay}{df:Ad}(Y:MY ew er df)(a3:∀c fs,ew c=some (.recd fs)->fs.length<=300):∀f,f<=100000->∀t',okR er t'->Bo B ba bb s s' ta tb ew er df f (mkP ew er df f) t':=by
 intro f;induction f with
 |zero=>
  intro _ t' _ t d hd;obtain⟨_,_,_,_,_⟩:=d;unfold ndT at hd;omega
 |succ f ih=>
  intro hf;have U:=ih M_;have flat:∀t',okR er t'->t'.isAlts=false->∀(t:PT) (d:DT),ndT d<=f+1->Dat ew d t->okT ew t->t.isAlts=false->∀(W:World) (w r:Nat),MX W B ba bb s s' ta tb ew er df->isT ta w t->isT tb r t'->∀(k:Nat) (n:Int) (tx:BA) (y:Option Addr) (A c1:Nat) (z:Option Addr) (C c2:Nat),zF W (λg=>g<B.1/\g≠B.2) d (zq k n tx (.slice y A c1) (.slice z C c2))->
   Calls prog 13 #[P_ ba,I_ w,P_ bb,I_ r,.agg (zq k n tx (.slice y A c1) (.slice z C c2)).toArray] W (jx W B (if yw ew er t t'=true then mkB (mkP ew er df f) ew er df t t' d else none)):=by
   intro t' v ha t d hd J b F W w r X x hr k n tx y A c1 z C c2 a;by_cases hm:yw ew er t t'=true
   .rw[i_ hm];have leaf:∀{k0:Nat} {n0:Int} {tx0:BA} {ks:List BA} {ds:List DT},d=.mk k0 n0 tx0 ks ds->k0≠91/\k0≠123/\k0≠101/\k0≠114->mkB (mkP ew er df f) ew er df t t' d=some (.mk (if t'.kind=108 then 108 else k0) n0 tx0 ks ds)->Calls prog 13 #[P_ ba,I_ w,P_ bb,I_ r,.agg (zq k n tx (.slice y A c1) (.slice z C c2)).toArray] W (jx W B (mkB (mkP ew er df f) ew er df t t' d)):=λ{k0 n0 tx0 ks ds} e hk hB=>by
     subst e;obtain⟨rfl,rfl,rfl⟩:=a.same;rw[hB];exact KI hm hk a F ha b v.1 X x hr
    have base:∀{c p:Nat} {k0:Nat} {n0:Int} {tx0:BA} {ks:List BA} {ds:List DT},t=.leaf c p->zY c=true->d=.mk k0 n0 tx0 ks ds->k0≠91/\k0≠123/\k0≠101/\k0≠114->Calls prog 13 #[P_ ba,I_ w,P_ bb,I_ r,.agg (zq k n tx (.slice y A c1) (.slice z C c2)).toArray] W (jx W B (mkB (mkP ew er df f) ew er df t t' d)):=λ{c p k0 n0 tx0 ks ds} et hb ed hk=>by
     subst et;obtain⟨K,p',rfl⟩:=th hm;refine leaf ed hk ?_;subst ed;simp only[mkB,hb,if_true];rfl
    cases J with
    |null=>exact base rfl rfl rfl D_
    |bool _=>exact base rfl rfl rfl D_
    |num _ _=>exact base rfl rfl rfl D_
    |long _ _=>exact base rfl rfl rfl D_
    |text _ _=>exact base rfl rfl rfl D_
    |bytes he hb hx=>
     obtain⟨p',Z,rfl,E,L⟩:=uY hb he hm;have hn:=Y.nw _ _ he;refine leaf rfl D_ ?_;cases Z with
     |recd fs=>simp[xG]at L
     |enum l o=>simp[xG]at L
     |bytes m=>
      simp only[mkB,hb,a2_,if_false,he,E];rw[n_];intro e;have e:_=108:=e;subst e;cases hn
    |sym he hb hq=>
     rename_i c p q l o;obtain⟨p',Z,rfl,E,L⟩:=uY hb he hm;obtain⟨rfl,rfl,rfl⟩:=a.same;cases Z with
     |recd fs=>simp[xG]at L
     |bytes m=>simp[xG]at L
     |enum lr u=>
      have:=KE (Y.nw _ _ he) he E hq (Y.or _ _ E).2 hm a b v.1 X x hr;simpa only[mkB,hb,a2_,if_false,he,E,bb_] using this
    |recd he hb hl hh=>
     rename_i c p fw ds;obtain⟨p',Z,rfl,E,L⟩:=uY hb he hm;obtain⟨rfl,rfl,rfl⟩:=a.same;obtain⟨aa,cc,e,_⟩:=a.sub;cases e;cases Z with
     |enum lr u=>simp[xG]at L
     |bytes m=>simp[xG]at L
     |recd fr=>
      have hn:=Y.nw _ _ he;have a2:fw.length<=300:=a3 _ _ he;refine KS (λW' a0=>?_) hm F ha b v.1 X x hr;have:=Kt (R:=mkP ew er df f) hn he E hl a2 (Y.few _ _ E).1 (λg hg=>Y.dn _ _ g E hg) (a.fr a0 u_) (λN j j' i g h d Q S T b1 e1 f1 b2 e2 f2 a1 I hg M P H O=>U g.ty ⟨Y.or _ _ E g hg,(Y.few _ _ E).2 g hg,Y.bad _ _ g E hg⟩ h.ty d (sX hd I).1 (hh i d h.ty I (by rw[a1_,a1];rfl)) (Y.ow _ _ he h (al_ a1)) N j j' ((X.fr a0).fr H) M P Q S T _ _ _ _ _ _ (O.fr H u_)) (X.fr a0) x hr;simpa only[mkB,hb,a2_,if_false,he,E] using this
    |list hl hh=>
     rename_i p u ds;obtain⟨p',u',rfl⟩:=tc hm;obtain⟨rfl,rfl,rfl⟩:=a.same;have D:=v;unfold okR okT xM yC at D;unfold okT at b;have V:ds.length<=100000:=by have:=xY ds;unfold ndT at hd;omega
     have:=Yk (G:=mkP ew er df f u u') (.inl rfl) V hm a (λN j j' i d Q S T b1 e1 f1 b2 e2 f2 I M P H O=>U u' ⟨D.1.2,D.2.1,D.2.2⟩ u d (sX hd I).1 (hh d (al_ I)) b.2 N j j' (X.fr H) M P Q S T _ _ _ _ _ _ (O.fr H u_)) (by unfold okT;exact b) v.1 X x hr;simpa only[mkB] using this
    |map hl hk hrs hh=>
     rename_i p u ks ds;obtain⟨p',u',rfl⟩:=tc hm;obtain⟨rfl,rfl,rfl⟩:=a.same;have D:=v;unfold okR okT xM yC at D;unfold okT at b;have V:ds.length<=100000:=by have:=xY ds;unfold ndT at hd;omega
     have:=Yk (G:=mkP ew er df f u u') (.inr rfl) V hm a (λN j j' i d Q S T b1 e1 f1 b2 e2 f2 I M P H O=>U u' ⟨D.1.2,D.2.1,D.2.2⟩ u d (sX hd I).1 (hh d (al_ I)) b.2 N j j' (X.fr H) M P Q S T _ _ _ _ _ _ (O.fr H u_)) (by unfold okT;exact b) v.1 X x hr;simpa only[mkB] using this
    |alts hn hl h=>cases F
   .rw[n_ hm];exact PI (by simpa using hm) F ha b v.1 X x hr
  have one:∀t',okR er t'->∀(t:PT) (d:DT),ndT d<=f+1->Dat ew d t->okT ew t->t.isAlts=false->∀(W:World) (w r:Nat),MX W B ba bb s s' ta tb ew er df->isT ta w t->isT tb r t'->∀(k:Nat) (n:Int) (tx:BA) (y:Option Addr) (A c1:Nat) (z:Option Addr) (C c2:Nat),zF W (λg=>g<B.1/\g≠B.2) d (zq k n tx (.slice y A c1) (.slice z C c2))->
   Calls prog 13 #[P_ ba,I_ w,P_ bb,I_ r,.agg (zq k n tx (.slice y A c1) (.slice z C c2)).toArray] W (jx W B (mkP ew er df (f+1) t t' d)):=by
   intro t' v t d hd J b F W w r X x hr k n tx y A c1 z C c2 a;cases t' with
   |alts p rs=>
    have e:mkP ew er df (f+1) t (.alts p rs) d=lK ew er t rs (λu=>mkB (mkP ew er df f) ew er df t u d):=by
     cases t with
     |alts _ _=>cases F
     |leaf c p=>rfl
     |wrap c p u=>rfl
    rw[e];have D:=v;unfold okR okT xM yC at D;refine PE (λW' j u hu hm M H=>?_) F b v X x hr;obtain⟨h1,h2⟩:=xC D.1.2 u hu;have:=flat u ⟨h2,wy D.2.1.2 u hu,(uN rs [] D.2.2).2.2 u hu⟩ h1 t d hd J b F W' w j (X.fr H) x M k n tx y A c1 z C c2 (a.fr H u_);rw[i_ hm]at this;exact this
   |leaf K p'=>
    have e:mkP ew er df (f+1) t (.leaf K p') d=if yw ew er t (.leaf K p')=true then mkB (mkP ew er df f) ew er df t (.leaf K p') d else none:=by
     cases t with
     |alts _ _=>cases F
     |leaf c p=>simp only[mkP]
     |wrap c p u=>simp only[mkP]
    rw[e];exact flat _ v rfl t d hd J b F W w r X x hr k n tx y A c1 z C c2 a
   |wrap K p' u'=>
    have e:mkP ew er df (f+1) t (.wrap K p' u') d=if yw ew er t (.wrap K p' u')=true then mkB (mkP ew er df f) ew er df t (.wrap K p' u') d else none:=by
     cases t with
     |alts _ _=>cases F
     |leaf c p=>simp only[mkP]
     |wrap c p u=>simp only[mkP]
    rw[e];exact flat _ v rfl t d hd J b F W w r X x hr k n tx y A c1 z C c2 a
  intro t' v t d hd J b W w r X x hr k n tx y A c1 z C c2 a;cases t with
  |leaf c p=>exact one t' v _ d hd J b rfl W w r X x hr k n tx y A c1 z C c2 a
  |wrap c p u=>exact one t' v _ d hd J b rfl W w r X x hr k n tx y A c1 z C c2 a
  |alts p l=>
   cases J with
   |alts hn hl I=>
    rename_i q u d1;obtain⟨rfl,rfl,rfl⟩:=a.same;simp only[mkP,bb_,hl];unfold okT at b;exact FY (U t' v) (by unfold ndT zM at hd;omega) hl I (xC b.2 u (al_ hl)).2 X x hr a
end Go.Proofs.YtahhhgbojlkjnaaGreatDoor
