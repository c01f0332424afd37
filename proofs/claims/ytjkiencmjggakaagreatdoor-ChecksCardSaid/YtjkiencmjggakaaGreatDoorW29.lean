import Derived.Test.YtjkiencmjggakaaGreatDoorW28
set_option maxHeartbeats 16000000
set_option maxRecDepth 100000
set_option linter.unusedVariables false
set_option linter.defProp false
set_option linter.unusedSimpArgs false
open Go.Proofs.Tryz
namespace Go.Proofs.YtjkiencmjggakaaGreatDoor
open Go.RowKit
variable {s:BA}{t:PT}{ts:List TR}{ds:List PD}{x w r ra rb:Nat}
def dM{c:Nat}:plc s c<0↔c∉s.data.toList.map UInt8.toNat:=by
 unfold plc;cases h:s.data.toList.findIdx? (λb=>b.toNat==c) with
 |none=>
  rw[List.findIdx?_eq_none_iff]at h;constructor
  .intro _ hm;obtain⟨x,hx,rfl⟩:=ay_.1 hm;have:=h x hx;simp at this
  .intro _;show(-1:Int)<0;decide
 |some k=>
  obtain⟨hk,h1,_⟩:=List.findIdx?_eq_some_iff_getElem.1 h;constructor
  .intro h;exact absurd h (by show ¬((k:Int)<0);omega)
  .intro hn;exact absurd (ay_.2 ⟨_,a0_ hk,by simpa using h1⟩) hn
def fS{kd:Nat->KD}(B:ZB ts kd)(c:Nat):(∀x∈(zM kd c).fs,x.2.1<ts.length)/\(zM kd c).fs.length<=300:=by
 unfold zM;split
 .exact⟨λx hx=>(B.flds c x hx).1,B.few c⟩
 .exact⟨λx hx=>(by cases hx),al_ _⟩
def JU{ka kb:Nat->KD}{y:Nat}(h:vO ka kb x y=true)(e:(zM ka x).so=101):(zM kb y).so=101:=by
 unfold vO at h;split at h
 .simp only[ax_,decide_eq_true_eq]at h;rw[<- h.1,e]
 .simp only[ax_,beq_iff_eq]at h;obtain⟨rfl,rfl⟩:=h;rw[show zM ka 105=KD0 from rfl]at e;cases e
def YK{W:World}{P Q:Nat->Prop}{bp ba bb:Nat}{ta tb:List TR}{ka kb:Nat->KD}{lv fv:Value}{l f:List Nat}{x y:TR}(K:PK W P Q bp ba bb ta tb ka kb lv fv l f)(B:PB2 ta tb ka kb)(hx:ta[w]?=some x)(hy:tb[r]?=some y):Calls prog 12 #[P_ bp,I_ w,I_ r] W λe w'=>e=.returned (z_ (xl ka kb ta tb (lnK l) (prK tb f) w r:Int))/\Fr W w' N_:=by
 obtain⟨a7,Q_⟩:=y_ (λ(e:Ending) (w':World)=>e=.returned (z_ (xl ka kb ta tb (lnK l) (prK tb f) w r:Int))/\Fr W w' N_);rw[<- Q_.o];refine ah K B hx hy (λV n g e=>by rw[Q_.o,e];exact⟨rfl,g⟩) (λ_ _ _ _ _ _ _ _ _ _ _ _ _ h1 h2 h3 h4 h5=>?_);have h9:=(ae_.1 hx).1;have i4:=(ae_.1 hy).1;have i5:(w:Int)<(ta.length:Int):=M_;have i3:(r:Int)<(tb.length:Int):=M_;have ex:ta.getD w ⟨0,[]⟩=x:=by rw[ap_,hx];rfl
 have ey:tb.getD r ⟨0,[]⟩=y:=by rw[ap_,hy];rfl
 have e3:xl ka kb ta tb (lnK l) (prK tb f) w r=(if (zM ka x.kind).so=101/\(zM kb y.kind).o<0/\∃c∈(zM ka x.kind).sb,c∉(zM kb y.kind).sb then 1 else if (zM ka x.kind).so=114 then ug (lnK l) (prK tb f) w (zM ka x.kind).fs (zM kb y.kind).fs else 602):=by
  unfold xl;rw[ex,ey];dsimp only;rw[n_ h1,n_ h2,n_ (by simp[h3]),n_ M_]
 have e1:((x.kind:Int)==40)=false:=by simp;omega
 have e2:((y.kind:Int)==40)=false:=by simp;omega
 have e4:((x.kind:Int)==91)=false:=by simp;omega
 have e5:((x.kind:Int)==123)=false:=by simp;omega
 obtain⟨ga,ca,gb,cb,sx,cx,sy,cy,la,lc,fa,fc,g4,g3,a0,a1,c0,d0,c1,c2,d1,d2,hM⟩:=Gj K B hx hy;obtain⟨w1,b7⟩:=e_ ((W.alloc (.cells #[U_ x.kind,.slice sx x.subs.length cx] 75)).alloc (.cells #[U_ y.kind,.slice sy y.subs.length cy] 75));have M:=hM w1 b7;have a8:H_ (∀V,Fr w1 V N_->Calls prog 26 #[P_ ba,I_ w] V (pf V P (zM ka x.kind))):=zy (λV g=>kR (K.Za.fr (M.fr.trans g u_) u_) hx (B.a.kind w x hx));have a9:H_ (∀V,Fr w1 V N_->Calls prog 26 #[P_ bb,I_ r] V (pf V Q (zM kb y.kind))):=zy (λV g=>kR (K.Zb.fr (M.fr.trans g u_) u_) hy (B.b.kind r y hy));have d7:H_ (∀V a0 a1 a2 a3 a4 b0 b1 b2 b3 b4,Fr w1 V N_->KDv V P (zM ka x.kind) a0 a1 a2 a3 a4->KDv V Q (zM kb y.kind) b0 b1 b2 b3 b4->Calls prog 28 #[P_ bp,I_ w,.agg #[a0,a1,a2,a3,a4],.agg #[b0,b1,b2,b3,b4]] V λx' w'=>x'=.returned (z_ (ug (lnK l) (prK tb f) w (zM ka x.kind).fs (zM kb y.kind).fs:Int))/\Fr V w' N_):=zy (λV a0 a1 a2 a3 a4 b0 b1 b2 b3 b4 g hd he=>by
  have k:=Xi (K.new (M.fr.trans g u_)) h9 B.a.len B.b.len hd he (fS B.a x.kind).1 (fS B.b y.kind).1 (fS B.a x.kind).2 (fS B.b y.kind).2
  exact k)
 have fin:H_ (∀V (n:Nat),Fr w1 V N_->n=xl ka kb ta tb (lnK l) (prK tb f) w r->a7 (.returned (I_ n)) V):=zy (λV n g e=>by rw[Q_.o,e];exact⟨rfl,M.fr.trans g u_⟩);rw[e3]at fin;have b8:H_ (∀V,Fr w1 V N_->Calls prog 25 #[P_ ba,I_ w,P_ bb,I_ r] V λe w'=>e=.returned (.bool true)/\Fr V w' N_):=zy (λV g=>by have:=M.mat V g;rw[h3]at this;exact this);have cel:=zy M.cel;have l0:=zQ a0;have l2:=zQ d0;have l4:=zQ d1;obtain⟨b0,b1,b2,b3,b4,b5,b6⟩:=cel.o w1 (A_ _ _);replace b7:=zy b7;replace e3:=zy e3;replace hx:=zy hx;replace hy:=zy hy;replace ex:=zy ex;replace ey:=zy ey;replace g4:=zy g4;replace g3:=zy g3;replace h1:=zy h1;replace h2:=zy h2;replace h3:=zy h3;replace h4:=zy h4;replace h5:=zy h5;have h8:H_ ((zM ka x.kind).so=101->(zM kb y.kind).so=101):=zy (λe=>JU h3 e);generalize x.kind=c at *;generalize y.kind=c' at *;generalize zM ka c=d at *;generalize zM kb c'=e at *;obtain⟨so,nv,ov,a5,fs⟩:=d;obtain⟨O,N,E,b9,d6⟩:=e;dsimp only at fin a8 a9 d7 h8;by_cases h6:so=101
 .have e6:(so==101)=true:=by simp[h6]
  have e7:(so==114)=false:=by simp[h6]
  have f9:H_ (∀V (c:Nat),Fr w1 V N_->E<0->c∈a5->c∉b9->a7 (.returned (z_ 1)) V):=zy (λV c g k1 k2 k3=>fin.o V 1 g (by rw[i_ ⟨h6,k1,c,k2,k3⟩]));have g0:H_ (∀V,Fr w1 V N_->¬(E<0/\∃c∈a5,c∉b9)->a7 (.returned (z_ 602)) V):=zy (λV g k=>fin.o V 602 g (by rw[n_ (λh=>k h.2),n_ M_]));replace h6:=zy h6;go_in;go_upto_region 3 with fail;rw[<- b7.o];go_wp2;refine tr_ 11 (λV=>f_ V bp 0 (P_ ba)/\f_ V bp 1 (P_ bb)) ?_;refine tz_ 0 ?_;refine tz_ 1 ?_;refine tz_ 2 ?_;refine tz_ 3 ?_;refine tz_ 4 ?_;refine tz_ 5 ?_;refine tz_ 6 ?_;refine tz_ 7 ?_;refine tz_ 8 ?_;refine tz_ 9 ?_;refine zw 10 rfl K_ (λ_=>⟨b0,b1⟩) (λK hK=>?_);go_simp;apply(b8.o _ (A_ w1 _).drew).mono;rintro e w2 ⟨rfl,f2⟩;refine hK _ _ ?_;have D:Fr w1 w2 N_:=(A_ w1 _).drew.trans f2 u_;obtain⟨q0,q1,q2,q3,q4,q5,q6⟩:=cel.o w2 D;refine t1_ 11 ⟨q0,q1⟩ ?_;refine td_ ?_ _;replace D:=zy D;go_upto_region 23 with(go_at_call 26;apply(a8.o _ (by first|exact D.o|exact D.o.drew)).mono;rintro e u ⟨H,J,I,p,rfl,f3,v3⟩;obtain⟨L,F⟩:=e_ (u.alloc (.cells #[.int .u8 so,.slice H J I,.string p,z_ ov,z_ nv] 44));have T:H_ (Fr w1 L N_):=zy (by rw[F];exact((show Fr w1 _ N_ from(by first|exact D.o|exact D.o.drew)).trans f3 u_).alloc _);have B4:H_ (Blk L u.heap.size [.int .u8 so,.slice H J I,.string p,z_ ov,z_ nv] 44):=zy (by rw[F];exact B_ u _ _);have V4:H_ (KDv L P ⟨so,nv,ov,a5,fs⟩ (.int .u8 so) (.slice H J I) (.string p) (z_ ov) (z_ nv)):=zy (v3.fr (S:=λ_=>False) (by rw[F];exact(A_ _ _).alloc _) u_);obtain⟨u0,u1,-,-,-,-,-⟩:=cel.o L T;replace F:=zy F);rw[<- F.o];go_upto_region 24 with(go_at_call 26;apply(a9.o _ T).mono;rintro e C ⟨X,Z,Y,z,rfl,f5,v5⟩;obtain⟨A,G⟩:=e_ (C.alloc (.cells #[.int .u8 O,.slice X Z Y,.string z,z_ E,z_ N] 44));have U:Fr L A N_:=(by rw[G];exact f5.alloc _);have f6:H_ (Fr w1 A N_):=zy (T.o.trans U u_);have B6:H_ (Blk A C.heap.size [.int .u8 O,.slice X Z Y,.string z,z_ E,z_ N] 44):=zy (by rw[G];exact B_ C _ _);have va:H_ (KDv A P ⟨so,nv,ov,a5,fs⟩ (.int .u8 so) (.slice H J I) (.string p) (z_ ov) (z_ nv)):=zy (V4.o.fr U u_);have vb:H_ (KDv A Q ⟨O,N,E,b9,d6⟩ (.int .u8 O) (.slice X Z Y) (.string z) (z_ E) (z_ N)):=zy (v5.fr (S:=λ_=>False) (by rw[G];exact(A_ _ _).alloc _) u_);have A6:H_ (Blk A u.heap.size [.int .u8 so,.slice H J I,.string p,z_ ov,z_ nv] 44):=zy (U.bl B4 id);replace G:=zy G);rw[<- G.o];have a6:H_ (∀V,Fr A V N_->V.cell? ⟨u.heap.size,0,none⟩=some (.int .u8 so)/\V.cell? ⟨u.heap.size,1,none⟩=some (.slice H J I)/\V.cell? ⟨u.heap.size,2,none⟩=some (.string p)/\V.cell? ⟨u.heap.size,3,none⟩=some (z_ ov)/\V.cell? ⟨u.heap.size,4,none⟩=some (z_ nv)/\V.cell? ⟨C.heap.size,0,none⟩=some (.int .u8 O)/\V.cell? ⟨C.heap.size,1,none⟩=some (.slice X Z Y)/\V.cell? ⟨C.heap.size,2,none⟩=some (.string z)/\V.cell? ⟨C.heap.size,3,none⟩=some (z_ E)/\V.cell? ⟨C.heap.size,4,none⟩=some (z_ N)):=zy (λV g=>by
   have k:=g.bl A6 id
   have m:=g.bl B6 id
   exact⟨k.cell 0,k.cell 1,k.cell 2,k.cell 3,k.cell 4,m.cell 0,m.cell 1,m.cell 2,m.cell 3,m.cell 4⟩)
  obtain⟨k0,k1,k2,k3,k4,m0,m1,m2,m3,m4⟩:=a6.o A (A_ _ _);generalize u.heap.size=da at *;generalize C.heap.size=ea at *;obtain⟨e8,s3⟩:a5=p.data.toList.map UInt8.toNat/\p.size<=300:=by
   obtain⟨_,_,⟨s,e,k1,k2⟩,_,_⟩:=va.o;cases e;exact⟨k1,k2 h6⟩
  obtain⟨e9,i6⟩:b9=z.data.toList.map UInt8.toNat/\z.size<=300:=by
   obtain⟨_,_,⟨s,e,k1,k2⟩,_,_⟩:=vb.o;cases e;exact⟨k1,k2 (h8.o h6)⟩
  have f0:H_ (∀V (i:Nat) (hi:i<p.size),Fr A V N_->E<0->plc z (p[i]'hi).toNat<0->a7 (.returned (z_ 1)) V):=zy (λV i hi g ho hp=>by
   refine f9.o V (p[i]'hi).toNat (f6.o.trans g u_) ho ?_ ?_
   .rw[e8]
    exact ay_.2 ⟨_,aj_ (ee p i hi),rfl⟩
   .rw[e9]
    exact dM.1 hp)
  have f4:H_ (∀V,Fr A V N_->(∀i (hi:i<p.size),¬(E<0/\plc z (p[i]'hi).toNat<0))->a7 (.returned (z_ 602)) V):=zy (λV g h=>by
   refine g0.o V (f6.o.trans g u_) ?_
   rintro⟨ho,c,hc,hn⟩
   rw[e8]at hc
   obtain⟨b,hb,rfl⟩:=ay_.1 hc
   obtain⟨i,hi⟩:=a5_ hb
   have hl:i<p.size:=by have:=(ae_.1 hi).1;simpa using this
   rw[ee p i hl]at hi
   cases hi
   rw[e9]at hn
   exact h i hl ⟨ho,dM.2 hn⟩)
  have hP:H_ (∀V (c:Nat),Calls prog 27 #[.string z,U_ c] V λe w'=>e=.returned (z_ (plc z c))/\w'=V):=zy (λV c=>vC z c V M_);go_wp2;go_loopg [17] (p.size+1) (λmm v V=>∃i:Nat,v=I_ i/\H_ (Fr A V N_)/\i<=p.size/\p.size+1-i<=mm/\H_ (∀j (hj:j<p.size),j<i->¬(E<0/\plc z (p[j]'hj).toNat<0)));case atStart=>exact⟨0,rfl,zy (A_ _ _),al_ _,M_,zy (λj hj h=>absurd h (bt_ j))⟩
  case round=>
   obtain⟨i,rfl,g,hi,i2,hn⟩:=hrel;obtain⟨k0,k1,k2,k3,k4,m0,m1,m2,m3,m4⟩:=a6.o wr g;by_cases e0:i<p.size
   .have g9:(i:Int)<(p.size:Int):=M_;obtain⟨bc,d8⟩:=e_ ((p[i]'e0).toNat);have d9:=zy (λV g=>f0.o V i e0 g);have nx:H_ (¬(E<0/\plc z bc<0)->∀j (hj:j<p.size),j<i+1->¬(E<0/\plc z (p[j]'hj).toNat<0)):=zy (λh j hj i1=>by
     by_cases e:j=i
     .subst e
      rw[<- d8]
      exact h
     .exact hn.o j hj M_)
    rw[<- d8]at d9;have i0:((p[i]'e0).toNat:Int)=(bc:Int):=by rw[d8]
    replace d8:=zy d8;by_cases ho:E<0
    .have g7:decide (E<0)=true:=decide_eq_true ho;have g2:H_ (∀q,Calls prog 27 #[.string z,U_ bc] (wr.drewN q) λe w'=>e=.returned (z_ (plc z bc))/\w'=wr.drewN q):=zy (λq=>hP.o _ bc);by_cases hp:plc z bc<0
     .have f1:=zy (λV g=>d9.o V g ho hp);have g8:decide (plc z bc<0)=true:=decide_eq_true hp;replace hp:=zy hp;generalize plc z bc=pv at *;go_wp2;go_quiet (first|(go_at_call 27;exact Calls.quiet_of_same (g2.o _)));go_wp2;try go_ret
      exact f1.o _ (by first|exact g.o.si (zq.drewN _ _)|exact g.o.drew.si (zq.drewN _ _))
     .have f8:=zy (nx.o (λh=>hp h.2));have g8:decide (plc z bc<0)=false:=decide_eq_false hp;replace hp:=zy hp;generalize g5:plc z bc=pv at *;replace g5:=zy g5;go_wp2;go_quiet (first|(go_at_call 27;exact Calls.quiet_of_same (g2.o _)));go_wp2;go_roundg (p.size+1-(i+1));case measure=>omega
      case rel=>exact⟨i+1,by simp,zy (by first|exact g.o.si (zq.drewN _ _)|exact g.o.drew.si (zq.drewN _ _)),e0,l_,f8⟩
    .have f8:=zy (nx.o (λh=>ho h.1));have g7:decide (E<0)=false:=decide_eq_false ho;go_wp2;go_quiet (fail);go_wp2;go_roundg (p.size+1-(i+1));case measure=>omega
     case rel=>exact⟨i+1,by simp,zy (by first|exact g.o.si (zq.drewN _ _)|exact g.o.drew.si (zq.drewN _ _)|exact g),e0,l_,f8⟩
   .have g9:¬((i:Int)<(p.size:Int)):=M_;have f1:=zy (f4.o wr g (λj hj=>hn.o j hj M_));go_wp2;try go_ret
    exact f1
 .have e6:(so==101)=false:=by simp[h6]
  by_cases h7:so=114
  .have e7:(so==114)=true:=by simp[h7]
   have g1:H_ (∀V,Fr w1 V N_->a7 (.returned (z_ (ug (lnK l) (prK tb f) w fs d6:Int))) V):=zy (λV g=>fin.o V _ g (by rw[n_ (λh=>h6 h.1),i_ h7]));replace h6:=zy h6;replace h7:=zy h7;go_in;go_upto_region 3 with fail;rw[<- b7.o];go_wp2;refine tr_ 11 (λV=>f_ V bp 0 (P_ ba)/\f_ V bp 1 (P_ bb)) ?_;refine tz_ 0 ?_;refine tz_ 1 ?_;refine tz_ 2 ?_;refine tz_ 3 ?_;refine tz_ 4 ?_;refine tz_ 5 ?_;refine tz_ 6 ?_;refine tz_ 7 ?_;refine tz_ 8 ?_;refine tz_ 9 ?_;refine zw 10 rfl K_ (λ_=>⟨b0,b1⟩) (λK hK=>?_);go_simp;apply(b8.o _ (A_ w1 _).drew).mono;rintro e w2 ⟨rfl,f2⟩;refine hK _ _ ?_;have D:Fr w1 w2 N_:=(A_ w1 _).drew.trans f2 u_;obtain⟨q0,q1,q2,q3,q4,q5,q6⟩:=cel.o w2 D;refine t1_ 11 ⟨q0,q1⟩ ?_;refine td_ ?_ _;replace D:=zy D;go_upto_region 23 with(go_at_call 26;apply(a8.o _ (by first|exact D.o|exact D.o.drew)).mono;rintro e u ⟨H,J,I,p,rfl,f3,v3⟩;obtain⟨L,F⟩:=e_ (u.alloc (.cells #[.int .u8 so,.slice H J I,.string p,z_ ov,z_ nv] 44));have T:H_ (Fr w1 L N_):=zy (by rw[F];exact((show Fr w1 _ N_ from(by first|exact D.o|exact D.o.drew)).trans f3 u_).alloc _);have B4:H_ (Blk L u.heap.size [.int .u8 so,.slice H J I,.string p,z_ ov,z_ nv] 44):=zy (by rw[F];exact B_ u _ _);have V4:H_ (KDv L P ⟨so,nv,ov,a5,fs⟩ (.int .u8 so) (.slice H J I) (.string p) (z_ ov) (z_ nv)):=zy (v3.fr (S:=λ_=>False) (by rw[F];exact(A_ _ _).alloc _) u_);obtain⟨u0,u1,-,-,-,-,-⟩:=cel.o L T;replace F:=zy F);rw[<- F.o];go_upto_region 24 with(go_at_call 26;apply(a9.o _ T).mono;rintro e C ⟨X,Z,Y,z,rfl,f5,v5⟩;obtain⟨A,G⟩:=e_ (C.alloc (.cells #[.int .u8 O,.slice X Z Y,.string z,z_ E,z_ N] 44));have U:Fr L A N_:=(by rw[G];exact f5.alloc _);have f6:H_ (Fr w1 A N_):=zy (T.o.trans U u_);have B6:H_ (Blk A C.heap.size [.int .u8 O,.slice X Z Y,.string z,z_ E,z_ N] 44):=zy (by rw[G];exact B_ C _ _);have va:H_ (KDv A P ⟨so,nv,ov,a5,fs⟩ (.int .u8 so) (.slice H J I) (.string p) (z_ ov) (z_ nv)):=zy (V4.o.fr U u_);have vb:H_ (KDv A Q ⟨O,N,E,b9,d6⟩ (.int .u8 O) (.slice X Z Y) (.string z) (z_ E) (z_ N)):=zy (v5.fr (S:=λ_=>False) (by rw[G];exact(A_ _ _).alloc _) u_);have A6:H_ (Blk A u.heap.size [.int .u8 so,.slice H J I,.string p,z_ ov,z_ nv] 44):=zy (U.bl B4 id);replace G:=zy G);rw[<- G.o];have a6:H_ (∀V,Fr A V N_->V.cell? ⟨u.heap.size,0,none⟩=some (.int .u8 so)/\V.cell? ⟨u.heap.size,1,none⟩=some (.slice H J I)/\V.cell? ⟨u.heap.size,2,none⟩=some (.string p)/\V.cell? ⟨u.heap.size,3,none⟩=some (z_ ov)/\V.cell? ⟨u.heap.size,4,none⟩=some (z_ nv)/\V.cell? ⟨C.heap.size,0,none⟩=some (.int .u8 O)/\V.cell? ⟨C.heap.size,1,none⟩=some (.slice X Z Y)/\V.cell? ⟨C.heap.size,2,none⟩=some (.string z)/\V.cell? ⟨C.heap.size,3,none⟩=some (z_ E)/\V.cell? ⟨C.heap.size,4,none⟩=some (z_ N)):=zy (λV g=>by
    have k:=g.bl A6 id
    have m:=g.bl B6 id
    exact⟨k.cell 0,k.cell 1,k.cell 2,k.cell 3,k.cell 4,m.cell 0,m.cell 1,m.cell 2,m.cell 3,m.cell 4⟩)
   obtain⟨k0,k1,k2,k3,k4,m0,m1,m2,m3,m4⟩:=a6.o A (A_ _ _);generalize u.heap.size=da at *;generalize C.heap.size=ea at *;have hR:=zy (d7.o A _ _ _ _ _ _ _ _ _ _ f6 va vb);have f1:=zy (λV g=>g1.o V (f6.o.trans g u_));generalize ug (lnK l) (prK tb f) w fs d6=rk at *;go_wp2_with (go_at_call 28;apply hR.o.mono;rintro e w7 ⟨rfl,f7⟩);try go_ret
   exact f1.o _ f7
  .have e7:(so==114)=false:=by simp[h7]
   have g6:H_ (∀V,Fr w1 V N_->a7 (.returned (z_ 602)) V):=zy (λV g=>fin.o V 602 g (by rw[n_ (λh=>h6 h.1),n_ h7]));replace h6:=zy h6;replace h7:=zy h7;go_in;go_upto_region 3 with fail;rw[<- b7.o];go_wp2;refine tr_ 11 (λV=>f_ V bp 0 (P_ ba)/\f_ V bp 1 (P_ bb)) ?_;refine tz_ 0 ?_;refine tz_ 1 ?_;refine tz_ 2 ?_;refine tz_ 3 ?_;refine tz_ 4 ?_;refine tz_ 5 ?_;refine tz_ 6 ?_;refine tz_ 7 ?_;refine tz_ 8 ?_;refine tz_ 9 ?_;refine zw 10 rfl K_ (λ_=>⟨b0,b1⟩) (λK hK=>?_);go_simp;apply(b8.o _ (A_ w1 _).drew).mono;rintro e w2 ⟨rfl,f2⟩;refine hK _ _ ?_;have D:Fr w1 w2 N_:=(A_ w1 _).drew.trans f2 u_;obtain⟨q0,q1,q2,q3,q4,q5,q6⟩:=cel.o w2 D;refine t1_ 11 ⟨q0,q1⟩ ?_;refine td_ ?_ _;replace D:=zy D;go_upto_region 23 with(go_at_call 26;apply(a8.o _ (by first|exact D.o|exact D.o.drew)).mono;rintro e u ⟨H,J,I,p,rfl,f3,v3⟩;obtain⟨L,F⟩:=e_ (u.alloc (.cells #[.int .u8 so,.slice H J I,.string p,z_ ov,z_ nv] 44));have T:H_ (Fr w1 L N_):=zy (by rw[F];exact((show Fr w1 _ N_ from(by first|exact D.o|exact D.o.drew)).trans f3 u_).alloc _);have B4:H_ (Blk L u.heap.size [.int .u8 so,.slice H J I,.string p,z_ ov,z_ nv] 44):=zy (by rw[F];exact B_ u _ _);have V4:H_ (KDv L P ⟨so,nv,ov,a5,fs⟩ (.int .u8 so) (.slice H J I) (.string p) (z_ ov) (z_ nv)):=zy (v3.fr (S:=λ_=>False) (by rw[F];exact(A_ _ _).alloc _) u_);obtain⟨u0,u1,-,-,-,-,-⟩:=cel.o L T;replace F:=zy F);rw[<- F.o];go_upto_region 24 with(go_at_call 26;apply(a9.o _ T).mono;rintro e C ⟨X,Z,Y,z,rfl,f5,v5⟩;obtain⟨A,G⟩:=e_ (C.alloc (.cells #[.int .u8 O,.slice X Z Y,.string z,z_ E,z_ N] 44));have U:Fr L A N_:=(by rw[G];exact f5.alloc _);have f6:H_ (Fr w1 A N_):=zy (T.o.trans U u_);have B6:H_ (Blk A C.heap.size [.int .u8 O,.slice X Z Y,.string z,z_ E,z_ N] 44):=zy (by rw[G];exact B_ C _ _);have A6:H_ (Blk A u.heap.size [.int .u8 so,.slice H J I,.string p,z_ ov,z_ nv] 44):=zy (U.bl B4 id);replace G:=zy G);rw[<- G.o];have a6:H_ (∀V,Fr A V N_->V.cell? ⟨u.heap.size,0,none⟩=some (.int .u8 so)/\V.cell? ⟨u.heap.size,1,none⟩=some (.slice H J I)/\V.cell? ⟨u.heap.size,2,none⟩=some (.string p)/\V.cell? ⟨u.heap.size,3,none⟩=some (z_ ov)/\V.cell? ⟨u.heap.size,4,none⟩=some (z_ nv)/\V.cell? ⟨C.heap.size,0,none⟩=some (.int .u8 O)/\V.cell? ⟨C.heap.size,1,none⟩=some (.slice X Z Y)/\V.cell? ⟨C.heap.size,2,none⟩=some (.string z)/\V.cell? ⟨C.heap.size,3,none⟩=some (z_ E)/\V.cell? ⟨C.heap.size,4,none⟩=some (z_ N)):=zy (λV g=>by
    have k:=g.bl A6 id
    have m:=g.bl B6 id
    exact⟨k.cell 0,k.cell 1,k.cell 2,k.cell 3,k.cell 4,m.cell 0,m.cell 1,m.cell 2,m.cell 3,m.cell 4⟩)
   obtain⟨k0,k1,k2,k3,k4,m0,m1,m2,m3,m4⟩:=a6.o A (A_ _ _);generalize u.heap.size=da at *;generalize C.heap.size=ea at *;have f1:=zy (g6.o A f6);go_wp2;try go_ret
   exact f1
structure PSt(W:World)(P Q:Nat->Prop)(bp ba bb gf n cf:Nat)(ta tb:List TR)(ka kb:Nat->KD)(lv:Value)(l f:List Nat)(V:World):Prop where
 fr:Fr W V N_
 K:PK V P Q bp ba bb ta tb ka kb lv (S_ gf n cf) l f
 row:V.ownsRow W.heap.size 3 1 (S_ gf n cf) n (f.map λ(x:Nat)=>Value.int .i64 (x:Int))
 len:f.length=n
 nb:bp≠gf
 nl:∀g,lv.ownBlock=some g->g≠gf
 hP:∀g,P g->g<W.heap.size
 hQ:∀g,Q g->g<W.heap.size
section
variable {W V V':World} {P Q:Nat->Prop} {bp ba bb gf n cf:Nat} {ta tb:List TR} {ka kb:Nat->KD} {lv:Value} {l f:List Nat}
def PSt.ge(h:PSt W P Q bp ba bb gf n cf ta tb ka kb lv l f V):W.heap.size<=gf:=(h.row.lt gf rfl).1
def PSt.n_eq(h:PSt W P Q bp ba bb gf n cf ta tb ka kb lv l f V):n=ta.length*tb.length:=by rw[<- h.len,h.K.fl]
def PSt.call(h:PSt W P Q bp ba bb gf n cf ta tb ka kb lv l f V)(hf:Fr V V' N_):PSt W P Q bp ba bb gf n cf ta tb ka kb lv l f V':=⟨h.fr.trans hf u_,h.K.new hf,zj h.row hf u_,h.len,h.nb,h.nl,h.hP,h.hQ⟩
def PSt.cell(h:PSt W P Q bp ba bb gf n cf ta tb ka kb lv l f V){k:Nat}(hk:k<n):V.cell? ⟨gf,k,none⟩=some (z_ (lnK f k:Int))/\V.frozen? ⟨gf,k,none⟩=false/\lnK f k<=602:=by
 obtain⟨g',b,e,h1,a⟩:=h.K.rf.at (k:=k) (by rw[h.len];exact hk);cases e;exact⟨h1,h.row.frozenAt _,a⟩
def PSt.set(h:PSt W P Q bp ba bb gf n cf ta tb ka kb lv l f V){k:Nat}(hx:x<=602):PSt W P Q bp ba bb gf n cf ta tb ka kb lv l (f.set k x) (V.setCell ⟨gf,k,none⟩ (I_ x)):=by
 have hg:=h.ge;have a:=Y_ V ⟨gf,k,none⟩ (I_ x);have r1:=(h.row.stored k (I_ x)).1;rw[<- List.map_set]at r1;have d:∀g,P g->¬(g=gf):=λg c e=>by have:=h.hP g c;omega
 have i:∀g,Q g->¬(g=gf):=λg c e=>by have:=h.hQ g c;omega
 have j:∀y∈f.set k x,y<=602:=λy hy=>by
  rcases cb_ hy with hy|rfl
  .exact h.K.rf.2 y hy
  .exact hx
 refine⟨h.fr.trans a (λy hy e=>?_),⟨a.bl h.K.b h.nb,h.K.Za.fr a d,h.K.Zb.fr a i,h.K.rl.fr a h.nl,⟨?_,j⟩,h.K.ll,by simp[h.K.fl]⟩,r1,by simp[h.len],h.nb,h.nl,h.hP,h.hQ⟩
 .have:y=gf:=e;omega
 .rw[show(f.set k x).length=n by simp[h.len]];exact zS r1
end
def Bp(W:World)(ta tb:List TR)(ka kb:Nat->KD)(ra rb:Nat)(IL:List Nat->Prop)(IF:List Nat->List Nat->Prop)(e:Ending)(w':World):Prop:=
 ∃l f,e=.returned (z_ (prK tb f ra rb:Int))/\Fr W w' N_/\IL l/\(∀k,k<ta.length->lnK l k<=xp ta (rcK ka) l k)/\IF l f/\∀w r,w<ta.length->r<tb.length->prK tb f w r<=xl ka kb ta tb (lnK l) (prK tb f) w r
def iF{W:World}{P Q:Nat->Prop}{ba bb:Nat}{ta tb:List TR}{ka kb:Nat->KD}{IL:List Nat->Prop}{IF:List Nat->List Nat->Prop}(Za:ZK W P ba ta ka)(Zb:ZK W Q bb tb kb)(B:PB2 ta tb ka kb)(g0:0<ta.length)(i2:0<tb.length)(hP:∀g,P g->g<W.heap.size)(hQ:∀g,Q g->g<W.heap.size)(g3:W.cell? ⟨ba,31,none⟩=some (I_ ra))(g4:W.cell? ⟨bb,31,none⟩=some (I_ rb))(i8:ra<ta.length)(i9:rb<tb.length)(h0:IL (List.replicate ta.length 602))(hs:∀l k,IL l->l.length=ta.length->k<ta.length->xp ta (rcK ka) l k<lnK l k->IL (l.set k (xp ta (rcK ka) l k)))(f0:∀l,IL l->(∀k,k<ta.length->lnK l k<=xp ta (rcK ka) l k)->IF l (List.replicate (ta.length*tb.length) 602))(fs:∀l f w r,IL l->IF l f->f.length=ta.length*tb.length->w<ta.length->r<tb.length->xl ka kb ta tb (lnK l) (prK tb f) w r<prK tb f w r->IF l (f.set (w*tb.length+r) (xl ka kb ta tb (lnK l) (prK tb f) w r))):Calls prog 7 #[P_ ba,P_ bb] W (Bp W ta tb ka kb ra rb IL IF):=by
 obtain⟨h4,Q_⟩:=y_ (Bp W ta tb ka kb ra rb IL IF);rw[<- Q_.o];obtain⟨x0,e5⟩:∃t,ta[0]?=some t:=⟨_,af_ g0⟩;obtain⟨y0,e6⟩:∃t,tb[0]?=some t:=⟨_,af_ i2⟩;obtain⟨ga,ca,-,-,c0,-,-,-,-⟩:=Za.type e5;obtain⟨gb,cb,-,-,d0,-,-,-,-⟩:=Zb.type e6;have f7:=B.a.len;have f8:=B.b.len;obtain⟨ti,h6,h7,h8,h9⟩:=info_parts Qz;have hL:=zy (oo Za B.a h0 hs g0);have cel:H_ (∀V,Fr W V N_->V.cell? ⟨ba,0,none⟩=some (.slice (some ⟨ga,0,none⟩) ta.length ca)/\V.cell? ⟨bb,0,none⟩=some (.slice (some ⟨gb,0,none⟩) tb.length cb)/\V.cell? ⟨ba,31,none⟩=some (I_ ra)/\V.cell? ⟨bb,31,none⟩=some (I_ rb)):=zy (λV m=>⟨m.ke c0,m.ke d0,m.ke g3,m.ke g4⟩);have i3:ta.length*tb.length<=90000:=ak_ (Nat.mul_le_mul f7 f8) D_;replace e5:=zy e5;replace e6:=zy e6;replace hs:=zy hs;replace h0:=zy h0;replace f0:=zy f0;replace fs:=zy fs;replace hP:=zy hP;replace hQ:=zy hQ;replace Za:=zy Za;replace Zb:=zy Zb;replace B:=zy B;clear c0 d0 g3 g4;go_in;go_upto_region 2 with(go_at_call 11;refine hL.o.mono ?_;rintro e w1 ⟨gl,cl,l,rfl,L,a2,St⟩;have T:=L.fr;obtain⟨c0,d0,-,-⟩:=cel.o w1 T;replace L:=zy L;replace a2:=zy a2;replace St:=zy St;replace T:=zy T);obtain⟨N,hN⟩:=e_ (ta.length*tb.length);have i1:((ta.length:Int)*(tb.length:Int))=(N:Int):=by rw[hN];simp
 have j1:N<=90000:=M_;replace hN:=zy hN;clear i3;refine tr_ 17 (λV=>V.cell? ⟨ba,0,none⟩=some (.slice (some ⟨ga,0,none⟩) ta.length ca)/\V.cell? ⟨bb,0,none⟩=some (.slice (some ⟨gb,0,none⟩) tb.length cb)) ?_;refine tz_ 0 ?_;refine tz_ 1 ?_;refine tz_ 2 ?_;refine tz_ 3 ?_;refine tz_ 4 ?_;refine tz_ 5 ?_;refine tz_ 6 ?_;refine tz_ 7 ?_;refine tz_ 8 ?_;refine tz_ 9 ?_;refine tz_ 10 ?_;refine tz_ 11 ?_;refine tz_ 12 ?_;refine xD 13 (I_ N) rfl K_ (λ_ _ _ h=>h) K_ ?y13 ?_;case y13=>(rintro V ⟨h1,h2⟩;go_simp;rw[IntKind.wrap_i64];omega)
 refine zw 14 rfl K_ (λ_=>⟨c0,d0⟩) (λK hK=>?_);go_simp;obtain⟨A,e4,o2,g2⟩:=run_make_full (P:=prog) w1.drew W.heap.size 38 3 ti _ 1 dX h6 h7 h8 .i64 .i64 N (by rw[h9];omega) (by unfold maxLen;omega) T.o.size;obtain⟨h3,g8⟩:=e_ ((madeCells (Value.int IntKind.i64 0).cells (N*1)).toList);rw[<- g8]at o2;have g6:w1.drew.heap.size=w1.heap.size:=rfl;rw[g6]at e4 o2;rw[e4];clear e4 g8 g6;have a7:Fr w1 A N_:=(A_ w1 _).drew.gw g2 (λk e _=>(by cases e));clear g2;have a5:Fr W A N_:=T.o.trans a7 u_;obtain⟨d7,d8,-,-⟩:=cel.o A a5;have l2:w1.heap.size<A.heap.size:=(o2.lt w1.heap.size rfl).2;replace o2:=zy o2;replace a7:=zy a7;replace a5:=zy a5;go_simp;refine hK _ _ ?_;clear hK K;refine t1_ 15 ⟨d7,d8⟩ ?_;refine zw 16 rfl K_ (λ_=>⟨d7,d8⟩) (λK hK=>?_);go_simp;obtain⟨H,b9⟩:=e_ (A.alloc (.cells #[P_ ba,P_ bb,.slice (some ⟨gl,0,none⟩) ta.length cl,.slice (some ⟨w1.heap.size,0,none⟩) N N] 49));rw[<- b9];have b6:Fr A H N_:=by rw[b9];exact(A_ A _).alloc _
 have a6:Fr W H N_:=a5.o.trans b6 u_;have I:Blk H A.heap.size [P_ ba,P_ bb,.slice (some ⟨gl,0,none⟩) ta.length cl,.slice (some ⟨w1.heap.size,0,none⟩) N N] 49:=by rw[b9];exact B_ A _ _
 have R3:bk H (.slice (some ⟨gl,0,none⟩) ta.length cl) l:=(L.o.lrow.fr a7.o u_).fr b6 u_;have o3:=zj o2.o b6 u_;obtain⟨e8,e9,-,-⟩:=cel.o H a6;obtain⟨gf,f6⟩:=e_ w1.heap.size;obtain⟨bp,f5⟩:=e_ A.heap.size;have f9:=L.o.len;have g9:gl≠gf:=by have:=(L.o.row.lt gl rfl).2;omega
 have e7:bp≠gf:=M_;have j7:W.heap.size<=gf:=by have:=T.o.size;omega
 rw[<- f6]at o3 I⊢;rw[<- f5]at I⊢;replace I:=zy I;replace o3:=zy o3;replace R3:=zy R3;replace a6:=zy a6;clear b9 f6 f5 b6 o2 a7 a5 c0 d0 d7 d8 l2 L T;refine hK _ _ ?_;clear hK K;refine t1_ 17 ⟨e8,e9⟩ ?_;refine td_ ?_ _;have d2:H_ (∀V,Fr H V (· = gf)->Fr W V N_/\V.cell? ⟨bp,3,none⟩=some (.slice (some ⟨gf,0,none⟩) N N)):=zy (λV m=>by
  have e1:Fr W V N_:=a6.o.trans m (λy hy e=>by
   have:y=gf:=e
   omega)
  exact⟨e1,(m.bl I.o e7).cell 3⟩)
 have start:H_ (∀j,j<0->h3[j]?=some (Value.int .i64 602)):=zy (λj X=>absurd X (bt_ j));have d6:=(d2.o H (A_ _ _)).2;clear e8 e9;go_wp2_with fail;go_loopg [7] (N+1) (λmm v V=>∃(i:Nat) (xs:List Value),v=I_ i/\i<=N/\N+1-i<=mm/\H_ (Fr H V (· = gf))/\H_ (V.ownsRow W.heap.size 3 1 (.slice (some ⟨gf,0,none⟩) N N) N xs)/\H_ (∀j,j<i->xs[j]?=some (Value.int .i64 602)));case atStart=>exact⟨0,h3,rfl,al_ _,M_,zy (A_ _ _),by first|exact o3|exact zy (zj o3.o ((A_ _ _).drew) u_),start⟩
 case round=>
  clear start o3 d6;obtain⟨i,xs,rfl,hi,e2,hf,ho,hx⟩:=hrel;have i7:xs.length=N:=by have:=ho.o.1;omega
  have d6:=(d2.o wr hf.o).2;by_cases e0:i<N
  .have i0:(i:Int)<(N:Int):=M_;have z:wr.cell? ⟨gf,i,none⟩=some xs[i]:=zr ho.o rfl (af_ M_);have fc:=ho.o.frozenAt i;have c:=zy (hf.o.trans (Y_ wr ⟨gf,i,none⟩ (.int .i64 602)) (λy hy e=>e));have no:=zy (ho.o.stored i (.int .i64 602)).1;have nx:H_ (∀j,j<i+1->(xs.set i (Value.int .i64 602))[j]?=some (Value.int .i64 602)):=zy (λj X=>by
    rw[bg_]
    by_cases e:i=j
    .rw[i_ e,i_ M_]
    .rw[n_ e]
     exact hx.o j M_)
   generalize xs[i]=xi at *;clear hf ho hx;go_wp2_with fail;go_roundg (N+1-(i+1));case measure=>omega
   case rel=>exact⟨i+1,_,by simp,e0,l_,c,no,nx⟩
  .have i0:¬((i:Int)<(N:Int)):=M_;obtain rfl:i=N:=M_;have g7:xs=(List.replicate i 602).map λ(x:Nat)=>Value.int .i64 (x:Int):=by
    apply List.ext_getElem?;intro j;by_cases X:j<i
    .rw[hx.o j X,aq_,List.getElem?_replicate,i_ X];rfl
    .rw[a4_ M_,a4_ (by simp;omega)]
   have S0:H_ (PSt W P Q bp ba bb gf i i ta tb ka kb (.slice (some ⟨gl,0,none⟩) ta.length cl) l (List.replicate i 602) wr):=zy (by
    have fW:=(d2.o wr hf.o).1
    have e3:=ho.o
    rw[g7]at e3
    refine⟨fW,⟨hf.o.bl I.o e7,Za.o.fr fW u_,Zb.o.fr fW u_,R3.o.fr hf.o (λg e=>?_),⟨?_,λx hx=>by rw[List.eq_of_mem_replicate hx];omega⟩,f9,by simp[hN.o]⟩,e3,by simp,e7,λg e=>?_,hP.o,hQ.o⟩
    .cases e
     exact g9
    .rw[show(List.replicate i 602).length=i by simp]
     exact zS e3
    .cases e
     exact g9)
   have F0:=zy (f0.o l a2.o St.o);rw[<- hN.o]at F0;have g5:(List.replicate i 602).sum<602*i+1:=by simp;omega
   clear hf ho hx g7 i7 d2 I R3 a6 f0 e2 hi Za Zb;have ST:H_ (∃S:List Nat->World->Prop,S=PSt W P Q bp ba bb gf i i ta tb ka kb (.slice (some ⟨gl,0,none⟩) ta.length cl) l):=zy ⟨_,rfl⟩;obtain⟨S,hS⟩:=ST.o;clear ST;have C:H_ (∀f V,S f V->PSt W P Q bp ba bb gf i i ta tb ka kb (.slice (some ⟨gl,0,none⟩) ta.length cl) l f V):=zy (λf V h=>by rw[hS]at h;exact h);have b4:H_ (∀f V,PSt W P Q bp ba bb gf i i ta tb ka kb (.slice (some ⟨gl,0,none⟩) ta.length cl) l f V->S f V):=zy (λf V h=>by rw[hS];exact h);replace S0:H_ (S (List.replicate i 602) wr):=zy (b4.o _ _ S0.o);have a3:H_ (∀f V V',S f V->Fr V V' N_->S f V'):=zy (λf V V' h hf=>b4.o _ _ ((C.o _ _ h).call hf));have b5:H_ (∀f V,S f V->V.cell? ⟨ba,0,none⟩=some (.slice (some ⟨ga,0,none⟩) ta.length ca)/\V.cell? ⟨bb,0,none⟩=some (.slice (some ⟨gb,0,none⟩) tb.length cb)/\V.cell? ⟨ba,31,none⟩=some (I_ ra)/\V.cell? ⟨bb,31,none⟩=some (I_ rb)/\V.cell? ⟨bp,3,none⟩=some (.slice (some ⟨gf,0,none⟩) i i)):=zy (λf V h=>by
    obtain⟨E,Y,Z,G⟩:=cel.o V (C.o _ _ h).fr
    exact⟨E,Y,Z,G,(C.o _ _ h).K.b.cell 3⟩)
   have O:H_ (∀f V w r,S f V->w<ta.length->r<tb.length->Calls prog 12 #[P_ bp,.int .i64 ((w:Nat):Int),.int .i64 ((r:Nat):Int)] V λe w'=>e=.returned (.int .i64 (xl ka kb ta tb (lnK l) (prK tb f) w r:Int))/\S f w'):=zy (λf V w r h hw hr=>by
    have k:=YK (C.o _ _ h).K B.o (af_ hw) (af_ hr)
    refine k.mono ?_
    rintro e w' ⟨rfl,hf⟩
    exact⟨rfl,a3.o _ _ _ h hf⟩)
   have D:H_ (∀f V w r,S f V->w<ta.length->r<tb.length->Calls prog 13 #[P_ bp,.int .i64 ((w:Nat):Int),.int .i64 ((r:Nat):Int)] V λe w'=>e=.returned (.int .i64 (prK tb f w r:Int))/\∃n,w'=V.drewN n):=zy (λf V w r h hw hr=>dD (C.o _ _ h).K hw hr f7 f8);have a0:H_ (∀f V w r x,S f V->w<ta.length->r<tb.length->x<prK tb f w r->V.cell? ⟨gf,w*tb.length+r,none⟩=some (.int .i64 (prK tb f w r:Int))/\V.frozen? ⟨gf,w*tb.length+r,none⟩=false/\w*tb.length+r<i/\S (f.set (w*tb.length+r) x) (V.setCell ⟨gf,w*tb.length+r,none⟩ (I_ x))/\(f.set (w*tb.length+r) x).sum<f.sum):=zy (λf V w r x h hw hr hx=>by
    have F:=C.o _ _ h
    have hk:w*tb.length+r<i:=by rw[F.n_eq];exact Jp hw hr
    obtain⟨q1,q2,q3⟩:=F.cell hk
    exact⟨q1,q2,hk,b4.o _ _ (F.set (by have:prK tb f w r<=602:=q3;omega)),dJ (by rw[F.len];exact hk) hx⟩)
   have a1:H_ (∀f V w r,S f V->IF l f->w<ta.length->r<tb.length->xl ka kb ta tb (lnK l) (prK tb f) w r<prK tb f w r->IF l (f.set (w*tb.length+r) (xl ka kb ta tb (lnK l) (prK tb f) w r))):=zy (λf V w r h hI hw hr e0=>fs.o l f w r a2.o hI (C.o _ _ h).K.fl hw hr e0);have fin:H_ (∀f V,S f V->IF l f->(∀w r,w<ta.length->r<tb.length->prK tb f w r<=xl ka kb ta tb (lnK l) (prK tb f) w r)->h4 (.returned (.int .i64 (prK tb f ra rb:Int))) V):=zy (λf V h hI h5=>by
    rw[Q_.o]
    exact⟨l,f,rfl,(C.o _ _ h).fr,a2.o,St.o,hI,h5⟩)
   obtain⟨p,f3⟩:∃F:List Nat->Nat->Nat->Nat,F=λf w r=>xl ka kb ta tb (lnK l) (prK tb f) w r:=⟨_,rfl⟩;have f1:∀f w r,xl ka kb ta tb (lnK l) (prK tb f) w r=p f w r:=λf w r=>by rw[f3]
   obtain⟨d,f4⟩:∃F:List Nat->Nat->Nat->Nat,F=λf w r=>prK tb f w r:=⟨_,rfl⟩;have f2:∀f w r,prK tb f w r=d f w r:=λf w r=>by rw[f4]
   simp only[f1,f2]at O D a0 a1 fin;replace S0:=S0;clear hS C b4 fs St a2 Q_ B hP hQ f1 f2 f3 f4 hL hN i1 cel f9;generalize List.replicate i 602=l0 at *;go_wp2_with fail;go_loopg [8] (602*i+1) (λmm v V=>∃(more:Bool) (f:List Nat),v=.bool more/\H_ (S f V)/\H_ (IF l f)/\H_ (more=false->∀w r,w<ta.length->r<tb.length->d f w r<=p f w r)/\(more=true->f.sum<mm));case atStart=>exact⟨true,l0,rfl,S0,F0,zy (λe=>by cases e),λ_=>g5⟩
   case round=>
    clear S0 F0 g5 d6;obtain⟨more,f,rfl,S1,I1,E1,m1⟩:=hrel;cases more
    .have z:=zy (λV m=>fin.o f V m I1.o (E1.o rfl));obtain⟨k0,E,Y,Z,G⟩:=b5.o f wr S1.o;have hA:=zy (λq=>D.o f (wr.drewN q) ra rb (a3.o _ _ _ S1.o ((A_ _ _).si (zq.drewN _ _))) i8 i9);clear I1 E1 m1 O D a0 a1 fin;generalize d f ra rb=pv at *;go_wp2_with fail;go_quiet (first|(go_at_call 13;exact Calls.quiet_of (hA.o _))|(go_at_call 13;exact dU (hA.o _)));go_wp2_with fail;try go_ret
     exact z.o _ (a3.o _ _ _ S1.o ((A_ _ _).si (zq.drewN _ _)))
    .have hm:=m1 rfl;clear E1 m1 fin;go_wp2_with fail;go_loopg [8,9] (ta.length+1) (λmm v u V=>∃(w:Nat) (more:Bool) (c:List Nat),v=.bool more/\u=I_ w/\w<=ta.length/\ta.length+1-w<=mm/\H_ (S c V)/\H_ (IF l c)/\H_ (more=false->∀w' r',w'<w->r'<tb.length->d c w' r'<=p c w' r')/\c.sum<=f.sum/\(more=true->c.sum<f.sum));case atStart=>exact⟨0,false,f,rfl,rfl,al_ _,M_,S1,I1,zy (λ_ j _ X=>absurd X (bt_ j)),l_,λe=>by cases e⟩
     case round=>
      clear S1 I1;obtain⟨w,more,c,rfl,rfl,j6,e2,S2,I2,E2,s2,m2⟩:=hrel;obtain⟨k0,E,Y,Z,G⟩:=b5.o c wr S2.o;by_cases a9:w<ta.length
      .have i5:(w:Int)<(ta.length:Int):=M_;go_wp2_with fail;go_loopg [8,10] (tb.length+1) (λmm v u V=>∃(r:Nat) (more:Bool) (c:List Nat),v=.bool more/\u=I_ r/\r<=tb.length/\tb.length+1-r<=mm/\H_ (S c V)/\H_ (IF l c)/\H_ (more=false->∀w' r',w'<w\/(w'=w/\r'<r)->r'<tb.length->d c w' r'<=p c w' r')/\c.sum<=f.sum/\(more=true->c.sum<f.sum));case atStart=>exact⟨0,more,c,rfl,rfl,al_ _,M_,S2,I2,zy (λe w' r' h U=>E2.o e w' r' M_ U),s2,m2⟩
       case round=>
        clear S2 I2 E2 s2 m2 k0 E Y Z G;obtain⟨r,more,c,rfl,rfl,j5,j4,J,I3,E3,s3,m3⟩:=hrel;obtain⟨k0,E,Y,Z,G⟩:=b5.o c wr J.o;by_cases a4:r<tb.length
        .have i4:(r:Int)<(tb.length:Int):=M_;have hC:=zy (O.o c wr w r J.o a9 a4);have hA:=zy (λV m=>D.o c V w r m a9 a4);by_cases hx:p c w r<d c w r
         .have i6:(p c w r:Int)<(d c w r:Int):=M_;have st:=zy (λV m=>a0.o c V w r _ m a9 a4 hx);have nI:=zy (a1.o c wr w r J.o I3.o a9 a4 hx);obtain⟨M,hM⟩:=e_ (w*tb.length);have j0:((w:Int)*(tb.length:Int))=(M:Int):=by rw[hM];simp
          obtain⟨kk,b8⟩:=e_ (M+r);have d9:w*tb.length+r=kk:=M_;simp only[d9]at st nI;have j2:kk<i:=(st.o wr J.o).2.2.1;have j3:(kk:Int)<(i:Int):=M_;clear O D a0 a1;replace hM:=zy hM;replace b8:=zy b8;replace d9:=zy d9;replace hx:=zy hx;clear J I3 E3;generalize p c w r=x at *;generalize g1:d c w r=px at *;replace g1:=zy g1;go_upto_region 19 with(first|(go_at_call 12;refine hC.o.mono ?_;rintro e w5 ⟨rfl,z⟩;have b7:=zy (hA.o _ z);replace z:=zy z)|(go_at_call 13;refine b7.o.mono ?_;rintro e w6 ⟨rfl,nn,a8⟩;have S6:=zy (show S c w6 by rw[a8];exact a3.o _ _ _ z.o ((A_ _ _).si (zq.drewN _ _)));clear a8));clear k0 E Y Z G z hA b7 hC;obtain⟨k0,E,Y,Z,G⟩:=b5.o c w6 S6.o;obtain⟨q1,q2,-,q4,q5⟩:=st.o w6 S6.o;replace q4:=zy q4;refine tr_ 15 (λV=>V.cell? ⟨bp,3,none⟩=some (.slice (some ⟨gf,0,none⟩) i i)/\V.cell? ⟨bb,0,none⟩=some (.slice (some ⟨gb,0,none⟩) tb.length cb)) ?_;refine tz_ 0 ?_;refine tz_ 1 ?_;refine tz_ 2 ?_;refine tz_ 3 ?_;refine tz_ 4 ?_;refine tz_ 5 ?_;refine tz_ 6 ?_;refine tz_ 7 ?_;refine tz_ 8 ?_;refine tz_ 9 ?_;refine xD 10 (I_ M) rfl K_ (λ_ _ _ h=>h) K_ ?t10 ?_;case t10=>(rintro V ⟨h1,h2⟩;go_simp;rw[IntKind.wrap_i64];have:=b8.o;omega)
          refine tz_ 11 ?_;refine xD 12 (I_ kk) rfl K_ (λ_ _ _ h=>h) K_ ?t12 ?_;case t12=>(rintro V ⟨h1,h2⟩;go_simp;rw[IntKind.wrap_i64];have:=b8.o;omega)
          refine tz_ 13 ?_;refine tz_ 14 ?_;refine t1_ 15 ⟨G,E⟩ ?_;refine td_ ?_ _;go_wp2_with fail;go_roundg (tb.length+1-(r+1));case measure=>omega
          case rel=>exact⟨r+1,true,_,rfl,by simp,a4,l_,(by first|exact q4|exact zy (a3.o _ _ _ q4.o (A_ _ _).drew)),nI,zy (λe=>by cases e),M_,λ_=>M_⟩
         .have i6:¬((p c w r:Int)<(d c w r:Int)):=M_;have nE:H_ (more=false->∀w' r',w'<w\/(w'=w/\r'<r+1)->r'<tb.length->d c w' r'<=p c w' r'):=zy (λe w' r' h U=>by
           by_cases hh:w'=w/\r'=r
           .obtain⟨rfl,rfl⟩:=hh
            omega
           .exact E3.o e w' r' M_ U)
          clear J E3 O D a0 a1;generalize p c w r=x at *;generalize d c w r=px at *;go_wp2_with (first|(go_at_call 12;refine hC.o.mono ?_;rintro e w5 ⟨rfl,z⟩;have b7:=zy (hA.o _ z);replace z:=zy z)|(go_at_call 13;refine b7.o.mono ?_;rintro e w6 ⟨rfl,nn,a8⟩;rw[a8];clear a8));go_roundg (tb.length+1-(r+1));case measure=>omega
          case rel=>exact⟨r+1,more,c,rfl,by simp,a4,l_,zy (a3.o _ _ _ z.o ((A_ _ _).si (zq.drewN _ _))),I3,nE,s3,m3⟩
        .have i4:¬((r:Int)<(tb.length:Int)):=M_;have nE:H_ (more=false->∀w' r',w'<w+1->r'<tb.length->d c w' r'<=p c w' r'):=zy (λe w' r' h U=>E3.o e w' r' M_ U);clear E3 O D a0 a1;go_wp2_with fail;go_roundg (ta.length+1-(w+1));case measure=>omega
         case rel=>exact⟨w+1,more,c,rfl,by simp,a9,l_,J,I3,nE,s3,m3⟩
      .have i5:¬((w:Int)<(ta.length:Int)):=M_;have nE:H_ (more=false->∀w' r',w'<ta.length->r'<tb.length->d c w' r'<=p c w' r'):=zy (λe w' r' h U=>E2.o e w' r' M_ U);clear e2 E2 O D a0 a1;go_wp2_with fail;go_roundg f.sum;case measure=>exact hm
       case rel=>exact⟨more,c,rfl,S2,I2,nE,m2⟩
def KX{n w' r':Nat}(h:w'*n+r'=w*n+r)(hr:r<n)(c:r'<n):w'=w/\r'=r:=by
 have a:(w*n+r) % n=r:=by rw[bc_,Nat.mul_add_mod,Nat.mod_eq_of_lt hr]
 have b:(w'*n+r') % n=r':=by rw[bc_,Nat.mul_add_mod,Nat.mod_eq_of_lt c]
 have er:r'=r:=by rw[<- a,<- b,h]
 subst er;have:w'*n=w*n:=M_;exact⟨Nat.eq_of_mul_eq_mul_right M_ this,rfl⟩
def ZU(n k:Nat):lnK (List.replicate n 602) k=602:=by
 unfold lnK;rw[ap_,List.getElem?_replicate];split<;>rfl
def GC{ew er:Nat->Option PB}{ta tb:List TR}{f:List Nat}(h:∀w r,SnP ew er ta tb w r (prK tb f w r))(hr:r<tb.length)(hk:w*tb.length+r<f.length)(hx:SnP ew er ta tb w r x)(w' r':Nat):SnP ew er ta tb w' r' (prK tb (f.set (w*tb.length+r) x) w' r'):=by
 unfold prK;rw[ZP hk];split
 .rename_i e;by_cases a:r'<tb.length
  .obtain⟨rfl,rfl⟩:=KX e hr a;exact hx
  .obtain⟨m,h1,b,_⟩:=hx;exact⟨m,h1,b,λt t' _ c=>absurd (qp c) a⟩
 .exact h w' r'
def nU(W:World)(ew er:Nat->Option PB)(t t':PT)(e:Ending)(w':World):Prop:=
 ∃m,e=.returned (z_ (enc m:Int))/\Fr W w' N_/\m<=301/\Lo (Un ew er t t') m/\∀d,Un ew er t t' d->kn m (ndT d)
def iG{W:World}{P Q:Nat->Prop}{ba bb:Nat}{ta tb:List TR}{ka kb:Nat->KD}{ew er:Nat->Option PB}{t':PT}(Za:ZK W P ba ta ka)(Zb:ZK W Q bb tb kb)(B:PB2 ta tb ka kb)(hP:∀g,P g->g<W.heap.size)(hQ:∀g,Q g->g<W.heap.size)(z:W.cell? ⟨ba,31,none⟩=some (I_ ra))(D:W.cell? ⟨bb,31,none⟩=some (I_ rb))(K:KK ew er ta tb ka kb)(y:∀c l o,ew c=some (.enum l o)->l≠[])(a:isT ta ra t)(b:isT tb rb t')(p:okT ew t)(ft:vu t)(q:okT er t'):Calls prog 7 #[P_ ba,P_ bb] W (nU W ew er t t'):=by
 have la:=qp a;have G:=qp b;have k:=iF (IL:=SnL ew ta) (IF:=λ_ f=>∀w r,SnP ew er ta tb w r (prK tb f w r)) Za Zb B M_ M_ hP hQ z D la G
  ⟨by simp,λk=>⟨0,M_,ZU _ _,λ_ _ _ _=>.inl rfl⟩⟩
  (λl k h hl hk _=>⟨by simp[hl],λj=>by
   rw[ZP M_]
   split
   .rename_i e
    rw[e]
    exact Xn K.E y (WE K.A) K.f h k
   .exact h.sn j⟩)
  (λl _ _ w r=>⟨0,M_,ZU _ _,λ_ _ _ _ _ _ _=>.inl rfl⟩)
  (λl f w r h hf hl hw hr _=>GC hf hr (by rw[hl];exact Jp hw hr) (Qw K h.sn hf w r))
 apply k.mono;rintro e w' ⟨l,f,rfl,v,hl,hs,hf,F⟩;obtain⟨m,h1,i,u⟩:=hf ra rb;rw[i];refine⟨m,rfl,v,h1,u t t' a b p ft q,λd hd=>?_⟩;have C:=eI K hl hs hf F;exact C.all (λ_ _ h=>h) hd m ⟨p,q,h1,ra,rb,a,b,i⟩
structure GR(ts:List TR)(x:TR):Prop where
 sub:∀j∈x.subs,j<ts.length
 one:x.kind=91\/x.kind=123->∃j,x.subs=[j]
 kind:x.kind<256
 few:x.subs.length<=ts.length
 dis:x.kind=40->(x.subs.map λj=>(ts.getD j ⟨0,[]⟩).kind).Nodup
def gQ:∀{l:List PT}{js:List Nat},jR ts js l->(js.map λj=>(ts.getD j ⟨0,[]⟩).kind)=l.map PT.kind/\∀j∈js,j<ts.length
 | [],js,h=>by
  unfold jR at h;subst h;exact⟨rfl,λj d=>(by cases d)⟩
 |t::r,js,h=>by
  unfold jR at h;obtain⟨j,q,rfl,h1,c⟩:=h;obtain⟨a,b⟩:=gQ c;refine⟨by rw[aw_,aw_,a,(xX h1).1],λx hx=>?_⟩;rcases ao_.1 hx with rfl|hx
  .exact qp h1
  .exact b x hx
def rU:∀(l:List PT) (d:List Nat),jU d l=[]->(∀k∈l.map PT.kind,k∉d)/\(l.map PT.kind).Nodup/\∀t∈l,xv t=[]
 | [],_,_=>⟨λk hk=>(by cases hk),List.nodup_nil,λt j=>(by cases j)⟩
 |t::r,d,h=>by
  rw[jU,bw_,bw_]at h;obtain⟨h1,e,g⟩:=h;have hk:t.kind∉d:=λi=>by rw[i_ (.inr i)]at h1;cases h1
  obtain⟨a,b,c⟩:=rU r _ g;rw[aw_];refine⟨λk hm=>?_,List.nodup_cons.2 ⟨λhm=>a _ hm (by simp),b⟩,λu hu=>?_⟩
  .rcases ao_.1 hm with rfl|hm
   .exact hk
   .exact λhs=>a k hm (by simp[hs])
  .rcases ao_.1 hu with rfl|hu
   .exact e
   .exact c u hu
def iS:∀(l:List PT) (b:Nat),l.length<=(zJ b l).length
 | [],_=>al_ _
 |t::r,b=>by
  have:=mI b t;have:=iS r (b+(flat b t).length);rw[zJ,ai_,a6_];omega
mutual
def tN(ts:List TR):∀(t:PT) (b:Nat),(∀q x,(flat b t)[q]?=some x->ts[b+q]?=some x)->shT t->xv t=[]->∀x∈flat b t,GR ts x
 | .leaf c p,b,h,hs,_,x,hx=>by
  rw[flat,a1_]at hx;subst hx;have hc:c≠91/\c≠123/\c≠40/\c<256:=by
   unfold shT at hs;simp only[zu,zp,au_,beq_iff_eq,ax_,decide_eq_true_eq]at hs;omega
  exact⟨λj d=>(by cases d),λh=>(by rcases h with h|h;exact absurd h hc.1;exact absurd h hc.2.1),hc.2.2.2,al_ _,λh=>absurd h hc.2.2.1⟩
 | .wrap c p t,b,h,hs,hb,x,hx=>by
  have h0:∀q x,(flat b t)[q]?=some x->ts[b+q]?=some x:=λq x a=>h q x (by rw[flat,ar_ (ae_.1 a).1];exact a);have h1:=qp (fH ts t b h0);unfold shT at hs;rw[xv]at hb;rw[flat]at hx;rcases a2_.1 hx with hx|hx
  .exact tN ts t b h0 hs.2 hb x hx
  .rw[a1_]at hx;subst hx;refine⟨λj d=>?_,λ_=>⟨_,rfl⟩,?_,?_,λh=>?_⟩
   .rw[a1_]at d;subst d;exact h1
   .show c<256;omega
   .show 1<=ts.length;omega
   .have h:c=40:=h;omega
 | .alts p l,b,h,hs,hb,x,hx=>by
  have h0:∀q x,(zJ b l)[q]?=some x->ts[b+q]?=some x:=λq x a=>h q x (by rw[flat,ar_ (ae_.1 a).1];exact a);obtain⟨e,g⟩:=gQ (kJ ts l b h0);unfold shT at hs;rw[xv]at hb;obtain⟨_,b2,b3⟩:=rU l [] hb;have hl:=h (zJ b l).length ⟨40,jw b l⟩ (by rw[flat,as_ l_];simp);have i:=(ae_.1 hl).1;rw[flat]at hx;rcases a2_.1 hx with hx|hx
  .exact mH ts l b h0 hs.2 b3 x hx
  .rw[a1_]at hx;subst hx;refine⟨g,λh=>?_,by show 40<256;omega,?_,λ_=>by rw[e];exact b2⟩
   .have h:40=91\/40=123:=h;omega
   .show(jw b l).length<=_;rw[wu];have:=iS l b;omega
def mH(ts:List TR):∀(l:List PT) (b:Nat),(∀q x,(zJ b l)[q]?=some x->ts[b+q]?=some x)->cC l->(∀t∈l,xv t=[])->∀x∈zJ b l,GR ts x
 | [],b,h,_,_,x,hx=>by rw[zJ]at hx;cases hx
 |t::r,b,h,hs,hb,x,hx=>by
  unfold cC at hs;rw[zJ]at hx;rcases a2_.1 hx with hx|hx
  .exact tN ts t b (λq x a=>h q x (by rw[zJ,ar_ (ae_.1 a).1];exact a)) hs.1 (hb t (by simp)) x hx
  .exact mH ts r (b+(flat b t).length) (λq x a=>by
    rw[br_]
    refine h _ x ?_
    rw[zJ,as_ M_,b8_]
    exact a) hs.2 (λu hu=>hb u (by simp[hu])) x hx
end
def Qx{N:Nat}(ts:List TR):∀(ds:List PD) (b:Nat),(∀q x,(yS b ds)[q]?=some x->ts[b+q]?=some x)->(∀d∈ds,shB N d.body)->(∀f∈zk ds,xv f.ty=[])->∀x∈yS b ds,GR ts x
 | [],b,h,_,_,x,hx=>by rw[yS]at hx;cases hx
 |d::r,b,h,hs,hb,x,hx=>by
  rw[yS]at hx;rcases a2_.1 hx with hx|hx
  .have h0:∀q x,(d.body.ts b)[q]?=some x->ts[b+q]?=some x:=λq x a=>h q x (by rw[yS,ar_ (ae_.1 a).1];exact a);have hd:=hs d (by simp);have hf:∀f∈d.body.fs,xv f.ty=[]:=λf hf=>hb f (by unfold zk;rw[bm_];exact bu_ _ hf);cases e:d.body with
   |recd fs=>
    rw[e]at hx h0 hd hf;refine mH ts _ b h0 (dK _ (λt g=>?_)) (λt g=>?_) x hx
    .obtain⟨f,c,rfl⟩:=ay_.1 g;exact hd.1 f c
    .obtain⟨f,c,rfl⟩:=ay_.1 g;exact hf f c
   |enum l o=>rw[e]at hx;cases hx
   |bytes n=>rw[e]at hx;cases hx
  .exact Qx ts r (b+(d.body.ts b).length) (λq x a=>by
    rw[br_]
    refine h _ x ?_
    rw[yS,as_ M_,b8_]
    exact a) (λe he=>hs e (by simp[he])) (λf hf=>hb f (by unfold zk at hf⊢;rw[bm_];exact b1_ _ hf)) x hx
def Qy(hp:ze s=.ok (ds,t))(hu:xZ ds t=[])(he:ts=yS 0 ds++flat (yS 0 ds).length t)(k:Nat)(x:TR)(hx:ts[k]?=some x):GR ts x:=by
 obtain⟨c,d⟩:=vZ hp;unfold xZ at hu;rw[bw_,List.flatMap_eq_nil_iff]at hu;have hm:=aj_ hx;have b:x∈yS 0 ds\/x∈flat (yS 0 ds).length t:=by rw[he]at hm;exact a2_.1 hm
 rcases b with hm|hm
 .refine Qx ts ds 0 (λq x a=>?_) c hu.1 x hm;rw[he,bn_,ar_ (ae_.1 a).1];exact a
 .refine tN ts t _ (λq x a=>?_) d hu.2 x hm;rw[he,as_ M_,b8_];exact a
def YF(s:BA):∀(n i:Nat) (ds:List PD) (e:Nat),yb s n i=.ok (ds,e)->∀d∈ds,∃p,pB s p d.body:=by
 have cc1:=trivial
 exact cq11_
def ny(hp:ze s=.ok (ds,t))(hn:xY ds t=[]){c:Nat}{l:List (Nat×Nat)}{o:Option (Nat×Nat)}(e:zx ds c=some (.enum l o)):l≠[]/\∀x p,o=some (x,p)->x∈l.map Prod.fst:=by
 unfold xY at hn;rw[bw_]at hn;unfold zx at e;obtain⟨⟨pb,b⟩,hl,h⟩:=b4_.1 e;simp only at h;subst h;obtain⟨d,hd,hb⟩:=qH hl;have a:=pS _ ds [] hn.1 d hd;rw[hb]at a;unfold qu at a;rw[bw_]at a;refine⟨?_,λx p hx=>?_⟩
 .unfold ze at hp;split at hp
  .cases hp
  .rename_i ds' i j;split at hp
   .cases hp
   .split at hp
    .cases hp
    .simp only[ag_,ad_]at hp;obtain⟨rfl,_⟩:=hp;obtain⟨p,hB⟩:=YF s _ _ _ _ j d hd;rw[hb]at hB;obtain⟨_,_,_,rfl⟩:=ZY hB;simp
 .subst hx;by_cases hm:x∈l.map Prod.fst
  .exact hm
  .have g:(if x∈l.map Prod.fst then [] else [p])=[]:=a.2;rw[n_ hm]at g;cases g
def Fp{W:World}{P:Nat->Prop}{fs:List PF}{fv:Value}{xs:List Value}(h:W.ownsRow 0 113 10 fv fs.length xs)(hP:∀g,fv.ownBlock=some g->P g)(k:Vd s ts fs xs):∃l:List (Nat×Nat×Bool),KFs W P fv l/\l.length=fs.length/\∀(q:Nat) (f:PF) (x:Nat×Nat×Bool),fs[q]?=some f->l[q]?=some x->x.1=f.letter/\isT ts x.2.1 f.ty/\x.2.2=f.dflt.isSome:=by
 have hc:∀q,∃x:Nat×Nat×Bool,∀f,fs[q]?=some f->x.1=f.letter/\isT ts x.2.1 f.ty/\x.2.2=f.dflt.isSome/\xs[10*q+1]?=some (I_ x.2.1):=λq=>by
  cases c:fs[q]? with
  |none=>exact⟨(0,0,false),λf hf=>(by cases hf)⟩
  |some f=>
   obtain⟨⟨num,a,b⟩,_⟩:=k q f c;exact⟨(f.letter,num,f.dflt.isSome),λm hf=>by cases hf;exact⟨rfl,a,rfl,b⟩⟩
 obtain⟨x,hx⟩:=Classical.axiomOfChoice hc;have hl:((List.range fs.length).map x).length=fs.length:=by simp
 have j:∀(q:Nat) (y:Nat×Nat×Bool),((List.range fs.length).map x)[q]?=some y->q<fs.length/\y=x q:=λq y hy=>by
  have c:q<fs.length:=by have:=(ae_.1 hy).1;rw[hl]at this;exact this
  rw[aq_,b9_ c]at hy;cases hy;exact⟨c,rfl⟩
 refine⟨(List.range fs.length).map x,⟨xs,by rw[hl];exact h,hP,λq y hy=>?_⟩,hl,λq f y hf hy=>?_⟩
 .obtain⟨c,rfl⟩:=j q y hy;have hf:=af_ c;obtain⟨d,i,e,m⟩:=hx q _ hf;obtain⟨_,b0,b2,_⟩:=k q _ hf;exact⟨by rw[d];exact b0,m,by rw[e];exact b2⟩
 .obtain⟨c,rfl⟩:=j q y hy;obtain⟨d,i,e,_⟩:=hx q f hf;exact⟨d,i,e⟩
structure cQ(W:World)(P:Nat->Prop)(bz root:Nat)(ds:List PD)(t:PT)(ts:List TR)(kd:Nat->KD):Prop where
 Z:ZK W P bz ts kd
 B:ZB ts kd
 K:nG ts (zx ds) kd
 d:∀k t,isT ts k t->PW t
 rt:W.cell? ⟨bz,31,none⟩=some (I_ root)
 ty:isT ts root t
 lt:∀g,P g->g<W.heap.size
def KO{W:World}{lo:Nat}{K:Value}(h0:(zg s).1=0)(hp:ze s=.ok (ds,t))(h:eB W lo s K):∃bz root P ts kd,K=P_ bz/\cQ W P bz root ds t ts kd:=by
 obtain⟨bz,ds',t',ts,root,P1,P2,rfl,D,Z,N,hE,a0,hP,_,Y,B⟩:=h;rw[hp]at D;cases D;obtain⟨hs,hn,hu⟩:=tI h0 hp;have G:=Qy hp hu Y;have O:=xO hs hp;obtain⟨tv,zs,J,z2,z3,z4⟩:=Z.z;have I:∀c pb,zx ds c=some pb->plB pb:=λc pb e=>by
  unfold zx at e;obtain⟨⟨a1,b⟩,hl,rfl⟩:=b4_.1 e;obtain⟨d,hd,hb⟩:=qH hl;have:=O.1 d hd;rw[hb]at this;exact this
 have hc:∀c,∃d:KD,(∀x∈d.fs,x.2.1<ts.length/\x.1<256)/\d.fs.length<=300/\∀k,k<6->c=65+k->
  (∃so fv sv ov nv,(∀p,p<5->zs[5*k+p]?=[so,fv,sv,ov,nv][p]?)/\KDv W (λg=>P1 g\/P2 g) d so fv sv ov nv)/\
  (∀fs,zx ds c=some (.recd fs)->d.so=114/\d.fs.length=fs.length/\∀(q:Nat) (f:PF) (x:Nat×Nat×Bool),fs[q]?=some f->d.fs[q]?=some x->x.1=f.letter/\isT ts x.2.1 f.ty/\x.2.2=f.dflt.isSome)/\
  (∀l u,zx ds c=some (.enum l u)->d.so=101/\d.sb=l.map Prod.fst/\(d.o<0↔u=none))/\
  (∀n,zx ds c=some (.bytes n)->d.so=102/\d.n=(n:Int)):=λc=>by
  by_cases hk:∃k,k<6/\c=65+k
  .obtain⟨k,S,rfl⟩:=hk;obtain⟨so,fv,sb,o,n,xs,c1,c2,c3,c4,c5⟩:=z4 k S;obtain⟨l,l1,l2,v⟩:=Fp (P:=λg=>P1 g\/P2 g) c2 (λg e=>.inr (c3 g e)) c4;have R:(yM (zx ds) k).length<=300/\∀f∈yM (zx ds) k,f.letter<256:=by
    unfold yM;split
    .rename_i fs e;have:=I _ _ e;refine⟨this.1,λf hf=>?_⟩;have:=this.2.1 f hf;simp only[zh,ax_,decide_eq_true_eq]at this;omega
    .exact⟨al_ _,λf hf=>(by cases hf)⟩
   refine⟨⟨so,n,o,sb.data.toList.map UInt8.toNat,l⟩,λx hx=>?_,by show l.length<=300;omega,λk' A e=>?_⟩
   .obtain⟨q,X⟩:=a5_ hx;have E:l[q]?=some x:=X;have C:q<(yM (zx ds) k).length:=by rw[<- l2];exact(ae_.1 E).1
    obtain⟨a,b,_⟩:=v q _ x (af_ C) E;exact⟨qp b,by rw[a];exact R.2 _ (a0_ C)⟩
   .obtain rfl:k=k':=M_;refine⟨⟨_,fv,_,_,_,c1,rfl,l1,⟨sb,rfl,rfl,λi=>?_⟩,rfl,rfl⟩,λfs e=>?_,λm u e=>?_,λm e=>?_⟩
    .cases he:zx ds (65+k) with
     |none=>
      rw[he]at c5;have c5:so=0:=c5;have i:so=101:=i;omega
     |some pb=>
      rw[he]at c5;have U:=I _ _ he;cases pb with
      |recd fs=>have c5:so=114:=c5;have i:so=101:=i;omega
      |bytes m=>have c5:so=102:=c5.1;have i:so=101:=i;omega
      |enum m u=>
       have:=congrArg List.length c5.2.1;simp only[bo_]at this;have hm:=U.1;show sb.data.size<=300;rw[<- Array.length_toList];omega
    .rw[e]at c5;have hf:yM (zx ds) k=fs:=by unfold yM;rw[e]
     rw[hf]at l2 v;exact⟨c5,l2,v⟩
    .rw[e]at c5;refine⟨c5.1,c5.2.1,?_⟩;show o<0↔u=none;rw[c5.2.2];cases u with
     |none=>simp
     |some y=>
      obtain⟨y,p⟩:=y;have hm:=(ny hp hn e).2 y p rfl;rw[<- c5.2.1]at hm;constructor
      .intro T;exact absurd hm (dM.1 T)
      .intro h;cases h
    .rw[e]at c5;exact c5
  .exact⟨KD0,λx hx=>(by cases hx),al_ _,λk A e=>absurd ⟨k,A,e⟩ hk⟩
 obtain⟨kd,j⟩:=Classical.axiomOfChoice hc;have nm:∀c,zp c=true->∃k,k<6/\c=65+k:=λc h=>by
  simp only[zp,ax_,decide_eq_true_eq]at h;exact⟨c-65,M_,M_⟩
 refine⟨bz,root,λg=>P1 g\/P2 g,ts,kd,rfl,⟨.inl Z.zP,tv,zs,J,z3.mono (λg hg=>.inl hg),λk hk=>((j (65+k)).2.2 k hk rfl).1⟩,⟨B,λk x hx=>(G k x hx).sub,λk x hx=>(G k x hx).one,λk x hx=>(G k x hx).kind,λk x hx=>ak_ (G k x hx).few B,λc=>(j c).1,λc=>(j c).2.1⟩,
  ⟨λc fs h e=>?_,λc l u h e=>?_,λc n h e=>?_⟩,λk t F=>?_,?_,N,hP⟩
 .obtain⟨k,hk,rfl⟩:=nm c h;exact((j _).2.2 k hk rfl).2.1 fs e
 .obtain⟨k,hk,rfl⟩:=nm c h;obtain⟨a,b,L⟩:=((j _).2.2 k hk rfl).2.2.1 l u e;exact⟨a,b,L,(ny hp hn e).2⟩
 .obtain⟨k,hk,rfl⟩:=nm c h;exact((j _).2.2 k hk rfl).2.2.2 n e
 .intro p l e;subst e;unfold isT at F;obtain⟨H,h1,M⟩:=F;have:=(G k _ h1).dis rfl;rw[show TR.subs ⟨40,H⟩=H from rfl,(gQ M).1]at this;exact this
 .rw[J.cell 31];exact z2
def Wu{W:World}{P Q:Nat->Prop}{ba bb:Nat}{s':BA}{ds':List PD}{t':PT}{ta tb:List TR}{ka kb:Nat->KD}(h0:(zg s).1=0)(hp:ze s=.ok (ds,t))(k:(zg s').1=0)(m:ze s'=.ok (ds',t'))(A:cQ W P ba ra ds t ta ka)(B:cQ W Q bb rb ds' t' tb kb):Calls prog 7 #[P_ ba,P_ bb] W (nU W (zx ds) (zx ds') t t'):=by
 obtain⟨_,a,b,g,h⟩:=VR h0 hp;obtain⟨_,_,_,i,j⟩:=VR k m;obtain⟨_,hn,_⟩:=tI h0 hp;exact iG A.Z B.Z ⟨A.B,B.B⟩ A.lt B.lt A.rt B.rt ⟨A.K,B.K,h,j,a,B.d⟩ (λc l o e=>(ny hp hn e).1) A.ty B.ty g b i
end Go.Proofs.YtjkiencmjggakaaGreatDoor
