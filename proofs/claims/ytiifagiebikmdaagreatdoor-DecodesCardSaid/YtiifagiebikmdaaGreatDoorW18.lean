import Derived.Test.YtiifagiebikmdaaGreatDoorW17
import Derived.Test.YtiifagiebikmdaaGreatDoorW11
import Derived.Test.YtiifagiebikmdaaGreatDoorW01
import Derived.Test.YtiifagiebikmdaaGreatDoorW15
import Derived.Test.YtiifagiebikmdaaGreatDoorW14
import Derived.Test.YtiifagiebikmdaaGreatDoorA00
set_option maxHeartbeats 16000000
set_option maxRecDepth 100000
set_option linter.unusedSimpArgs false
open Go.Proofs.Tryz
namespace Go.Proofs.YtiifagiebikmdaaGreatDoor
open Go.RowKit
variable {s tx0:BA}{vk vs:Value}{n0:Int}{i n f bd p u:Nat}{r:Except Nat (DT×Nat×Nat)}
def BRes (lo bd:Nat) (s:BA) (bz:Nat) (r:Except Nat (DT×Nat×Nat)) (v:List Value) (w':World):Prop:=match r with
 | .error e0=>e0≠0/\∃ j m,j<=s.size/\m<=301/\DAt w' bd s bz j (e0:Int) m
 | .ok (d,j,m)=>j<=s.size/\m<=300/\DAt w' bd s bz j 0 m/\DVal w' (λ g=>lo<=g) d v
theorem BRes.at {lo:Nat}{bz:Nat}{v:List Value}{w':World}(h:BRes lo bd s bz r v w'):∃ j er m,j<=s.size/\DAt w' bd s bz j er m:=by
 cases r with
 | error e0=>obtain⟨_,j,m,a,_,b⟩:=h;exact⟨j,_,m,a,b⟩
 | ok q=>obtain⟨d,j,m⟩:=q;obtain⟨a,_,b,_⟩:=h;exact⟨j,_,m,a,b⟩
theorem zmq {w h z B:World}{P:Nat->Prop}{bz:Nat}{er:Int}{ts:List TR}{env:Nat->Option PB}{o:Nat}{v:Int}{y:BA}(A:XBM w P bd s bz i n er ts env h) (hs:w.heap.size<h.heap.size) (D:Fr h z (· = bd)) (h1:∃ a m c,vk=.slice a m c) (E:∃ a m c,vs=.slice a m c)
 (C:BRes h.heap.size bd s bz r (zb_ o v y vk vs) z) (l:Fr z B (λ g=>g=w.heap.size)) :
 jd_ w bd s bz r (.returned (.agg (zb_ o v y vk vs).toArray)) B:=by
 have hl:=A.lt;refine⟨o,v,y,vk,vs,rfl,h1,E,(A.fr.trans D u_).trans l (λ x F e=>by omega),?_⟩
 cases r with
 | error e0=>
  obtain⟨h0,j,m,a,b,c⟩:=C;exact⟨h0,j,m,a,b,l.blk c (by omega)⟩
 | ok q=>
  obtain⟨d,j,m⟩:=q;obtain⟨a,b,c,e⟩:=C;exact⟨a,b,l.blk c (by omega),(e.fr l (λ g hg e=>by omega)).mono (λ g _ hg=>by omega)⟩
theorem jd_.any {w w':World}{bz:Nat}{e:Ending}(h:jd_ w bd s bz r e w'):∃ (c:Nat) (d:Int) (g:BA) (a:Option Addr) (j c1:Nat) (b:Option Addr) (l c2:Nat),e=.returned (.agg #[.int .u8 (c:Int),.int .i64 d,.string g,.slice a j c1,.slice b l c2])/\Fr w w' (· = bd)/\
 BRes w.heap.size bd s bz r (zb_ c d g (.slice a j c1) (.slice b l c2)) w':=by
 obtain⟨c,d,g,vk,vs,rfl,⟨a,j,c1,rfl⟩,⟨b,l,c2,rfl⟩,m,o⟩:=h;exact⟨c,d,g,a,j,c1,b,l,c2,rfl,m,by cases r<;>exact o⟩
theorem XBM.datum {w W:World}{P:Nat->Prop}{bz j nn:Nat}{er:Int}{ts:List TR}{env:Nat->Option PB}{k:Nat}{t:PT}(Q:XBM w P bd s bz j nn er ts env W) (hn:nn<=301) (y:er=0->nn<=300) (hk:isT ts k t) (hB:er=0->BdOK s env ts f t j nn) :
 Calls prog 26 #[.pointer (some ⟨bd,0,none⟩),.int .i64 (k:Int)] W λ e W'=>∃ (k:Nat) (m:Int) (tx:BA) (b:Option Addr) (l c1:Nat) (c:Option Addr) (o c2:Nat) (j' a:Nat) (z:Int),e=.returned (.agg #[.int .u8 (k:Int),.int .i64 m,.string tx,.slice b l c1,.slice c o c2])/\XBM w P bd s bz j' a z ts env W'/\Fr W W' (· = bd)/\a<=301/\
  H_ ((er=0/\∃ d,rdB s env f t j nn=.ok (d,j',a)/\a<=300/\z=0/\DVal W' (λ g=>W.heap.size<=g) d (zb_ k m tx (.slice b l c1) (.slice c o c2)))\/(er=0/\∃ x:Nat,rdB s env f t j nn=.error x/\z=(x:Int)/\x≠0)\/(er≠0/\z=er)):=by
 by_cases he:er=0
 ·subst he;refine(hB rfl W P bd bz k Q.here (y rfl) hk).mono ?_;rintro e W' ⟨B,m,tx,F,G,rfl,⟨b,l,c1,rfl⟩,⟨c,o,c2,rfl⟩,h,A⟩
  cases D:rdB s env f t j nn with
  | error x=>
   rw[D] at A;obtain⟨h0,j',a,h1,C,y⟩:=A;exact⟨B,m,tx,b,l,c1,c,o,c2,j',a,x,rfl,Q.call y h h1,h,C,q_ (.inr (.inl ⟨rfl,x,rfl,rfl,h0⟩))⟩
  | ok q=>
   obtain⟨d,j',a⟩:=q;rw[D] at A;obtain⟨h1,C,y,E⟩:=A;exact⟨B,m,tx,b,l,c1,c,o,c2,j',a,0,rfl,Q.call y h h1,h,by omega,q_ (.inl ⟨rfl,d,rfl,C,rfl,E⟩)⟩
 ·refine(zk2 Q.here he hk).mono ?_;rintro e W' ⟨B,v,tx,b,l,c1,c,o,c2,rfl,h,h1⟩;exact⟨B,v,tx,b,l,c1,c,o,c2,j,nn,er,rfl,Q.call h1 h Q.jl,h,hn,q_ (.inr (.inr ⟨he,rfl⟩))⟩
theorem zss {env:Nat->Option PB}{ts:List TR}{t:PT}(hn:n<300) (F:∀ j nn,n+1<=nn->nn<=300->j<=s.size->BdOK s env ts f t j nn):BdOK s env ts (f+1) (.wrap 91 p t) i n:=by
 intro w P bd bz k M a8 hk;simp only[isT] at hk;obtain⟨kj,hk,G⟩:=hk;obtain⟨g,m,a1,sv,z0,a3,I,z2,ho,C⟩:=M.Z.type hk;simp only[af_] at I;refine hq_ λ a0 R=>?_;have B:=M.lt;have a5:=zk_ z0;have a6:=zk_ I;have c2:=M.L.c2;have c3:=M.L.c3;have c4:=M.L.c4;have a2:=M.jl;have a9:=M.sl;obtain⟨b,sn,d,rfl⟩:=zn_ ho;have S:=λ X Y Z=>zl_ c2 X Y Z;have d4:=λ X Y Z=>zl_ c4 X Y Z;have d5:=λ X Y Z=>zgm M.L 4 X Y Z
 have a4:(k:Int)<(m:Int):=by omega
 have a7:¬ (n:Int)+1 > 300:=by omega
 have Q:=q_ (zc3 M 91 (.slice b sn d));have N:=q_ (zgv (n:=n) B 91 (.slice b sn d));have J:=q_ (zdu (n:=n) B 91 (.slice b sn d));have B2:=q_ (zgu (n:=n) B 91 (.slice b sn d));have U:=q_ (show rdB s env (f+1) (.wrap 91 p t) i n=zce (rdB s env f t) s 91 i (n+1) by rw[rdB,if_neg (by omega)]);have V:=q_ (show w.heap.size<(dwn w bd n 91 (.slice b sn d)).heap.size by have:=(zdu (n:=n) B 91 (.slice b sn d)).lt;omega);have A:=zrn (c:=91) (zc3 M 91 (.slice b sn d)).here (by omega) (by decide) G (za_ ho (zc3 M 91 (.slice b sn d)).fr (λ g hg e=>M.nP (e▸C g hg))) C F;simp only[af_] at A;replace A:=q_ A;replace ho:=q_ ho;replace C:=q_ C;replace M:=q_ M;replace G:=q_ G;replace F:=q_ F
 go_in
 go_upto_if 39 with fail
 change Code.wp _ _ _ _ (dwn w bd n 91 (.slice b sn d));generalize dwn w bd n 91 (.slice b sn d)=W0 at *;have u0:=J.o.cell 0;have u1:=J.o.cell 1;simp only[aa_,ab_,af_] at u0 u1;clear c2 c3 c4 S d4 d5 z0 I z2
 go_wp2_with (go_at_call 48;refine A.o.mono ?_;intro e K hP;obtain⟨x,y,z,l,D,c1,q,E,c2,rfl,h,H⟩:=hP.any;clear hP;have a:=h.blk N.o (by omega);have r0:=a.cell 0;have g0:=a.thaw 0;have r1:=a.cell 1;have g1:=a.thaw 1;have r2:=a.cell 2;have g2:=a.thaw 2;have r3:=a.cell 3;have g3:=a.thaw 3;have r4:=a.cell 4;have g4:=a.thaw 4;simp only[zg_,zb_,aa_,ab_,af_] at r0 r1 r2 r3 r4;replace H:=q_ H;replace h:=q_ h;replace a:=q_ a)
 have O:=Blk.five a.o (.int .u8 (x:Int)) (.int .i64 y) (.string z) (.slice l D c1) (.slice q E c2);obtain⟨W,q1,q2,q3,q4⟩:=O.d5;have T:=Fr.five K (w.heap.size) (.int .u8 (x:Int)) (.int .i64 y) (.string z) (.slice l D c1) (.slice q E c2);generalize (World.setCell (World.setCell (World.setCell (World.setCell (World.setCell K ⟨w.heap.size,0,none⟩ (.int .u8 (x:Int))) ⟨w.heap.size,1,none⟩ (.int .i64 y)) ⟨w.heap.size,2,none⟩ (.string z)) ⟨w.heap.size,3,none⟩ (.slice l D c1)) ⟨w.heap.size,4,none⟩ (.slice q E c2))=W5 at *;refine bodyPost_ret (v:=.agg (zb_ x y z (.slice l D c1) (.slice q E c2)).toArray) (by simp[results,results26,go_sem,W,q1,q2,q3,q4,zb_]) rfl ?_;rw[R.o];rw[U.o];exact zmq Q.o V.o h.o ⟨_,_,_,rfl⟩ ⟨_,_,_,rfl⟩ H.o T
theorem zps {env:Nat->Option PB}{ts:List TR}{t:PT}(hn:n<300) (F:∀ j nn,n+1<=nn->nn<=300->j<=s.size->BdOK s env ts f t j nn):BdOK s env ts (f+1) (.wrap 123 p t) i n:=by
 intro w P bd bz k M a8 hk;simp only[isT] at hk;obtain⟨kj,hk,G⟩:=hk;obtain⟨g,m,a1,sv,z0,a3,I,z2,ho,C⟩:=M.Z.type hk;simp only[af_] at I;refine hq_ λ a0 R=>?_;have B:=M.lt;have a5:=zk_ z0;have a6:=zk_ I;have c2:=M.L.c2;have c3:=M.L.c3;have c4:=M.L.c4;have a2:=M.jl;have a9:=M.sl;obtain⟨b,sn,d,rfl⟩:=zn_ ho;have S:=λ X Y Z=>zl_ c2 X Y Z;have d4:=λ X Y Z=>zl_ c4 X Y Z;have d5:=λ X Y Z=>zgm M.L 4 X Y Z
 have a4:(k:Int)<(m:Int):=by omega
 have a7:¬ (n:Int)+1 > 300:=by omega
 have Q:=q_ (zc3 M 123 (.slice b sn d));have N:=q_ (zgv (n:=n) B 123 (.slice b sn d));have J:=q_ (zdu (n:=n) B 123 (.slice b sn d));have B2:=q_ (zgu (n:=n) B 123 (.slice b sn d));have U:=q_ (show rdB s env (f+1) (.wrap 123 p t) i n=zce (rdB s env f t) s 123 i (n+1) by rw[rdB,if_neg (by omega)]);have V:=q_ (show w.heap.size<(dwn w bd n 123 (.slice b sn d)).heap.size by have:=(zdu (n:=n) B 123 (.slice b sn d)).lt;omega);have A:=zrn (c:=123) (zc3 M 123 (.slice b sn d)).here (by omega) (by decide) G (za_ ho (zc3 M 123 (.slice b sn d)).fr (λ g hg e=>M.nP (e▸C g hg))) C F;simp only[af_] at A;replace A:=q_ A;replace ho:=q_ ho;replace C:=q_ C;replace M:=q_ M;replace G:=q_ G;replace F:=q_ F
 go_in
 go_upto_if 39 with fail
 change Code.wp _ _ _ _ (dwn w bd n 123 (.slice b sn d));generalize dwn w bd n 123 (.slice b sn d)=W0 at *;have u0:=J.o.cell 0;have u1:=J.o.cell 1;simp only[aa_,ab_,af_] at u0 u1;clear c2 c3 c4 S d4 d5 z0 I z2
 go_wp2_with (go_at_call 48;refine A.o.mono ?_;intro e K hP;obtain⟨x,y,z,l,D,c1,q,E,c2,rfl,h,H⟩:=hP.any;clear hP;have a:=h.blk N.o (by omega);have r0:=a.cell 0;have g0:=a.thaw 0;have r1:=a.cell 1;have g1:=a.thaw 1;have r2:=a.cell 2;have g2:=a.thaw 2;have r3:=a.cell 3;have g3:=a.thaw 3;have r4:=a.cell 4;have g4:=a.thaw 4;simp only[zg_,zb_,aa_,ab_,af_] at r0 r1 r2 r3 r4;replace H:=q_ H;replace h:=q_ h;replace a:=q_ a)
 have O:=Blk.five a.o (.int .u8 (x:Int)) (.int .i64 y) (.string z) (.slice l D c1) (.slice q E c2);obtain⟨W,q1,q2,q3,q4⟩:=O.d5;have T:=Fr.five K (w.heap.size) (.int .u8 (x:Int)) (.int .i64 y) (.string z) (.slice l D c1) (.slice q E c2);generalize (World.setCell (World.setCell (World.setCell (World.setCell (World.setCell K ⟨w.heap.size,0,none⟩ (.int .u8 (x:Int))) ⟨w.heap.size,1,none⟩ (.int .i64 y)) ⟨w.heap.size,2,none⟩ (.string z)) ⟨w.heap.size,3,none⟩ (.slice l D c1)) ⟨w.heap.size,4,none⟩ (.slice q E c2))=W5 at *;refine bodyPost_ret (v:=.agg (zb_ x y z (.slice l D c1) (.slice q E c2)).toArray) (by simp[results,results26,go_sem,W,q1,q2,q3,q4,zb_]) rfl ?_;rw[R.o];rw[U.o];exact zmq Q.o V.o h.o ⟨_,_,_,rfl⟩ ⟨_,_,_,rfl⟩ H.o T
theorem zxn {env:Nat->Option PB}{ts:List TR}{c:Nat}{pb:PB}(hn:n<300) (hc:z5_ c=true) (V:env c=some pb) (a0:NbOK s env ts f pb i (n+1)):BdOK s env ts (f+1) (.leaf c p) i n:=by
 intro w P bd bz k M d9 hk;simp only[isT] at hk
 have b8:65<=c/\c<=70:=by simpa[z5_] using hc
 obtain⟨q,hq⟩:∃ q,c=65+q:=⟨c-65,by omega⟩
 have a5:q<6:=by omega
 obtain⟨g,m,b6,sv,z0,d0,z1,z2,ho,a4⟩:=M.Z.type hk;simp only at z1;refine hq_ λ b5 Q_=>?_;have U:=M.lt;have d6:=zk_ z0;have d7:=zk_ z1;have c2:=M.L.c2;have c3:=M.L.c3;have c4:=M.L.c4;have b9:=M.jl;have e1:=M.sl;obtain⟨E,sn,F,rfl⟩:=zn_ ho;have d2:=λ X Y Z=>zl_ c2 X Y Z;have d4:=λ X Y Z=>zl_ c4 X Y Z;have d5:=λ X Y Z=>zgm M.L 4 X Y Z
 have d1:(k:Int)<(m:Int):=by omega
 have d8:¬ (n:Int)+1 > 300:=by omega
 have M0:=q_ (zc3 M c (.slice E sn F));have B0:=q_ (zgv (n:=n) U c (.slice E sn F));have B1:=q_ (zdu (n:=n) U c (.slice E sn F));have B2:=q_ (zgu (n:=n) U c (.slice E sn F));replace M:=q_ M;replace ho:=q_ ho;replace a4:=q_ a4;have hr:=q_ (show rdB s env (f+1) (.leaf c p) i n=xa_ (rdB s env f) s pb i (n+1) by rw[rdB,if_neg (by omega)];show j6_ _ s env c i (n+1)=_;unfold j6_;rw[if_neg (by omega),if_neg (by omega),if_neg (by omega),if_neg (by omega),if_neg (by omega),V]);have a6:=q_ (show w.heap.size<(dwn w bd n c (.slice E sn F)).heap.size by have:=(zdu (n:=n) U c (.slice E sn F)).lt;omega)
 have n1:((c:Int)==110)=false:=by simp;omega
 have n2:((c:Int)==116)=false:=by simp;omega
 have n3:((c:Int)==105)=false:=by simp;omega
 have n4:((c:Int)==108)=false:=by simp;omega
 have n5:((c:Int)==115)=false:=by simp;omega
 have n6:((c:Int)==91)=false:=by simp;omega
 have n7:((c:Int)==123)=false:=by simp;omega
 have n8:((c:Int)==40)=false:=by simp;omega
 replace hk:=q_ hk;replace a0:=q_ a0;replace V:=q_ V;replace hq:=q_ hq;clear hc
 go_in
 go_upto_if 39 with fail
 change Code.wp _ _ _ _ (dwn w bd n c (.slice E sn F));generalize dwn w bd n c (.slice E sn F)=W0 at *;have b4:=B1.o.c0;clear c2 c3 c4 d2 d4 d5 z0 z1 z2
 go_wp2_with fail
 have D:=M0.o.still (zd_.drew W0);obtain⟨so,fv,sb,o,z,T,y0,y1,y2,y3,y4⟩:=D.Z.named a5 (by rw[<- hq.o];exact V.o);obtain⟨fa,fn,fc,rfl⟩:=T.1;have u3:=D.L.c3;have u0:=B1.o.c0;have d:=za4 q c hq.o a5
 have e0:(q:Int)<6:=by omega
 have hC:=q_ (a0.o _ P bd bz so (.slice fa fn fc) sb o z D.here (by omega) T);replace T:=q_ T;refine zx_ 14 (λ W=>(W.cell? ⟨bd,3,none⟩=some (.pointer (some ⟨bz,0,none⟩))/\W.cell? ⟨w.heap.size+1,0,none⟩=some (.int .u8 (c:Int))/\W.cell? ⟨bz,1+q*5,none⟩=some (.int .u8 so)/\W.cell? ⟨bz,1+q*5+1,none⟩=some (.slice fa fn fc)/\W.cell? ⟨bz,1+q*5+2,none⟩=some (.string sb)/\W.cell? ⟨bz,1+q*5+3,none⟩=some (.int .i64 o)/\W.cell? ⟨bz,1+q*5+4,none⟩=some (.int .i64 z))) (by kernel_rfl) ?_;refine tb_ 0 rfl (by kernel_rfl) (λ _ _ _ h=>h) (by rfl) (by rintro W ⟨h1,j,l,x,y,A,B⟩;go_simp<;>first|rfl|exact d) ?_;refine tb_ 1 rfl (by kernel_rfl) (λ _ _ _ h=>h) (by rfl) (by rintro W ⟨h1,j,l,x,y,A,B⟩;go_simp<;>first|rfl|exact d) ?_;refine tb_ 2 rfl (by kernel_rfl) (λ _ _ _ h=>h) (by rfl) (by rintro W ⟨h1,j,l,x,y,A,B⟩;go_simp<;>first|rfl|exact d) ?_;refine tb_ 3 rfl (by kernel_rfl) (λ _ _ _ h=>h) (by rfl) (by rintro W ⟨h1,j,l,x,y,A,B⟩;go_simp<;>first|rfl|exact d) ?_;refine tb_ 4 rfl (by kernel_rfl) (λ _ _ _ h=>h) (by rfl) (by rintro W ⟨h1,j,l,x,y,A,B⟩;go_simp<;>first|rfl|exact d) ?_;refine tb_ 5 rfl (by kernel_rfl) (λ _ _ _ h=>h) (by rfl) (by rintro W ⟨h1,j,l,x,y,A,B⟩;go_simp<;>first|rfl|exact d) ?_;refine tb_ 6 rfl (by kernel_rfl) (λ _ _ _ h=>h) (by rfl) (by rintro W ⟨h1,j,l,x,y,A,B⟩;go_simp<;>first|rfl|exact d) ?_;refine tb_ 7 rfl (by kernel_rfl) (λ _ _ _ h=>h) (by rfl) (by rintro W ⟨h1,j,l,x,y,A,B⟩;go_simp<;>first|rfl|exact d) ?_;refine zai 8 (.int .i64 (q:Int)) rfl (by kernel_rfl) (λ _ _ _ h=>h) (by rfl) ?y8 ?_
 case y8=>(rintro W ⟨h1,j,l,x,y,A,B⟩;go_simp<;>first|rfl|exact d)
 refine tb_ 9 rfl (by kernel_rfl) (λ _ _ _ h=>h) (by rfl) (by rintro W ⟨h1,j,l,x,y,A,B⟩;go_simp<;>first|rfl|exact d) ?_;refine tb_ 10 rfl (by kernel_rfl) (λ _ _ _ h=>h) (by rfl) (by rintro W ⟨h1,j,l,x,y,A,B⟩;go_simp<;>first|rfl|exact d) ?_;refine tb_ 11 rfl (by kernel_rfl) (λ _ _ _ h=>h) (by rfl) (by rintro W ⟨h1,j,l,x,y,A,B⟩;go_simp<;>first|rfl|exact d) ?_;refine tb_ 12 rfl (by kernel_rfl) (λ _ _ _ h=>h) (by rfl) (by rintro W ⟨h1,j,l,x,y,A,B⟩;go_simp<;>first|rfl|exact d) ?_;refine ze_ 13 rfl (by kernel_rfl) (λ _=>⟨u3,u0,y0,y1,y2,y3,y4⟩) (λ K J=>?_);go_simp;refine hC.o.mono ?_;intro e C hP;obtain⟨Q,R,S,N,m1,c1,O,m2,c2,rfl,G,H⟩:=hP.any;refine J _ _ ?_;clear J K hP;have b:=G.blk (((Fr.refl W0 (λ _=>False)).still (zd_.drew W0)).blk B0.o id) (by omega);have r0:=b.cell 0;have g0:=b.thaw 0;have r1:=b.cell 1;have g1:=b.thaw 1;have r2:=b.cell 2;have g2:=b.thaw 2;have r3:=b.cell 3;have g3:=b.thaw 3;have r4:=b.cell 4;have g4:=b.thaw 4;simp only[zg_,zb_,aa_,ab_,af_] at r0 r1 r2 r3 r4;replace H:=q_ H;replace G:=q_ G;replace b:=q_ b;obtain⟨j2,b7,e2,a9,a2⟩:=H.o.at;have M2:=D.call a2 G.o a9;have G1:=G.o.blk (((Fr.refl W0 (λ _=>False)).still (zd_.drew W0)).blk B1.o id) (by omega)
 have a7:bz<W0.heap.size:=by have:=a6.o;omega
 have a8:bz≠bd:=λ e=>D.nP (e▸D.Z.zP);have I:∀ o',C.cell? ⟨bz,o',none⟩=W0.cell? ⟨bz,o',none⟩:=λ o'=>World.cell?_of_block (a:=⟨bz,o',none⟩) (G.o.block bz a7 a8);have a1:=G1.cell 0;simp only[aa_] at a1;have a3:(C.cell? ⟨bd,3,none⟩=some (.pointer (some ⟨bz,0,none⟩))/\C.cell? ⟨w.heap.size+1,0,none⟩=some (.int .u8 (c:Int))/\C.cell? ⟨bz,1+q*5,none⟩=some (.int .u8 so)/\C.cell? ⟨bz,1+q*5+1,none⟩=some (.slice fa fn fc)/\C.cell? ⟨bz,1+q*5+2,none⟩=some (.string sb)/\C.cell? ⟨bz,1+q*5+3,none⟩=some (.int .i64 o)/\C.cell? ⟨bz,1+q*5+4,none⟩=some (.int .i64 z)):=⟨M2.L.c3,a1,(I _).trans y0,(I _).trans y1,(I _).trans y2,(I _).trans y3,(I _).trans y4⟩;refine ze_ 14 rfl (by kernel_rfl) (λ _=>a3) (λ K J=>?_);go_simp;refine J _ _ ?_;clear J K;refine zq_ (by kernel_rfl) (λ H=>absurd H (by decide)) ?_ _;replace D:=q_ D;clear M2 G1 a2 I a3 a1 b4 y0 y1 y2 y3 y4 u3 u0
 go_wp2_with fail
 have L5:=Blk.five b.o (.int .u8 (Q:Int)) (.int .i64 R) (.string S) (.slice N m1 c1) (.slice O m2 c2);obtain⟨q0,q1,q2,q3,q4⟩:=L5.d5;have hF:=Fr.five C (w.heap.size) (.int .u8 (Q:Int)) (.int .i64 R) (.string S) (.slice N m1 c1) (.slice O m2 c2);generalize (World.setCell (World.setCell (World.setCell (World.setCell (World.setCell C ⟨w.heap.size,0,none⟩ (.int .u8 (Q:Int))) ⟨w.heap.size,1,none⟩ (.int .i64 R)) ⟨w.heap.size,2,none⟩ (.string S)) ⟨w.heap.size,3,none⟩ (.slice N m1 c1)) ⟨w.heap.size,4,none⟩ (.slice O m2 c2))=W5 at *;refine bodyPost_ret (v:=.agg (zb_ Q R S (.slice N m1 c1) (.slice O m2 c2)).toArray) (by simp[results,results26,go_sem,q0,q1,q2,q3,q4,zb_]) rfl ?_;rw[Q_.o];rw[hr.o];exact zmq D.o a6.o G.o ⟨_,_,_,rfl⟩ ⟨_,_,_,rfl⟩ H.o hF
open Go.RowKit
def oneX (v:Int):Except Nat (DT×Nat×Nat)->Except Nat (DT×Nat×Nat)
 | .error e=>.error e
 | .ok (d,j,m)=>.ok (.mk 40 v noB [] [d],j,m)
theorem zxo {env:Nat->Option PB}{ts:List TR}{l:List PT}(hn:n<300) (hl:l≠[]) (g8:l.length<=300) (hR:∀ t∈l,∀ j nn,n+1<=nn->nn<=300->j<=s.size->BdOK s env ts f t j nn):BdOK s env ts (f+1) (.alts p l) i n:=by
 intro w P bd bz k M a9 hk;simp only[isT] at hk;obtain⟨js,hk,d0⟩:=hk;have a5:=q_ (zib d0);have a2:=q_ (zic d0);obtain⟨g,m,f6,sv,z0,f9,z1,z2,ho,a8⟩:=M.Z.type hk;simp only[af_] at z1;refine hq_ λ f5 Q_=>?_;have b5:=M.lt;have g6:=zk_ z0;have g7:=zk_ z1;have c2:=M.L.c2;have c3:=M.L.c3;have c4:=M.L.c4;have e3:=M.jl;have f0:=M.sl;have e4:0<l.length:=List.length_pos_iff.2 hl;obtain⟨sg,sc,e9⟩:=zh_ ho (by have:=a5.o;simp only;omega);subst e9;obtain⟨sa,a7⟩:∃ a:Option Addr,a=some ⟨sg,0,none⟩:=⟨_,rfl⟩;obtain⟨sn,a0⟩:∃ n,n=js.length:=⟨_,rfl⟩;simp only at ho a8 z2;rw[<- a7,<- a0] at ho a8 z2;replace a7:=q_ a7;replace a0:=q_ a0;have d2:=λ X Y Z=>zl_ c2 X Y Z;have d4:=λ X Y Z=>zl_ c4 X Y Z;have d5:=λ X Y Z=>zgm M.L 4 X Y Z
 have g5:(k:Int)<(m:Int):=by omega
 have g9:¬ (n:Int)+1 > 300:=by omega
 have M0:=q_ (zc3 M 40 (.slice sa sn sc));have B0:=q_ (zgv (n:=n) b5 40 (.slice sa sn sc));have B1:=q_ (zdu (n:=n) b5 40 (.slice sa sn sc));have B2:=q_ (zgu (n:=n) b5 40 (.slice sa sn sc));replace M:=q_ M;replace ho:=q_ ho;replace a8:=q_ a8;have d6:=q_ (λ (W:World) (j n:Nat) (er:Int) (h:DAt W bd s bz j er n)=>x7_ (e0:=6) h)
 go_in
 go_upto_if 39 with fail
 change Code.wp _ _ _ _ (dwn w bd n 40 (.slice sa sn sc));generalize dwn w bd n 40 (.slice sa sn sc)=W0 at *;have u0:=B1.o.cell 0;have u1:=B1.o.cell 1;simp only[aa_,ab_,af_] at u0 u1;clear c2 c3 c4 d2 d4 d5 z0 z1 z2;have a7:=a7.o;have a0:=a0.o;have a5:=a5.o;have a2:=a2.o;subst a7
 have b8:sn=l.length:=by omega
 have hz:∀ (W:World) (j nn:Nat) (er:Int),XBM w P bd s bz j nn er ts env W->∀ (q num:Nat),js[q]?=some num->W.cell? ⟨sg,q,none⟩=some (.int .i64 (num:Int)):=λ W j nn er b9 q num e=>zp_ (za_ ho.o b9.fr (λ g e h=>b9.nP (h▸a8.o g e))) (by rw[a0]) (by rw[bk_,e];rfl)
 have a6:rdB s env (f+1) (.alts p l) i n=v5_ (rdB s env f) s l i (n+1):=by rw[rdB,if_neg (by omega)]
 have U:=jp_ M0.o.L f0 e3
 have b7:(sn:Int)=(l.length:Int):=by omega
 replace hz:=q_ hz;replace a0:=q_ a0
 cases hb:bL s i with
 | none=>
  rw[hb] at U;have hr:=q_ (show rdB s env (f+1) (.alts p l) i n=.error 6 by rw[a6];unfold v5_ bNum;rw[hb]);obtain⟨t,a4⟩:∃ t,l[0]?=some t:=⟨_,an_ e4⟩;obtain⟨num,a3,a1⟩:=a2 0 t a4
  have h5:¬ (0:Int)≥(sn:Int):=by omega
  have f1:sn<=300:=by omega
  replace U:=q_ U;replace a3:=q_ a3;replace a1:=q_ a1;clear a6 hb a2 a4 b8 b7 a5
  go_wp2_with (first
   |(go_at_call 45;refine U.o.mono ?_;rintro e w1 ⟨E,rfl,j,hj,h1⟩;have S:=M0.o.call h1 E hj;have K:=E.blk B0.o (by omega);have N:=E.blk B1.o (by omega);have F:=E.blk B2.o (by omega);have p1:=F.cell 1;have p2:=F.thaw 1;simp only[zb_,aa_,ab_] at p1;have I:=S.put ⟨w.heap.size+1+1,1,none⟩ (.int .i64 0) (by simp;omega);have E2:=Blk.set F 1 (.int .i64 0);have O:=Blk.other K (a:=⟨w.heap.size+2,1,none⟩) (.int .i64 0) (by simp);have E1:=Blk.other N (a:=⟨w.heap.size+2,1,none⟩) (.int .i64 0) (by simp);have V:=E2.cell 1;have v1:=E1.cell 1;simp only[zb_,aa_,ab_,aj_,al_] at V v1;have d8:=hz.o _ _ _ _ I 0 num a3.o;have b4:=q_ (I.datum (f:=f) (t:=t) (by omega) (λ e=>by cases e) a1.o (λ e=>by cases e));replace S:=q_ S;replace I:=q_ I;replace K:=q_ K;replace N:=q_ N;replace F:=q_ F;replace O:=q_ O;replace E1:=q_ E1;replace E2:=q_ E2;replace E:=q_ E)
   |(go_at_call 26;refine b4.o.mono ?_;rintro e b ⟨y,z,A,c,B,c1,x,C,c2,j3,f4,d1,rfl,T,Q,a9,hJ⟩;have e8:=Q.size;have G:=Q.blk O.o (by omega);have H:=Q.blk E2.o (by omega);have M4:=(T.alloc (.cells #[.int .u8 (y:Int),.int .i64 z,.string A,.slice c B c1,.slice x C c2] 37)).alloc (.cells #[.int .u8 (y:Int),.int .i64 z,.string A,.slice c B c1,.slice x C c2] 37);have J0:=(G.alloc (.cells #[.int .u8 (y:Int),.int .i64 z,.string A,.slice c B c1,.slice x C c2] 37)).alloc (.cells #[.int .u8 (y:Int),.int .i64 z,.string A,.slice c B c1,.slice x C c2] 37);have R:=(H.alloc (.cells #[.int .u8 (y:Int),.int .i64 z,.string A,.slice c B c1,.slice x C c2] 37)).alloc (.cells #[.int .u8 (y:Int),.int .i64 z,.string A,.slice c B c1,.slice x C c2] 37);have y4:=R.cell 4;have y5:=R.thaw 4;have J:=Blk.set R 4 (.slice (some ⟨b.heap.size+1,0,none⟩) 1 1);have D:=Blk.other J0 (a:=⟨w.heap.size+2,4,none⟩) (.slice (some ⟨b.heap.size+1,0,none⟩) 1 1) (by simp);have r0:=D.cell 0;have g0:=D.thaw 0;have t0:=J.cell 0;have r1:=D.cell 1;have g1:=D.thaw 1;have V:=J.cell 1;have r2:=D.cell 2;have g2:=D.thaw 2;have t2:=J.cell 2;have r3:=D.cell 3;have g3:=D.thaw 3;have t3:=J.cell 3;have r4:=D.cell 4;have g4:=D.thaw 4;have t4:=J.cell 4;simp only[zg_,zb_,aa_,ab_,aj_,al_,af_] at r0 r1 r2 r3 r4 t0 V t2 t3 t4 y4;replace T:=q_ T;replace M4:=q_ M4;replace Q:=q_ Q;replace G:=q_ G;replace H:=q_ H;replace J0:=q_ J0;replace R:=q_ R;replace D:=q_ D;replace J:=q_ J))
  have L5:=Blk.five D.o (.int .u8 40) (.int .i64 0) (.string noB) (.slice none 0 0) (.slice (some ⟨b.heap.size+1,0,none⟩) 1 1);obtain⟨q0,q1,q2,q3,q4⟩:=L5.d5;have hF:=Fr.five (World.setCell ((b.alloc (.cells #[.int .u8 (y:Int),.int .i64 z,.string A,.slice c B c1,.slice x C c2] 37)).alloc (.cells #[.int .u8 (y:Int),.int .i64 z,.string A,.slice c B c1,.slice x C c2] 37)) ⟨w.heap.size+1+1,4,none⟩ (.slice (some ⟨b.heap.size+1,0,none⟩) 1 1)) (w.heap.size) (.int .u8 40) (.int .i64 0) (.string noB) (.slice none 0 0) (.slice (some ⟨b.heap.size+1,0,none⟩) 1 1);generalize (World.setCell (World.setCell (World.setCell (World.setCell (World.setCell (World.setCell ((b.alloc (.cells #[.int .u8 (y:Int),.int .i64 z,.string A,.slice c B c1,.slice x C c2] 37)).alloc (.cells #[.int .u8 (y:Int),.int .i64 z,.string A,.slice c B c1,.slice x C c2] 37)) ⟨w.heap.size+1+1,4,none⟩ (.slice (some ⟨b.heap.size+1,0,none⟩) 1 1)) ⟨w.heap.size,0,none⟩ (.int .u8 40)) ⟨w.heap.size,1,none⟩ (.int .i64 0)) ⟨w.heap.size,2,none⟩ (.string noB)) ⟨w.heap.size,3,none⟩ (.slice none 0 0)) ⟨w.heap.size,4,none⟩ (.slice (some ⟨b.heap.size+1,0,none⟩) 1 1))=W5 at *;refine bodyPost_ret (v:=.agg (zb_ 40 0 noB (.slice none 0 0) (.slice (some ⟨b.heap.size+1,0,none⟩) 1 1)).toArray) (by simp[results,results26,go_sem,q0,q1,q2,q3,q4,zb_]) rfl ?_;rw[Q_.o];rw[hr.o];have M5:=M4.o.put ⟨w.heap.size+1+1,4,none⟩ (.slice (some ⟨b.heap.size+1,0,none⟩) 1 1) (by show w.heap.size<=w.heap.size+1+1;omega)
  rcases hJ.o with⟨h6,_⟩|⟨h6,_⟩|⟨_,rfl⟩
  ·cases h6
  ·cases h6
  ·exact vk_ (e0:=6) (by decide) M5 a9 l_ ⟨_,_,_,rfl⟩ ⟨_,_,_,rfl⟩ hF rfl
 | some q=>
  obtain⟨v,j⟩:=q;have hg:=zf8 hb;rw[hb] at U
  have f1:sn<=300:=by omega
  by_cases hv:0<=v/\v<=(l.length:Int)-1
  ·obtain⟨u,rfl⟩:∃ u:Nat,v=(u:Int):=⟨v.toNat,by omega⟩;obtain⟨t,a4⟩:∃ t,l[u]?=some t:=⟨_,an_ (by omega)⟩;obtain⟨num,a3,a1⟩:=a2 u t a4
   have hr:=q_ (show rdB s env (f+1) (.alts p l) i n=oneX (u:Int) (rdB s env f t j (n+1)) by
    rw[a6]
    unfold v5_ bNum
    rw[hb]
    simp only
    rw[if_pos hv]
    simp only[bm_]
    rw[a4]
    simp only
    unfold oneX
    cases rdB s env f t j (n+1)<;>rfl)
   have f2:¬ (u:Int)<0:=by omega
   have f3:¬ (u:Int)≥(sn:Int):=by omega
   have h4:(u:Int)<(sn:Int):=by omega
   have d7:=q_ (hR t (aw_ a4) j (n+1) l_ (by omega) hg.2.1);replace U:=q_ U;replace a3:=q_ a3;replace a1:=q_ a1;clear a6 hb a2 a4 b8 b7 a5 hv
   go_wp2_with (first
    |(go_at_call 45;refine U.o.mono ?_;rintro e w1 ⟨E,rfl,hj,h1⟩;have S:=M0.o.call h1 E hj;have K:=E.blk B0.o (by omega);have N:=E.blk B1.o (by omega);have F:=E.blk B2.o (by omega);have p1:=F.cell 1;have p2:=F.thaw 1;simp only[zb_,aa_,ab_] at p1;have I:=S.put ⟨w.heap.size+1+1,1,none⟩ (.int .i64 (u:Int)) (by simp;omega);have E2:=Blk.set F 1 (.int .i64 (u:Int));have O:=Blk.other K (a:=⟨w.heap.size+2,1,none⟩) (.int .i64 (u:Int)) (by simp);have E1:=Blk.other N (a:=⟨w.heap.size+2,1,none⟩) (.int .i64 (u:Int)) (by simp);have V:=E2.cell 1;have v1:=E1.cell 1;simp only[zb_,aa_,ab_,aj_,al_] at V v1;have d8:=hz.o _ _ _ _ I u num a3.o;have b4:=q_ (I.datum (f:=f) (t:=t) (by omega) (λ _=>by omega) a1.o (λ _=>d7.o));have h3:=I.fr.size;replace S:=q_ S;replace I:=q_ I;replace K:=q_ K;replace N:=q_ N;replace F:=q_ F;replace O:=q_ O;replace E1:=q_ E1;replace E2:=q_ E2;replace E:=q_ E)
    |(go_at_call 26;refine b4.o.mono ?_;rintro e b ⟨y,z,A,c,B,c1,x,C,c2,j3,f4,d1,rfl,T,Q,a9,hJ⟩;have e8:=Q.size;have G:=Q.blk O.o (by omega);have H:=Q.blk E2.o (by omega);have M4:=(T.alloc (.cells #[.int .u8 (y:Int),.int .i64 z,.string A,.slice c B c1,.slice x C c2] 37)).alloc (.cells #[.int .u8 (y:Int),.int .i64 z,.string A,.slice c B c1,.slice x C c2] 37);have J0:=(G.alloc (.cells #[.int .u8 (y:Int),.int .i64 z,.string A,.slice c B c1,.slice x C c2] 37)).alloc (.cells #[.int .u8 (y:Int),.int .i64 z,.string A,.slice c B c1,.slice x C c2] 37);have R:=(H.alloc (.cells #[.int .u8 (y:Int),.int .i64 z,.string A,.slice c B c1,.slice x C c2] 37)).alloc (.cells #[.int .u8 (y:Int),.int .i64 z,.string A,.slice c B c1,.slice x C c2] 37);have y4:=R.cell 4;have y5:=R.thaw 4;have J:=Blk.set R 4 (.slice (some ⟨b.heap.size+1,0,none⟩) 1 1);have D:=Blk.other J0 (a:=⟨w.heap.size+2,4,none⟩) (.slice (some ⟨b.heap.size+1,0,none⟩) 1 1) (by simp);have r0:=D.cell 0;have g0:=D.thaw 0;have t0:=J.cell 0;have r1:=D.cell 1;have g1:=D.thaw 1;have V:=J.cell 1;have r2:=D.cell 2;have g2:=D.thaw 2;have t2:=J.cell 2;have r3:=D.cell 3;have g3:=D.thaw 3;have t3:=J.cell 3;have r4:=D.cell 4;have g4:=D.thaw 4;have t4:=J.cell 4;simp only[zg_,zb_,aa_,ab_,aj_,al_,af_] at r0 r1 r2 r3 r4 t0 V t2 t3 t4 y4;replace T:=q_ T;replace M4:=q_ M4;replace Q:=q_ Q;replace G:=q_ G;replace H:=q_ H;replace J0:=q_ J0;replace R:=q_ R;replace D:=q_ D;replace J:=q_ J))
   have L5:=Blk.five D.o (.int .u8 40) (.int .i64 (u:Int)) (.string noB) (.slice none 0 0) (.slice (some ⟨b.heap.size+1,0,none⟩) 1 1);obtain⟨q0,q1,q2,q3,q4⟩:=L5.d5;have hF:=Fr.five (World.setCell ((b.alloc (.cells #[.int .u8 (y:Int),.int .i64 z,.string A,.slice c B c1,.slice x C c2] 37)).alloc (.cells #[.int .u8 (y:Int),.int .i64 z,.string A,.slice c B c1,.slice x C c2] 37)) ⟨w.heap.size+1+1,4,none⟩ (.slice (some ⟨b.heap.size+1,0,none⟩) 1 1)) (w.heap.size) (.int .u8 40) (.int .i64 (u:Int)) (.string noB) (.slice none 0 0) (.slice (some ⟨b.heap.size+1,0,none⟩) 1 1);generalize (World.setCell (World.setCell (World.setCell (World.setCell (World.setCell (World.setCell ((b.alloc (.cells #[.int .u8 (y:Int),.int .i64 z,.string A,.slice c B c1,.slice x C c2] 37)).alloc (.cells #[.int .u8 (y:Int),.int .i64 z,.string A,.slice c B c1,.slice x C c2] 37)) ⟨w.heap.size+1+1,4,none⟩ (.slice (some ⟨b.heap.size+1,0,none⟩) 1 1)) ⟨w.heap.size,0,none⟩ (.int .u8 40)) ⟨w.heap.size,1,none⟩ (.int .i64 (u:Int))) ⟨w.heap.size,2,none⟩ (.string noB)) ⟨w.heap.size,3,none⟩ (.slice none 0 0)) ⟨w.heap.size,4,none⟩ (.slice (some ⟨b.heap.size+1,0,none⟩) 1 1))=W5 at *;refine bodyPost_ret (v:=.agg (zb_ 40 (u:Int) noB (.slice none 0 0) (.slice (some ⟨b.heap.size+1,0,none⟩) 1 1)).toArray) (by simp[results,results26,go_sem,q0,q1,q2,q3,q4,zb_]) rfl ?_;rw[Q_.o];have M5:=M4.o.put ⟨w.heap.size+1+1,4,none⟩ (.slice (some ⟨b.heap.size+1,0,none⟩) 1 1) (by show w.heap.size<=w.heap.size+1+1;omega);have f7:=H.o.lt;have f8:w.heap.size+2<(w1.setCell ⟨w.heap.size+1+1,1,none⟩ (.int .i64 (u:Int))).heap.size:=E2.o.lt
   rcases hJ.o with⟨_,d,b6,e5,rfl,d9⟩|⟨_,e0,b6,rfl,e1⟩|⟨h6,_⟩
   ·have e6:((b.alloc (.cells #[.int .u8 (y:Int),.int .i64 z,.string A,.slice c B c1,.slice x C c2] 37)).alloc (.cells #[.int .u8 (y:Int),.int .i64 z,.string A,.slice c B c1,.slice x C c2] 37)).ownsRow 0 37 5 (.slice (some ⟨b.heap.size+1,0,none⟩) 1 1) 1 (zb_ y z A (.slice c B c1) (.slice x C c2)):=by
     have:=World.ownsRow_lit (base:=0) (e:=37) (size:=5) (b.alloc (.cells #[.int .u8 (y:Int),.int .i64 z,.string A,.slice c B c1,.slice x C c2] 37)) #[.int .u8 (y:Int),.int .i64 z,.string A,.slice c B c1,.slice x C c2] 1 o_ (by simp[maxLen]) rfl
     have e:(b.alloc (.cells #[.int .u8 (y:Int),.int .i64 z,.string A,.slice c B c1,.slice x C c2] 37)).heap.size=b.heap.size+1:=by simp
     rw[e] at this;exact this
    have e2:Fr b (World.setCell ((b.alloc (.cells #[.int .u8 (y:Int),.int .i64 z,.string A,.slice c B c1,.slice x C c2] 37)).alloc (.cells #[.int .u8 (y:Int),.int .i64 z,.string A,.slice c B c1,.slice x C c2] 37)) ⟨w.heap.size+1+1,4,none⟩ (.slice (some ⟨b.heap.size+1,0,none⟩) 1 1)) (λ g=>g=w.heap.size+2):=((((Fr.refl b (λ g=>g=w.heap.size+2)).alloc _).alloc _).setCell _ _ (λ _=>rfl));have e7:=za_ e6 ((Fr.refl _ (λ g=>g=w.heap.size+2)).setCell ⟨w.heap.size+1+1,4,none⟩ (.slice (some ⟨b.heap.size+1,0,none⟩) 1 1) (λ _=>rfl)) (λ g hg e=>by simp only[Value.ownBlock,ag_] at hg;omega);rw[hr.o,b6];refine zaf M5 e5 l_ (DVal.one ((d9.fr e2 (λ g hg e=>by omega)).mono (λ g _ hg=>by omega)) (b.heap.size+1) (by omega) e7 40 (u:Int) noB) ⟨_,_,_,rfl⟩ ⟨_,_,_,rfl⟩ hF rfl
   ·rw[hr.o,b6];exact vk_ e1 M5 a9 l_ ⟨_,_,_,rfl⟩ ⟨_,_,_,rfl⟩ hF rfl
   ·exact absurd rfl h6
  ·have hr:=q_ (show rdB s env (f+1) (.alts p l) i n=.error 6 by rw[a6];unfold v5_ bNum;rw[hb];simp only;rw[if_neg hv])
   by_cases f2:v<0
   all_goals (try have f3:v≥(sn:Int):=by omega)
   all_goals
    replace U:=q_ U;clear a6 hb a2 b8 b7 a5 hv
    go_wp2_with (first
     |(go_at_call 45;refine U.o.mono ?_;rintro e w1 ⟨E,rfl,hj,h1⟩;have S:=M0.o.call h1 E hj;have K:=E.blk B0.o (by omega);have N:=E.blk B1.o (by omega);have F:=E.blk B2.o (by omega);have p1:=F.cell 1;have p2:=F.thaw 1;simp only[zb_,aa_,ab_] at p1;have I:=S.put ⟨w.heap.size+1+1,1,none⟩ (.int .i64 v) (by simp;omega);have E2:=Blk.set F 1 (.int .i64 v);have O:=Blk.other K (a:=⟨w.heap.size+2,1,none⟩) (.int .i64 v) (by simp);have E1:=Blk.other N (a:=⟨w.heap.size+2,1,none⟩) (.int .i64 v) (by simp);have V:=E2.cell 1;have v1:=E1.cell 1;simp only[zb_,aa_,ab_,aj_,al_] at V v1;replace S:=q_ S;replace I:=q_ I;replace K:=q_ K;replace N:=q_ N;replace F:=q_ F;replace O:=q_ O;replace E1:=q_ E1;replace E2:=q_ E2;replace E:=q_ E)
     |(go_at_call 43;refine(d6.o _ _ _ _ I.o.L).mono ?_;rintro e w2 ⟨rfl,h2,F2⟩;have T:=I.o.call h2 F2 I.o.jl;have G:=F2.blk O.o (by omega);have H:=F2.blk E2.o (by omega);have r0:=G.cell 0;have r1:=G.cell 1;have r2:=G.cell 2;have r3:=G.cell 3;have r4:=G.cell 4;have t0:=H.cell 0;have V:=H.cell 1;have t2:=H.cell 2;have t3:=H.cell 3;have t4:=H.cell 4;obtain⟨g0,g1,g2,g3,g4⟩:=G.t5;simp only[zg_,zb_,aa_,ab_,aj_,al_,af_] at r0 r1 r2 r3 r4 t0 V t2 t3 t4;replace T:=q_ T;replace G:=q_ G;replace H:=q_ H;replace F2:=q_ F2))
    have L5:=Blk.five G.o (.int .u8 40) (.int .i64 v) (.string noB) (.slice none 0 0) (.slice none 0 0);obtain⟨q0,q1,q2,q3,q4⟩:=L5.d5;have hF:=Fr.five w2 (w.heap.size) (.int .u8 40) (.int .i64 v) (.string noB) (.slice none 0 0) (.slice none 0 0);generalize (World.setCell (World.setCell (World.setCell (World.setCell (World.setCell w2 ⟨w.heap.size,0,none⟩ (.int .u8 40)) ⟨w.heap.size,1,none⟩ (.int .i64 v)) ⟨w.heap.size,2,none⟩ (.string noB)) ⟨w.heap.size,3,none⟩ (.slice none 0 0)) ⟨w.heap.size,4,none⟩ (.slice none 0 0))=W5 at *;refine bodyPost_ret (v:=.agg (zb_ 40 v noB (.slice none 0 0) (.slice none 0 0)).toArray) (by simp[results,results26,go_sem,q0,q1,q2,q3,q4,zb_]) rfl ?_;rw[Q_.o];rw[hr.o];exact zc9 (by decide) T.o (by omega) ⟨_,_,_,rfl⟩ ⟨_,_,_,rfl⟩ hF rfl
mutual
def fewT:PT->Prop
 | .leaf _ _=>True
 | .wrap _ _ t=>fewT t
 | .alts _ l=>l.length<=300/\zmi l
def zmi:List PT->Prop
 | []=>True
 | t::r=>fewT t/\zmi r
end
theorem zik:∀ {l:List PT},zmi l->∀ t∈l,fewT t
 | [],_,t,h=>by cases h
 | x::r,h,t,a=>by
  unfold zmi at h
  rcases ap_.1 a with rfl|a
  ·exact h.1
  ·exact zik h.2 t a
def fewE (env:Nat->Option PB):Prop:=∀ c fs,env c=some (.recd fs)->fs.length<=300/\∀ g∈fs,fewT g.ty
theorem zy7 {env:Nat->Option PB}{ts:List TR}(v:zhz env) (m:fewE env):∀ (f:Nat) (t:PT) (i n:Nat),okT env t->fewT t->n<=300->i<=s.size->301<=f+n->BdOK s env ts f t i n:=by
 intro f
 induction f with
 | zero=>intro t i n _ _ h1 _ e;omega
 | succ f ih=>
  intro t i n b d hn A B
  by_cases x:300<=n
  ·exact zy6 x
  have a:n<300:=by omega
  have next:∀ u,okT env u->fewT u->∀ j nn,n+1<=nn->nn<=300->j<=s.size->BdOK s env ts f u j nn:=λ u hu z j nn h1 e q=>ih u j nn hu z e q (by omega)
  cases t with
  | leaf c p=>
   unfold okT at b
   rcases b with hb|⟨y,pb,he⟩
   ·simp only[yc_,ax_,beq_iff_eq] at hb
    rcases hb with(((rfl|rfl)|rfl)|rfl)|rfl
    ·exact bd_n a
    ·exact bd_t a
    ·exact bd_i a
    ·exact bd_l a
    ·exact bd_s a
   ·have hB:=v c pb he;refine zxn a y he ?_
    cases pb with
    | recd fs=>exact zwr (λ g hg=>next g.ty (hB g hg) ((m c fs he).2 g hg)) (by have:=(m c fs he).1;omega)
    | enum l o=>exact zws hB.2
    | bytes k=>exact zt8 hB
  | wrap c p t=>
   unfold okT at b;unfold fewT at d
   rcases b.1 with rfl|rfl
   ·exact zss a (next t b.2 d)
   ·exact zps a (next t b.2 d)
  | alts p l=>
   unfold okT at b;unfold fewT at d;exact zxo a b.1 d.1 (λ t h=>next t (zfo b.2 t h).2 (zik d.2 t h))
open Go.RowKit
def zhh (w:World) (r:Except Nat (DT×Nat×Nat)) (e:Ending) (w':World):Prop:=
 ∃ (k:Nat) (n:Int) (tx:BA) (a1:Option Addr) (m1 c1:Nat) (a2:Option Addr) (m2 c2:Nat) (j er:Nat),e=.returned (.tuple #[.agg (zb_ k n tx (.slice a1 m1 c1) (.slice a2 m2 c2)).toArray,.int .i64 (j:Int),.int .i64 (er:Int)])/\Fr w w' (λ _=>False)/\
 match r with
 | .error e0=>e0≠0/\er=e0/\j=0
 | .ok (d,j',_)=>er=0/\j=j'/\DVal w' (λ g=>w.heap.size<=g) d (zb_ k n tx (.slice a1 m1 c1) (.slice a2 m2 c2))
theorem zgp {w:World}{bz:Nat}(hs:4000<s.size) :
 Calls prog 12 #[.pointer (some ⟨bz,0,none⟩),.string s] w (zhh w (.error 1)):=by
 refine hq_ λ b a=>?_
 have c:(4000:Int)<(s.size:Int):=by omega
 go_in
 go_wp2_with fail
 refine bodyPost_ret (v:=.tuple #[.agg (zb_ 0 0 noB (.slice none 0 0) (.slice none 0 0)).toArray,.int .i64 0,.int .i64 1]) (by simp[results,results12,go_sem,zb_];rfl) rfl ?_;rw[a.o];exact⟨0,0,noB,none,0,0,none,0,0,0,1,rfl,(Fr.refl w _).alloc _,by decide,rfl,rfl⟩
theorem zhr {w:World}{P:Nat->Prop}{bz:Nat}{ts:List TR}{env:Nat->Option PB}{k:Nat}{t:PT}(Z:ZAt w P bz ts env) (hP:∀ g,P g->g<w.heap.size) (hs:s.size<=4000) (hc:w.cell? ⟨bz,31,none⟩=some (.int .i64 (k:Int))) (hk:isT ts k t) (hD:BdOK s env ts 301 t 0 0) :
 Calls prog 12 #[.pointer (some ⟨bz,0,none⟩),.string s] w (zhh w (rdB s env 301 t 0 0)):=by
 refine hq_ λ a5 Q_=>?_
 have a8:¬ (4000:Int)<(s.size:Int):=by omega
 obtain⟨H,G⟩:∃ H,H=(w.alloc (.cells zg_.toArray 37)).alloc (.cells #[.string s,.int .i64 0,.int .i64 0,.pointer (some ⟨bz,0,none⟩),.int .i64 0] 73):=⟨_,rfl⟩;have F0:Fr w H (λ _=>False):=G▸((Fr.refl w _).alloc _).alloc _
 have a9:H.heap.size=w.heap.size+2:=by rw[G];simp
 have B0:Blk H w.heap.size zg_ 37:=G▸(Blk.new w _ _).alloc _
 have L0:DAt H (w.heap.size+1) s bz 0 0 0:=by
  have:=Blk.new (w.alloc (.cells zg_.toArray 37)) #[.string s,.int .i64 0,.int .i64 0,.pointer (some ⟨bz,0,none⟩),.int .i64 0] 73;rw[show(w.alloc (.cells zg_.toArray 37)).heap.size=w.heap.size+1 by simp] at this;rw[G];exact this
 have M0:XBM H P (w.heap.size+1) s bz 0 0 0 ts env H:=⟨L0,Z.fr F0 u_,λ h=>by have:=hP _ h;omega,λ g hg=>by have:=hP g hg;omega,by omega,Fr.refl _ _,ak_ _,hs⟩;have I:=hD H P (w.heap.size+1) bz k M0 (by omega) hk;have a6:=World.block_lt_of_cell? w ⟨bz,31,none⟩ hc;replace G:=q_ G;have a1:=q_ F0;replace B0:=q_ B0;clear M0 L0 Z hD hk hP F0
 cases U:rdB s env 301 t 0 0 with
 | error e0=>
  rw[U] at I Q_;replace I:=q_ I;replace U:=q_ U
  go_in
  go_upto_region 5 with(go_at_call 26;refine(show Calls _ _ _ ((w.alloc (.cells zg_.toArray _)).alloc _) _ from G.o▸I.o).mono ?_;intro e B hQ;rw[<- G.o] at hQ;obtain⟨l,m,y,vk,vs,rfl,⟨b,z,c1,rfl⟩,⟨c,A,c2,rfl⟩,C,a2,j,mm,hj,a3,L⟩:=hQ;have D2:=q_ (C.blk B0.o (by omega));replace C:=q_ C;replace L:=q_ L;simp only[zb_])
  have a4:=C.o.size;change Code.wp _ _ _ _ (B.alloc (.cells #[.int .u8 (l:Int),.int .i64 m,.string y,.slice b z c1,.slice c A c2] 37));have F:=(Fr.refl B (λ _=>False)).alloc (.cells #[.int .u8 (l:Int),.int .i64 m,.string y,.slice b z c1,.slice c A c2] 37);have D:=F.blk L.o id;have a:=F.blk D2.o id;have E:=Blk.new B #[.int .u8 (l:Int),.int .i64 m,.string y,.slice b z c1,.slice c A c2] 37;have K:Fr w (B.alloc (.cells #[.int .u8 (l:Int),.int .i64 m,.string y,.slice b z c1,.slice c A c2] 37)) (λ _=>False):=(a1.o.trans C.o (λ x hx e=>by omega)).alloc _;generalize B.alloc (.cells #[.int .u8 (l:Int),.int .i64 m,.string y,.slice b z c1,.slice c A c2] 37)=W3 at *;generalize T:B.heap.size=bx at *;have e1:=DAt.c1 D;have e2:=DAt.c2 D
  have a7:((e0:Int)==0)=false:=by simp;exact a2
  have r0:=a.cell 0;have g0:=a.thaw 0;have r1:=a.cell 1;have g1:=a.thaw 1;have r2:=a.cell 2;have g2:=a.thaw 2;have r3:=a.cell 3;have g3:=a.thaw 3;have r4:=a.cell 4;have g4:=a.thaw 4;simp only[zg_,zb_,aa_,ab_,af_] at r0 r1 r2 r3 r4;replace D:=q_ D;replace a:=q_ a;replace K:=q_ K;replace E:=q_ E;replace F:=q_ F;replace T:=q_ T
  go_wp2_with fail
  refine z9_ (λ W=>W.cell? ⟨w.heap.size+1,2,none⟩=some (.int .i64 (e0:Int))) (by kernel_rfl) ?_;refine tA_ 0 rfl (by kernel_rfl) (λ _ _ _ h=>h) (by intro W h1;go_simp<;>rfl) ?_;refine tA_ 1 rfl (by kernel_rfl) (λ _ _ _ h=>h) (by intro W h1;go_simp<;>rfl) ?_;refine tA_ 2 rfl (by kernel_rfl) (λ _ _ _ h=>h) (by intro W h1;go_simp<;>rfl) ?_;refine tA_ 3 rfl (by kernel_rfl) (λ _ _ _ h=>h) (by intro W h1;go_simp<;>rfl) ?_;refine tA_ 4 rfl (by kernel_rfl) (λ _ _ _ h=>h) (by intro W h1;go_simp<;>rfl) ?_;refine zu_ 5 rfl (by kernel_rfl) e2 (λ K1 Y=>?_);go_simp;refine Y _ _ ?_;clear Y K1;have J:=Fr.five W3 w.heap.size (.int .u8 0) (.int .i64 0) (.string noB) (.slice none 0 0) (.slice none 0 0);have V:=Blk.five a.o (.int .u8 0) (.int .i64 0) (.string noB) (.slice none 0 0) (.slice none 0 0);have X:=J.blk D.o (by omega)
  skip
  change xw_ _ _ _ _ _ _ _ _ (World.drew (World.setCell (World.setCell (World.setCell (World.setCell (World.setCell W3 ⟨w.heap.size,0,none⟩ (.int .u8 0)) ⟨w.heap.size,1,none⟩ (.int .i64 0)) ⟨w.heap.size,2,none⟩ (.string noB)) ⟨w.heap.size,3,none⟩ (.slice none 0 0)) ⟨w.heap.size,4,none⟩ (.slice none 0 0)));generalize (World.setCell (World.setCell (World.setCell (World.setCell (World.setCell W3 ⟨w.heap.size,0,none⟩ (.int .u8 0)) ⟨w.heap.size,1,none⟩ (.int .i64 0)) ⟨w.heap.size,2,none⟩ (.string noB)) ⟨w.heap.size,3,none⟩ (.slice none 0 0)) ⟨w.heap.size,4,none⟩ (.slice none 0 0))=W5 at *;obtain⟨q0,q1,q2,q3,q4⟩:=V.d5;have a0:=q_ J;refine tA_ 6 rfl (by kernel_rfl) (λ _ _ _ h=>h) (by intro W h1;go_simp<;>rfl) ?_;refine tA_ 7 rfl (by kernel_rfl) (λ _ _ _ h=>h) (by intro W h1;go_simp<;>rfl) ?_;refine z8_ (by kernel_rfl) (DAt.c2 X) ?_ _;clear X  V J
  go_wp2_with fail
  refine bodyPost_ret (v:=.tuple #[.agg (zb_ 0 0 noB (.slice none 0 0) (.slice none 0 0)).toArray,.int .i64 0,.int .i64 (e0:Int)]) (by simp[results,results12,go_sem,q0,q1,q2,q3,q4,zb_]) rfl ?_;rw[Q_.o];exact⟨0,0,noB,none,0,0,none,0,0,0,e0,rfl,(K.o.trans a0.o (λ x hx e=>by omega)).drew,a2,rfl,rfl⟩
 | ok q=>
  obtain⟨d,j,mm⟩:=q;rw[U] at I Q_;replace I:=q_ I;replace U:=q_ U
  go_in
  go_upto_region 5 with(go_at_call 26;refine(show Calls _ _ _ ((w.alloc (.cells zg_.toArray _)).alloc _) _ from G.o▸I.o).mono ?_;intro e B hQ;rw[<- G.o] at hQ;obtain⟨l,m,y,vk,vs,rfl,⟨b,z,c1,rfl⟩,⟨c,A,c2,rfl⟩,C,hj,a3,L,V2⟩:=hQ;have D2:=q_ (C.blk B0.o (by omega));replace V2:=q_ V2;replace C:=q_ C;replace L:=q_ L;simp only[zb_])
  have a4:=C.o.size;change Code.wp _ _ _ _ (B.alloc (.cells #[.int .u8 (l:Int),.int .i64 m,.string y,.slice b z c1,.slice c A c2] 37));have F:=(Fr.refl B (λ _=>False)).alloc (.cells #[.int .u8 (l:Int),.int .i64 m,.string y,.slice b z c1,.slice c A c2] 37);have D:=F.blk L.o id;have a:=F.blk D2.o id;have E:=Blk.new B #[.int .u8 (l:Int),.int .i64 m,.string y,.slice b z c1,.slice c A c2] 37;have K:Fr w (B.alloc (.cells #[.int .u8 (l:Int),.int .i64 m,.string y,.slice b z c1,.slice c A c2] 37)) (λ _=>False):=(a1.o.trans C.o (λ x hx e=>by omega)).alloc _;generalize B.alloc (.cells #[.int .u8 (l:Int),.int .i64 m,.string y,.slice b z c1,.slice c A c2] 37)=W3 at *;generalize T:B.heap.size=bx at *;have e1:=DAt.c1 D;have e2:=DAt.c2 D;have x0:=E.cell 0;have x1:=E.cell 1;have x2:=E.cell 2;have x3:=E.cell 3;have x4:=E.cell 4;have r0:=a.cell 0;have g0:=a.thaw 0;have r1:=a.cell 1;have g1:=a.thaw 1;have r2:=a.cell 2;have g2:=a.thaw 2;have r3:=a.cell 3;have g3:=a.thaw 3;have r4:=a.cell 4;have g4:=a.thaw 4;simp only[zg_,zb_,aa_,ab_,af_] at r0 r1 r2 r3 r4 x0 x1 x2 x3 x4;replace D:=q_ D;replace a:=q_ a;replace K:=q_ K;replace E:=q_ E;replace F:=q_ F;replace T:=q_ T
  go_wp2_with fail
  refine z9_ (λ W=>W.cell? ⟨w.heap.size+1,1,none⟩=some (.int .i64 (j:Int))/\W.cell? ⟨bx,0,none⟩=some (.int .u8 (l:Int))/\W.cell? ⟨bx,1,none⟩=some (.int .i64 m)/\W.cell? ⟨bx,2,none⟩=some (.string y)/\W.cell? ⟨bx,3,none⟩=some (.slice b z c1)/\W.cell? ⟨bx,4,none⟩=some (.slice c A c2)) (by kernel_rfl) ?_;refine tA_ 0 rfl (by kernel_rfl) (λ _ _ _ h=>h) (by rintro W ⟨h1,N,O,Q,R,S⟩;go_simp<;>rfl) ?_;refine tA_ 1 rfl (by kernel_rfl) (λ _ _ _ h=>h) (by rintro W ⟨h1,N,O,Q,R,S⟩;go_simp<;>rfl) ?_;refine tA_ 2 rfl (by kernel_rfl) (λ _ _ _ h=>h) (by rintro W ⟨h1,N,O,Q,R,S⟩;go_simp<;>rfl) ?_;refine tA_ 3 rfl (by kernel_rfl) (λ _ _ _ h=>h) (by rintro W ⟨h1,N,O,Q,R,S⟩;go_simp<;>rfl) ?_;refine tA_ 4 rfl (by kernel_rfl) (λ _ _ _ h=>h) (by rintro W ⟨h1,N,O,Q,R,S⟩;go_simp<;>rfl) ?_;refine zu_ 5 rfl (by kernel_rfl) ⟨e1,x0,x1,x2,x3,x4⟩ (λ K1 Y=>?_);go_simp;refine Y _ _ ?_;clear Y K1;have J:=Fr.five W3 w.heap.size (.int .u8 (l:Int)) (.int .i64 m) (.string y) (.slice b z c1) (.slice c A c2);have V:=Blk.five a.o (.int .u8 (l:Int)) (.int .i64 m) (.string y) (.slice b z c1) (.slice c A c2);have X:=J.blk D.o (by omega);have M:=J.blk E.o (by have:=T.o;omega);change xw_ _ _ _ _ _ _ _ _ (World.drew (World.setCell (World.setCell (World.setCell (World.setCell (World.setCell W3 ⟨w.heap.size,0,none⟩ (.int .u8 (l:Int))) ⟨w.heap.size,1,none⟩ (.int .i64 m)) ⟨w.heap.size,2,none⟩ (.string y)) ⟨w.heap.size,3,none⟩ (.slice b z c1)) ⟨w.heap.size,4,none⟩ (.slice c A c2)));generalize (World.setCell (World.setCell (World.setCell (World.setCell (World.setCell W3 ⟨w.heap.size,0,none⟩ (.int .u8 (l:Int))) ⟨w.heap.size,1,none⟩ (.int .i64 m)) ⟨w.heap.size,2,none⟩ (.string y)) ⟨w.heap.size,3,none⟩ (.slice b z c1)) ⟨w.heap.size,4,none⟩ (.slice c A c2))=W5 at *;obtain⟨q0,q1,q2,q3,q4⟩:=V.d5;have a0:=q_ J;refine tA_ 6 rfl (by kernel_rfl) (λ _ _ _ h=>h) (by rintro W ⟨h1,N,O,Q,R,S⟩;go_simp<;>rfl) ?_;refine tA_ 7 rfl (by kernel_rfl) (λ _ _ _ h=>h) (by rintro W ⟨h1,N,O,Q,R,S⟩;go_simp<;>rfl) ?_;refine z8_ (by kernel_rfl) ⟨DAt.c1 X,(M.cell 0),(M.cell 1),(M.cell 2),(M.cell 3),(M.cell 4)⟩ ?_ _;clear X M V J
  go_wp2_with fail
  refine bodyPost_ret (v:=.tuple #[.agg (zb_ l m y (.slice b z c1) (.slice c A c2)).toArray,.int .i64 (j:Int),.int .i64 0]) (by simp[results,results12,go_sem,q0,q1,q2,q3,q4,zb_]) rfl ?_;rw[Q_.o];have hV:DVal W3 (λ g=>H.heap.size<=g) d (zb_ l m y (.slice b z c1) (.slice c A c2)):=V2.o.fr F.o u_;exact⟨l,m,y,b,z,c1,c,A,c2,j,0,rfl,(K.o.trans a0.o (λ x hx e=>by omega)).drew,rfl,rfl,((hV.fr a0.o (λ g hg e=>by omega)).fr ((Fr.refl W5 (λ _=>False)).drew) u_).mono (λ g _ hg=>by omega)⟩
open Go.RowKit
theorem zdw (h:u<10):decB (u:Int)=bts [48+u]:=by
 unfold decB bts;rw[Lib.itoa_nonneg,Lib.decDigits_one h]
 rfl
theorem zns (h:¬ u<10):decB (u:Int)=decB ((u / 10:Nat):Int)++bts [48+u % 10]:=by
 unfold decB bts;rw[Lib.itoa_nonneg,Lib.itoa_nonneg,Lib.decDigits,dif_neg h]
 apply ByteArray.ext
 simp
theorem zuu (h:1<=u):decB (-(u:Int))=bts [45]++decB (u:Int):=by
 unfold decB bts;rw[Lib.itoa_neg u h,Lib.itoa_nonneg]
 apply ByteArray.ext
 simp
section
variable {w:World}
theorem zvk:∀ (c u:Nat),u<=c->u<=9223372036854775807->∀ w:World,Calls prog 27 #[.int .i64 (u:Int)] w λ e w'=>e=.returned (.string (decB (u:Int)))/\Fr w w' (λ _=>False):=by
 intro c
 induction c with
 | zero=>
  intro u hu h1 w
  obtain rfl:u=0:=by omega
  refine hq_ λ m a=>?_;have l:=zsk w 48 48 rfl
  go_in
  go_wp2_with fail
  try go_ret
  rw[a.o,zdw (by omega)];exact⟨rfl,(Fr.refl w _).alloc _⟩
 | succ c ih=>
  intro u hu h1 w;refine hq_ λ m a=>?_
  have v:¬ (u:Int)<0:=by omega
  by_cases h:u<10
  ·have q:(u:Int)<10:=by omega
   have l:=zsk w (48+u) (48+(u:Int)) (by omega);rw[zdw h] at a
   go_in
   go_wp2_with fail
   try go_ret
   rw[a.o];exact⟨rfl,(Fr.refl w _).alloc _⟩
  ·have q:¬ (u:Int)<10:=by omega
   rw[zns h] at a;have b:=ih (u / 10) (by omega) (by omega) w;have j:=zbi (n:=((u / 10:Nat):Int)) (by omega) (by omega);rw[show((u / 10:Nat):Int)=(u:Int) / 10 by omega] at b j a;obtain⟨D,d⟩:∃ D,D=decB ((u:Int) / 10):=⟨_,rfl⟩;rw[<- d] at b j a;replace b:=q_ b;replace d:=q_ d
   have x:(bts [48+u % 10]).size<=1:=by rw[yh_];exact l_
   go_in
   go_wp2_with (go_at_call 27;refine b.o.mono ?_;rintro e w1 ⟨rfl,g⟩;have l:=zsk w1 (48+u % 10) (48+(u:Int) % 10) (by omega);replace g:=q_ g)
   try go_ret
   rw[a.o];exact⟨rfl,g.o.alloc _⟩
theorem zcd {n:Int}(h0 : -9223372036854775808<=n) (h1:n<=9223372036854775807):Calls prog 27 #[.int .i64 n] w λ e w'=>e=.returned (.string (decB n))/\Fr w w' (λ _=>False):=by
 by_cases hn:n<0
 case neg=>
  obtain⟨u,rfl⟩:∃ u:Nat,n=(u:Int):=⟨n.toNat,by omega⟩;exact zvk u u l_ (by omega) w
 refine hq_ λ y d=>?_;obtain⟨u,hu⟩:∃ u:Nat,n = -(u:Int):=⟨n.natAbs,by omega⟩;have b:=zvk (u / 10) (u / 10) l_ (by omega) w
 have m:n.tdiv 10 = -((u / 10:Nat):Int):=by rw[hu,Int.neg_tdiv];rfl
 have q:n.tmod 10 = -((u % 10:Nat):Int):=by rw[hu,Int.neg_tmod];rfl
 have h:=zbi (n:=((u / 10:Nat):Int)) (by omega) (by omega);rw[show((u / 10:Nat):Int)=(u:Int) / 10 by omega] at b h m;rw[show((u % 10:Nat):Int)=(u:Int) % 10 by omega] at q;have v:=q_ (show 1<=u by omega)
 have B:u<=9223372036854775808:=by omega
 have hb:decB n=bts [45]++decB (u:Int):=by rw[hu];exact zuu v.o
 rw[hb] at d
 have A:(bts [48+u % 10]).size<=1:=by rw[yh_];exact l_
 obtain⟨D,c⟩:∃ D,D=decB ((u:Int) / 10):=⟨_,rfl⟩;rw[<- c] at b h;replace b:=q_ b;have z:=q_ (rfl:(⟨#[45]⟩:BA)=bts [45])
 by_cases g:u<10
 ·have l : -10<n:=by omega
  rw[zdw g] at d;have j:H_ (u % 10=u):=q_ (Nat.mod_eq_of_lt g);replace hu:=q_ hu;replace c:=q_ c;clear hb
  go_in
  go_wp2_with (go_at_call 27;refine b.o.mono ?_;rintro e w1 ⟨rfl,a⟩;have x:=zsk w1 (48+u % 10) (48+(u:Int) % 10) (by omega);replace a:=q_ a)
  try go_ret
  rw[d.o];exact⟨by rw[j.o];rfl,a.o.alloc _⟩
 ·have l:¬ -10<n:=by omega
  rw[zns g,show((u / 10:Nat):Int)=(u:Int) / 10 by omega,<- c] at d;replace hu:=q_ hu;replace c:=q_ c;clear hb
  go_in
  go_wp2_with (go_at_call 27;refine b.o.mono ?_;rintro e w1 ⟨rfl,a⟩;have x:=zsk w1 (48+u % 10) (48+(u:Int) % 10) (by omega);replace a:=q_ a)
  try go_ret
  rw[d.o];exact⟨by rw[<- az_];rfl,a.o.alloc _⟩
end
open Go.RowKit
inductive FitT (env:Nat->Option PB):DT->PT->Prop
 | flat {k:Nat} {n:Int} {tx:BA} {t:PT} (h:k=110\/k=116\/k=105\/k=108\/k=115\/k=102):FitT env (.mk k n tx [] []) t
 | wrap {c p:Nat} {u:PT} {ks:List BA} {ds:List DT} (h:∀ (i:Nat) (d:DT),ds[i]?=some d->FitT env d u):FitT env (.mk c 0 noB ks ds) (.wrap c p u)
 | alts {n p:Nat} {l:List PT} {u:PT} {d:DT} (hl:l[n]?=some u) (h:FitT env d u):FitT env (.mk 40 (n:Int) noB [] [d]) (.alts p l)
 | sym {c p n:Nat} {l:List (Nat×Nat)} {o:Option (Nat×Nat)} (he:env c=some (.enum l o)) (hb:¬ yc_ c=true) (hn:n<l.length):FitT env (.mk 101 (n:Int) noB [] []) (.leaf c p)
 | recd {c p:Nat} {fs:List PF} {ds:List DT} (he:env c=some (.recd fs)) (hb:¬ yc_ c=true) (hl:ds.length=fs.length) (h:∀ (i:Nat) (d:DT) (g:PF),ds[i]?=some d->fs[i]?=some g->FitT env d g.ty):FitT env (.mk 114 0 noB [] ds) (.leaf c p)
def zxw (env:Nat->Option PB) (R:Nat->Nat->Except Nat (DT×Nat×Nat)) (t:PT):Prop:=∀ i n d j m,R i n=.ok (d,j,m)->FitT env d t/\m=n+ndT d
theorem zga {env:Nat->Option PB}{R:Nat->Nat->Except Nat (DT×Nat×Nat)}{t:PT}(a:zxw env R t){keyed:Bool}:∀ (c:Nat) (last:Option BA) (i n:Nat) (l:List (BA×DT)) (j m:Nat),xk_ R s keyed c last i n=.ok (l,j,m)->(∀ e∈l,FitT env e.2 t)/\m=n+ndTs (l.map Prod.snd)
 | 0,last,i,n,l,j,m,h=>by
  simp only[xk_,ae_,ad_] at h;obtain⟨rfl,rfl,rfl⟩:=h
  simp[ndTs]
 | c+1,last,i,n,l,j,m,h=>by
  unfold xk_ at h;split at h
  ·simp at h
  ·rename_i k o hk;split at h
   ·simp at h
   ·rename_i d q y hd;have b:=a _ _ _ _ _ hd;split at h
    ·simp at h
    ·rename_i v j' x he;have g:=zga a c _ _ _ _ _ _ he;simp only[ae_,ad_] at h;obtain⟨rfl,rfl,rfl⟩:=h;refine⟨λ e he=>?_,?_⟩
     ·rcases ap_.1 he with rfl|he
      ·exact b.1
      ·exact g.1 e he
     ·simp only[ay_,ndTs];omega
theorem zeh {env:Nat->Option PB}{R:PT->Nat->Nat->Except Nat (DT×Nat×Nat)}(c:∀ t,zxw env (R t) t):∀ (fs:List PF) (i n:Nat) (l:List DT) (j m:Nat),yu_ R (fs.map PF.ty) i n=.ok (l,j,m)->l.length=fs.length/\(∀ (i:Nat) (d:DT) (g:PF),l[i]?=some d->fs[i]?=some g->FitT env d g.ty)/\m=n+ndTs l
 | [],i,n,l,j,m,h=>by
  simp only[a6_,yu_,ae_,ad_] at h;obtain⟨rfl,rfl,rfl⟩:=h
  simp[ndTs]
 | f::r,i,n,l,j,m,h=>by
  simp only[ay_] at h;unfold yu_ at h;split at h
  ·simp at h
  ·rename_i d x A hd;have o:=c f.ty _ _ _ _ _ hd;split at h
   ·simp at h
   ·rename_i y j' z he;have v:=zeh c r _ _ _ _ _ he;simp only[ae_,ad_] at h;obtain⟨rfl,rfl,rfl⟩:=h;refine⟨by simp only[aq_];omega,λ q e g a b=>?_,by simp only[ndTs];omega⟩
    cases q with
    | zero=>
     simp only[aa_,ag_] at a b;subst a b;exact o.1
    | succ q=>
     simp only[ab_] at a b;exact v.2.1 q e g a b
theorem zm7 (s:BA) (env:Nat->Option PB):∀ (f:Nat) (t:PT),zxw env (rdB s env f t) t:=by
 intro f
 induction f with
 | zero=>intro t i n d j m h;simp[rdB] at h
 | succ f ih=>
  intro t i n d j m h;unfold rdB at h;split at h
  ·simp at h
  ·rename_i C;split at h
   ·rename_i c p;unfold j6_ at h;split at h
    ·simp only[ae_,ad_] at h;obtain⟨rfl,rfl,rfl⟩:=h;exact⟨.flat (by omega),by simp[ndT,ndTs]⟩
    ·split at h
     ·split at h
      ·simp only[ae_,ad_] at h;obtain⟨rfl,rfl,rfl⟩:=h;exact⟨.flat (by omega),by simp[ndT,ndTs]⟩
      ·simp at h
     ·split at h
      ·split at h
       ·simp at h
       ·simp only[ae_,ad_] at h;obtain⟨rfl,rfl,rfl⟩:=h;exact⟨.flat (by omega),by simp[ndT,ndTs]⟩
      ·split at h
       ·split at h
        ·simp at h
        ·simp only[ae_,ad_] at h;obtain⟨rfl,rfl,rfl⟩:=h;exact⟨.flat (by omega),by simp[ndT,ndTs]⟩
       ·split at h
        ·split at h
         ·simp at h
         ·simp only[ae_,ad_] at h;obtain⟨rfl,rfl,rfl⟩:=h;exact⟨.flat (by omega),by simp[ndT,ndTs]⟩
        ·split at h
         ·simp at h
         ·rename_i pb o
          have g:¬ yc_ c=true:=by
           intro hb;simp only[yc_,ax_,beq_iff_eq] at hb;omega
          unfold xa_ at h;split at h
          ·split at h
           ·simp at h
           ·rename_i ds b D he;have a:=zeh ih _ _ _ _ _ _ he;simp only[ae_,ad_] at h;obtain⟨rfl,rfl,rfl⟩:=h;exact⟨.recd o g a.1 a.2.1,by simp only[ndT];omega⟩
          ·split at h
           ·simp at h
           ·rename_i q b he;have a:=y2_ he;simp only[ae_,ad_] at h;obtain⟨rfl,rfl,rfl⟩:=h;obtain⟨k,rfl⟩:∃ k:Nat,q=(k:Int):=⟨q.toNat,by omega⟩;exact⟨.sym o g (by omega),by simp[ndT,ndTs]⟩
          ·split at h
           ·simp at h
           ·simp only[ae_,ad_] at h;obtain⟨rfl,rfl,rfl⟩:=h;exact⟨.flat (by omega),by simp[ndT,ndTs]⟩
   ·rename_i c p t;unfold zce at h;split at h
    ·simp at h
    ·rename_i q b he;split at h
     ·simp at h
     ·rename_i l z A hl;have a:=zga (ih t) _ _ _ _ _ _ _ hl;simp only[ae_,ad_] at h;obtain⟨rfl,rfl,rfl⟩:=h;refine⟨.wrap (λ i d e=>?_),by simp only[ndT];omega⟩;rw[bk_] at e;obtain⟨x,y,rfl⟩:=b4_.1 e;exact a.1 x (aw_ y)
   ·rename_i p ts;unfold v5_ at h;split at h
    ·simp at h
    ·rename_i q b he;have h1:=y2_ he;split at h
     ·simp at h
     ·rename_i t v;split at h
      ·simp at h
      ·rename_i B z A hd;have a:=ih t _ _ _ _ _ hd;simp only[ae_,ad_] at h;obtain⟨rfl,rfl,rfl⟩:=h;obtain⟨k,rfl⟩:∃ k:Nat,q=(k:Int):=⟨q.toNat,by omega⟩;exact⟨.alts (by simpa using v) a.1,by simp only[ndT,ndTs];omega⟩
open Go.RowKit
theorem zdp {ts:List TR}{k:Nat}{t:PT}(h:isT ts k t):∃ a,ts[k]?=some a:=by
 cases t with
 | leaf c p=>unfold isT at h;exact⟨_,h⟩
 | wrap c p u=>unfold isT at h;obtain⟨j,h,_⟩:=h;exact⟨_,h⟩
 | alts p l=>unfold isT at h;obtain⟨j,h,_⟩:=h;exact⟨_,h⟩
section
variable {w:World} {P Pd:Nat->Prop} {bz k:Nat} {ts:List TR} {env:Nat->Option PB} {t:PT}
theorem zx6 (Z:ZAt w P bz ts env) (hk:isT ts k t) (b:DVal w Pd (.mk 110 n0 tx0 [] []) (zb_ 110 n0 tx0 vk vs)) (a:okD (.mk 110 n0 tx0 [] [])) :
 Calls prog 13 #[.pointer (some ⟨bz,0,none⟩),.agg (zb_ 110 n0 tx0 vk vs).toArray,.int .i64 (k:Int)] w λ e w'=>e=.returned (.string (txT env (.mk 110 n0 tx0 [] []) t))/\Fr w w' (λ _=>False):=by
 obtain⟨l,c1,rfl,v⟩:=b.keys;obtain⟨q,c2,rfl,y⟩:=b.sub;obtain⟨B,j⟩:=zdp hk;obtain⟨g,m,E,sv,z0,F,C,M,ho,x⟩:=Z.type j;obtain⟨z,sn,A,rfl⟩:=zn_ ho;have H:=zk_ z0;have I:=zk_ C
 have G:(k:Int)<(m:Int):=by omega
 refine hq_ λ D d=>?_
 have h:txT env (.mk 110 n0 tx0 [] []) t=bts [78]:=by
  conv=>lhs;unfold txT
  rw[if_pos rfl]
 rw[h] at d;have c:=q_ (show Fr w ((w.alloc (.cells (zb_ 110 n0 tx0 (.slice l 0 c1) (.slice q 0 c2)).toArray 37)).alloc (.cells #[.int .u8 (B.kind:Int),.slice z sn A] 77)) (λ _=>False) from((Fr.refl w _).alloc _).alloc _);simp only[zb_,af_] at c⊢;unfold okD at a;have J:=a.1.1;have K:=a.1.2.1;have L:=a.2.2.1;replace a:=q_ a;clear v y Z hk b ho x h j
 go_in
 go_wp2_with fail
 try go_ret
 rw[d.o];exact⟨rfl,c.o⟩
theorem zx3 (Z:ZAt w P bz ts env) (hk:isT ts k t) (d:DVal w Pd (.mk 116 n0 tx0 [] []) (zb_ 116 n0 tx0 vk vs)) (a:okD (.mk 116 n0 tx0 [] [])) :
 Calls prog 13 #[.pointer (some ⟨bz,0,none⟩),.agg (zb_ 116 n0 tx0 vk vs).toArray,.int .i64 (k:Int)] w λ e w'=>e=.returned (.string (txT env (.mk 116 n0 tx0 [] []) t))/\Fr w w' (λ _=>False):=by
 obtain⟨l,c1,rfl,v⟩:=d.keys;obtain⟨q,c2,rfl,y⟩:=d.sub;obtain⟨B,j⟩:=zdp hk;obtain⟨g,m,E,sv,z0,H,C,O,ho,x⟩:=Z.type j;obtain⟨z,sn,A,rfl⟩:=zn_ ho;have J:=zk_ z0;have K:=zk_ C
 have I:(k:Int)<(m:Int):=by omega
 refine hq_ λ D b=>?_
 have h:txT env (.mk 116 n0 tx0 [] []) t=if n0=1 then bts [84] else bts [70]:=by
  conv=>lhs;unfold txT
  rw[if_neg (by decide),if_pos rfl]
 rw[h] at b;have c:=q_ (show Fr w ((w.alloc (.cells (zb_ 116 n0 tx0 (.slice l 0 c1) (.slice q 0 c2)).toArray 37)).alloc (.cells #[.int .u8 (B.kind:Int),.slice z sn A] 77)) (λ _=>False) from((Fr.refl w _).alloc _).alloc _);simp only[zb_,af_] at c⊢;unfold okD at a;have L:=a.1.1;have M:=a.1.2.1;have N:=a.2.2.1;have F:=a.2.1 rfl;replace a:=q_ a;clear v y Z hk d ho x h j
 by_cases h1:n0=1
 ·subst h1;rw[if_pos rfl] at b
  go_in
  go_wp2_with fail
  try go_ret
  rw[b.o];exact⟨rfl,c.o⟩
 ·rw[if_neg h1] at b
  have G:(n0==1)=false:=by simp;exact h1
  go_in
  go_wp2_with fail
  try go_ret
  rw[b.o];exact⟨rfl,c.o⟩
theorem zx8 (Z:ZAt w P bz ts env) (hk:isT ts k t) (b:DVal w Pd (.mk 105 n0 tx0 [] []) (zb_ 105 n0 tx0 vk vs)) (a:okD (.mk 105 n0 tx0 [] [])) :
 Calls prog 13 #[.pointer (some ⟨bz,0,none⟩),.agg (zb_ 105 n0 tx0 vk vs).toArray,.int .i64 (k:Int)] w λ e w'=>e=.returned (.string (txT env (.mk 105 n0 tx0 [] []) t))/\Fr w w' (λ _=>False):=by
 obtain⟨q,c1,rfl,x⟩:=b.keys;obtain⟨v,c2,rfl,B⟩:=b.sub;obtain⟨E,l⟩:=zdp hk;obtain⟨g,m,H,sv,z0,I,F,N,ho,A⟩:=Z.type l;obtain⟨C,sn,D,rfl⟩:=zn_ ho;have K:=zk_ z0;have L:=zk_ F
 have J:(k:Int)<(m:Int):=by omega
 refine hq_ λ G h=>?_
 have j:txT env (.mk 105 n0 tx0 [] []) t=decB n0:=by
  conv=>lhs;unfold txT
  rw[if_neg (by decide),if_neg (by decide),if_pos (by decide)]
 rw[j] at h;have d:=q_ (show Fr w ((w.alloc (.cells (zb_ 105 n0 tx0 (.slice q 0 c1) (.slice v 0 c2)).toArray 37)).alloc (.cells #[.int .u8 (E.kind:Int),.slice C sn D] 77)) (λ _=>False) from((Fr.refl w _).alloc _).alloc _);simp only[zb_,af_] at d⊢;unfold okD at a;have y:=a.1.1;have z:=a.1.2.1;have M:=a.2.2.1;replace a:=q_ a;clear x B Z hk b ho A j l
 go_in
 go_wp2_with (go_at_call 27;refine(zcd y z).mono ?_;rintro e w1 ⟨rfl,c⟩;replace c:=q_ c)
 try go_ret
 rw[h.o];exact⟨rfl,d.o.trans c.o u_⟩
theorem zx7 (Z:ZAt w P bz ts env) (hk:isT ts k t) (b:DVal w Pd (.mk 108 n0 tx0 [] []) (zb_ 108 n0 tx0 vk vs)) (a:okD (.mk 108 n0 tx0 [] [])) :
 Calls prog 13 #[.pointer (some ⟨bz,0,none⟩),.agg (zb_ 108 n0 tx0 vk vs).toArray,.int .i64 (k:Int)] w λ e w'=>e=.returned (.string (txT env (.mk 108 n0 tx0 [] []) t))/\Fr w w' (λ _=>False):=by
 obtain⟨q,c1,rfl,x⟩:=b.keys;obtain⟨v,c2,rfl,B⟩:=b.sub;obtain⟨E,l⟩:=zdp hk;obtain⟨g,m,H,sv,z0,I,F,N,ho,A⟩:=Z.type l;obtain⟨C,sn,D,rfl⟩:=zn_ ho;have K:=zk_ z0;have L:=zk_ F
 have J:(k:Int)<(m:Int):=by omega
 refine hq_ λ G h=>?_
 have j:txT env (.mk 108 n0 tx0 [] []) t=decB n0:=by
  conv=>lhs;unfold txT
  rw[if_neg (by decide),if_neg (by decide),if_pos (by decide)]
 rw[j] at h;have d:=q_ (show Fr w ((w.alloc (.cells (zb_ 108 n0 tx0 (.slice q 0 c1) (.slice v 0 c2)).toArray 37)).alloc (.cells #[.int .u8 (E.kind:Int),.slice C sn D] 77)) (λ _=>False) from((Fr.refl w _).alloc _).alloc _);simp only[zb_,af_] at d⊢;unfold okD at a;have y:=a.1.1;have z:=a.1.2.1;have M:=a.2.2.1;replace a:=q_ a;clear x B Z hk b ho A j l
 go_in
 go_wp2_with (go_at_call 27;refine(zcd y z).mono ?_;rintro e w1 ⟨rfl,c⟩;replace c:=q_ c)
 try go_ret
 rw[h.o];exact⟨rfl,d.o.trans c.o u_⟩
theorem zx4 (Z:ZAt w P bz ts env) (hk:isT ts k t) (b:DVal w Pd (.mk 115 n0 tx0 [] []) (zb_ 115 n0 tx0 vk vs)) (a:okD (.mk 115 n0 tx0 [] [])) :
 Calls prog 13 #[.pointer (some ⟨bz,0,none⟩),.agg (zb_ 115 n0 tx0 vk vs).toArray,.int .i64 (k:Int)] w λ e w'=>e=.returned (.string (txT env (.mk 115 n0 tx0 [] []) t))/\Fr w w' (λ _=>False):=by
 obtain⟨l,c1,rfl,v⟩:=b.keys;obtain⟨q,c2,rfl,y⟩:=b.sub;obtain⟨B,j⟩:=zdp hk;obtain⟨g,m,E,sv,z0,F,C,M,ho,x⟩:=Z.type j;obtain⟨z,sn,A,rfl⟩:=zn_ ho;have H:=zk_ z0;have I:=zk_ C
 have G:(k:Int)<(m:Int):=by omega
 refine hq_ λ D d=>?_
 have h:txT env (.mk 115 n0 tx0 [] []) t=bts [34]++(tx0++bts [34]):=by
  conv=>lhs;unfold txT
  rw[if_neg (by decide),if_neg (by decide),if_neg (by decide),if_pos rfl]
 rw[h] at d;have c:=q_ (show Fr w ((w.alloc (.cells (zb_ 115 n0 tx0 (.slice l 0 c1) (.slice q 0 c2)).toArray 37)).alloc (.cells #[.int .u8 (B.kind:Int),.slice z sn A] 77)) (λ _=>False) from((Fr.refl w _).alloc _).alloc _);simp only[zb_,af_] at c⊢;unfold okD at a;have J:=a.1.1;have K:=a.1.2.1;have L:=a.2.2.1;replace a:=q_ a;clear v y Z hk b ho x h j
 go_in
 go_wp2_with fail
 try go_ret
 rw[d.o];exact⟨by rw[<- az_];rfl,c.o⟩
theorem zx9 (Z:ZAt w P bz ts env) (hk:isT ts k t) (b:DVal w Pd (.mk 102 n0 tx0 [] []) (zb_ 102 n0 tx0 vk vs)) (a:okD (.mk 102 n0 tx0 [] [])) :
 Calls prog 13 #[.pointer (some ⟨bz,0,none⟩),.agg (zb_ 102 n0 tx0 vk vs).toArray,.int .i64 (k:Int)] w λ e w'=>e=.returned (.string (txT env (.mk 102 n0 tx0 [] []) t))/\Fr w w' (λ _=>False):=by
 obtain⟨l,c1,rfl,v⟩:=b.keys;obtain⟨q,c2,rfl,y⟩:=b.sub;obtain⟨B,j⟩:=zdp hk;obtain⟨g,m,E,sv,z0,F,C,M,ho,x⟩:=Z.type j;obtain⟨z,sn,A,rfl⟩:=zn_ ho;have H:=zk_ z0;have I:=zk_ C
 have G:(k:Int)<(m:Int):=by omega
 refine hq_ λ D d=>?_
 have h:txT env (.mk 102 n0 tx0 [] []) t=bts [39]++(tx0++bts [39]):=by
  conv=>lhs;unfold txT
  rw[if_neg (by decide),if_neg (by decide),if_neg (by decide),if_neg (by decide),if_pos rfl]
 rw[h] at d;have c:=q_ (show Fr w ((w.alloc (.cells (zb_ 102 n0 tx0 (.slice l 0 c1) (.slice q 0 c2)).toArray 37)).alloc (.cells #[.int .u8 (B.kind:Int),.slice z sn A] 77)) (λ _=>False) from((Fr.refl w _).alloc _).alloc _);simp only[zb_,af_] at c⊢;unfold okD at a;have J:=a.1.1;have K:=a.1.2.1;have L:=a.2.2.1;replace a:=q_ a;clear v y Z hk b ho x h j
 go_in
 go_wp2_with fail
 try go_ret
 rw[d.o];exact⟨by rw[<- az_];rfl,c.o⟩
end
end Go.Proofs.YtiifagiebikmdaaGreatDoor
