import Derived.Test.YtahhhgbojlkjnaaGreatDoorW10
set_option maxHeartbeats 16000000
set_option maxRecDepth 100000
set_option linter.defProp false
set_option linter.unusedSimpArgs false
open Go.Proofs.Tryz
namespace Go.Proofs.YtahhhgbojlkjnaaGreatDoor
open Go.RowKit
variable {n0 c:Int}{tx0:BA}{vk vs v ex:Ax}{u:Nat}{et:As}{S:Au}
def PC(v:Int):Except Nat (DT×Nat×Nat)->Except Nat (DT×Nat×Nat)
 | .error e=>.error e
 | .ok (d,j,m)=>.ok (.mk 40 v noB [] [d],j,m)
def WR{s:BA}{env:Ay}{ts:Aq}{f p i n:Nat}{l:Af}(hn:n<300)(hl:l≠[])(h3:l.length<=300)(hR:∀t∈l,∀j nn,n+1<=nn->nn<=300->j<=s.size->wu s env ts f t j nn):wu s env ts (f+1) (.alts p l) i n:=by
 intro w P bd bz k M a9 hk;simp only[isT]at hk;obtain⟨js,hk,b9⟩:=hk;have a5:=zy (bQ b9);have a2:=zy (wB b9);obtain⟨g,m,f8,sv,z0,g6,z1,z2,ho,a8⟩:=M.Z.type hk;simp only[af_]at z1;refine hq_ λf7 Q_=>?_;have b5:=M.lt;have g8:=zo z0;have g9:=zo z1;have c2:=M.L.c2;have c3:=M.L.c3;have c4:=M.L.c4;have e2:=M.jl;have e9:=M.sl;have e3:0<l.length:=List.length_pos_iff.2 hl;obtain⟨sg,sc,e8⟩:=zu ho (by have:=a5.o;simp only;omega);subst e8;obtain⟨sa,a7⟩:∃a:Option Addr,a=some ⟨sg,0,none⟩:=⟨_,rfl⟩;obtain⟨sn,a0⟩:∃n,n=js.length:=⟨_,rfl⟩;simp only at ho a8 z2;rw[<- a7,<- a0]at ho a8 z2;replace a7:=zy a7;replace a0:=zy a0;have d2:=λX Y Z=>zJ c2 X Y Z;have d4:=λX Y Z=>zJ c4 X Y Z;have d5:=λX Y Z=>fU M.L 4 X Y Z;have g7:(k:Int)<(m:Int):=M_;have h4:¬(n:Int)+1 > 300:=M_;have M0:=zy (ke M 40 (.slice sa sn sc));have B0:=zy (fR (n:=n) b5 40 (.slice sa sn sc));have B1:=zy (wj (n:=n) b5 40 (.slice sa sn sc));have B2:=zy (fH (n:=n) b5 40 (.slice sa sn sc));replace M:=zy M;replace ho:=zy ho;replace a8:=zy a8;have d1:=zy (λ(W:World) (j n:Nat) (er:Int) (h:DAt W bd s bz j er n)=>vh (e0:=6) h);go_in;go_upto_if 39 with fail;change Code.wp _ _ _ _ (dwn w bd n 40 (.slice sa sn sc));generalize dwn w bd n 40 (.slice sa sn sc)=W0 at *;have u0:=B1.o.cell 0;have u1:=B1.o.cell 1;simp only[aa_,ab_,af_]at u0 u1;clear c2 c3 c4 d2 d4 d5 z0 z1 z2;have a7:=a7.o;have a0:=a0.o;have a5:=a5.o;have a2:=a2.o;subst a7;have b8:sn=l.length:=M_;have hz:∀(W:World) (j nn:Nat) (er:Int),XBM w P bd s bz j nn er ts env W->∀(q num:Nat),js[q]?=some num->W.cell? ⟨sg,q,none⟩=some (.int .i64 (num:Int)):=λW j nn er Q q num e=>ze (zk ho.o Q.fr (λg e h=>Q.nP (h▸a8.o g e))) (by rw[a0]) (by rw[a1_,e];rfl);have a6:rdB s env (f+1) (.alts p l) i n=vH (rdB s env f) s l i (n+1):=by rw[rdB,if_neg M_]
 have hC:=qg M0.o.L e9 e2;have b7:(sn:Int)=(l.length:Int):=M_;replace hz:=zy hz;replace a0:=zy a0;cases hb:bL s i with
 |none=>
  rw[hb]at hC;have hr:=zy (show rdB s env (f+1) (.alts p l) i n=.error 6 by rw[a6];unfold vH vu;rw[hb]);obtain⟨t,a4⟩:∃t,l[0]?=some t:=⟨_,ak_ e3⟩;obtain⟨num,a3,a1⟩:=a2 0 t a4;have h8:¬(0:Int)≥(sn:Int):=M_;have f0:sn<=300:=M_;replace hC:=zy hC;replace a3:=zy a3;replace a1:=zy a1;clear a6 hb a2 a4 b8 b7 a5;go_wp2_with (first
   |(go_at_call 47;refine hC.o.mono ?_;rintro e w1 ⟨D,rfl,j,hj,h1⟩;have U:=M0.o.call h1 D hj;have K:=D.bl B0.o M_;have N:=D.bl B1.o M_;have F:=D.bl B2.o M_;have p1:=F.cell 1;have p2:=F.th 1;simp only[zq,aa_,ab_]at p1;have G:=U.put ⟨w.heap.size+1+1,1,none⟩ (.int .i64 0) x4_;have E2:=C_ F 1 (.int .i64 0);have O:=E_ K (a:=⟨w.heap.size+2,1,none⟩) (.int .i64 0) x8_;have E1:=E_ N (a:=⟨w.heap.size+2,1,none⟩) (.int .i64 0) x8_;have t1:=E2.cell 1;have v1:=E1.cell 1;simp only[zq,aa_,ab_,an_,ao_]at t1 v1;have d7:=hz.o _ _ _ _ G 0 num a3.o;have b4:=zy (G.datum (f:=f) (t:=t) M_ (λe=>by cases e) a1.o (λe=>by cases e));replace U:=zy U;replace G:=zy G;replace K:=zy K;replace N:=zy N;replace F:=zy F;replace O:=zy O;replace E1:=zy E1;replace E2:=zy E2;replace D:=zy D)
   |(go_at_call 26;refine b4.o.mono ?_;rintro e E ⟨y,z,A,r,B,c1,x,C,c2,j3,f6,d0,rfl,V,R,a9,hJ⟩;have I:=R.bl O.o M_;have J:=R.bl E2.o M_;have M4:=(V.alloc (.cells #[.int .u8 (y:Int),.int .i64 z,.string A,.slice r B c1,.slice x C c2] 32)).alloc (.cells #[.int .u8 (y:Int),.int .i64 z,.string A,.slice r B c1,.slice x C c2] 32);have J0:=(I.alloc (.cells #[.int .u8 (y:Int),.int .i64 z,.string A,.slice r B c1,.slice x C c2] 32)).alloc (.cells #[.int .u8 (y:Int),.int .i64 z,.string A,.slice r B c1,.slice x C c2] 32);have T:=(J.alloc (.cells #[.int .u8 (y:Int),.int .i64 z,.string A,.slice r B c1,.slice x C c2] 32)).alloc (.cells #[.int .u8 (y:Int),.int .i64 z,.string A,.slice r B c1,.slice x C c2] 32);have y4:=T.cell 4;have y5:=T.th 4;have H:=C_ T 4 (.slice (some ⟨E.heap.size+1,0,none⟩) 1 1);have b:=E_ J0 (a:=⟨w.heap.size+2,4,none⟩) (.slice (some ⟨E.heap.size+1,0,none⟩) 1 1) x8_;have r0:=b.cell 0;have g0:=b.th 0;have t0:=H.cell 0;have r1:=b.cell 1;have g1:=b.th 1;have t1:=H.cell 1;have r2:=b.cell 2;have g2:=b.th 2;have t2:=H.cell 2;have r3:=b.cell 3;have g3:=b.th 3;have t3:=H.cell 3;have r4:=b.cell 4;have g4:=b.th 4;have t4:=H.cell 4;simp only[zf,zq,aa_,ab_,an_,ao_,af_]at r0 r1 r2 r3 r4 t0 t1 t2 t3 t4 y4;replace V:=zy V;replace M4:=zy M4;replace R:=zy R;replace I:=zy I;replace J:=zy J;replace J0:=zy J0;replace T:=zy T;replace b:=zy b;replace H:=zy H))
  refine zi results26 b.o (λW5 hF _=>?_);rw[Q_.o];rw[hr.o];have M5:=M4.o.put ⟨w.heap.size+1+1,4,none⟩ (.slice (some ⟨E.heap.size+1,0,none⟩) 1 1) xs_;rcases hJ.o with⟨h6,_⟩|⟨h6,_⟩|⟨_,rfl⟩
  .cases h6
  .cases h6
  .exact vL (e0:=6) D_ M5 a9 l_ ⟨_,_,_,rfl⟩ ⟨_,_,_,rfl⟩ hF rfl
 |some q=>
  obtain⟨v,j⟩:=q;have hg:=fF hb;rw[hb]at hC;by_cases hv:0<=v/\v<=(l.length:Int)-1
  .obtain⟨u,rfl⟩:∃u:Nat,v=(u:Int):=⟨v.toNat,M_⟩;obtain⟨t,a4⟩:∃t,l[u]?=some t:=⟨_,ak_ M_⟩;obtain⟨num,a3,a1⟩:=a2 u t a4;have hr:=zy (show rdB s env (f+1) (.alts p l) i n=PC (u:Int) (rdB s env f t j (n+1)) by
    rw[a6]
    unfold vH vu
    rw[hb]
    simp only
    rw[if_pos hv]
    simp only[bb_]
    rw[a4]
    simp only
    unfold PC
    cases rdB s env f t j (n+1)<;>rfl)
   have f1:¬(u:Int)<0:=M_;have f2:¬(u:Int)≥(sn:Int):=M_;have h7:(u:Int)<(sn:Int):=M_;have d6:=zy (hR t (al_ a4) j (n+1) l_ M_ hg.2.1);replace hC:=zy hC;replace a3:=zy a3;replace a1:=zy a1;clear a6 hb a2 a4 b8 b7 a5 hv;go_wp2_with (first
    |(go_at_call 47;refine hC.o.mono ?_;rintro e w1 ⟨D,rfl,hj,h1⟩;have U:=M0.o.call h1 D hj;have K:=D.bl B0.o M_;have N:=D.bl B1.o M_;have F:=D.bl B2.o M_;have p1:=F.cell 1;have p2:=F.th 1;simp only[zq,aa_,ab_]at p1;have G:=U.put ⟨w.heap.size+1+1,1,none⟩ (.int .i64 (u:Int)) x4_;have E2:=C_ F 1 (.int .i64 (u:Int));have O:=E_ K (a:=⟨w.heap.size+2,1,none⟩) (.int .i64 (u:Int)) x8_;have E1:=E_ N (a:=⟨w.heap.size+2,1,none⟩) (.int .i64 (u:Int)) x8_;have t1:=E2.cell 1;have v1:=E1.cell 1;simp only[zq,aa_,ab_,an_,ao_]at t1 v1;have d7:=hz.o _ _ _ _ G u num a3.o;have b4:=zy (G.datum (f:=f) (t:=t) M_ (λ_=>M_) a1.o (λ_=>d6.o));replace U:=zy U;replace G:=zy G;replace K:=zy K;replace N:=zy N;replace F:=zy F;replace O:=zy O;replace E1:=zy E1;replace E2:=zy E2;replace D:=zy D)
    |(go_at_call 26;refine b4.o.mono ?_;rintro e E ⟨y,z,A,r,B,c1,x,C,c2,j3,f6,d0,rfl,V,R,a9,hJ⟩;have I:=R.bl O.o M_;have J:=R.bl E2.o M_;have M4:=(V.alloc (.cells #[.int .u8 (y:Int),.int .i64 z,.string A,.slice r B c1,.slice x C c2] 32)).alloc (.cells #[.int .u8 (y:Int),.int .i64 z,.string A,.slice r B c1,.slice x C c2] 32);have J0:=(I.alloc (.cells #[.int .u8 (y:Int),.int .i64 z,.string A,.slice r B c1,.slice x C c2] 32)).alloc (.cells #[.int .u8 (y:Int),.int .i64 z,.string A,.slice r B c1,.slice x C c2] 32);have T:=(J.alloc (.cells #[.int .u8 (y:Int),.int .i64 z,.string A,.slice r B c1,.slice x C c2] 32)).alloc (.cells #[.int .u8 (y:Int),.int .i64 z,.string A,.slice r B c1,.slice x C c2] 32);have y4:=T.cell 4;have y5:=T.th 4;have H:=C_ T 4 (.slice (some ⟨E.heap.size+1,0,none⟩) 1 1);have b:=E_ J0 (a:=⟨w.heap.size+2,4,none⟩) (.slice (some ⟨E.heap.size+1,0,none⟩) 1 1) x8_;have r0:=b.cell 0;have g0:=b.th 0;have t0:=H.cell 0;have r1:=b.cell 1;have g1:=b.th 1;have t1:=H.cell 1;have r2:=b.cell 2;have g2:=b.th 2;have t2:=H.cell 2;have r3:=b.cell 3;have g3:=b.th 3;have t3:=H.cell 3;have r4:=b.cell 4;have g4:=b.th 4;have t4:=H.cell 4;simp only[zf,zq,aa_,ab_,an_,ao_,af_]at r0 r1 r2 r3 r4 t0 t1 t2 t3 t4 y4;replace V:=zy V;replace M4:=zy M4;replace R:=zy R;replace I:=zy I;replace J:=zy J;replace J0:=zy J0;replace T:=zy T;replace b:=zy b;replace H:=zy H))
   refine zi results26 b.o (λW5 hF _=>?_);rw[Q_.o];have M5:=M4.o.put ⟨w.heap.size+1+1,4,none⟩ (.slice (some ⟨E.heap.size+1,0,none⟩) 1 1) xs_;have f9:=J.o.lt;have g5:w.heap.size+2<(w1.setCell ⟨w.heap.size+1+1,1,none⟩ (.int .i64 (u:Int))).heap.size:=E2.o.lt;rcases hJ.o with⟨_,d,b6,e4,rfl,d8⟩|⟨_,e0,b6,rfl,d9⟩|⟨h6,_⟩
   .have e5:((E.alloc (.cells #[.int .u8 (y:Int),.int .i64 z,.string A,.slice r B c1,.slice x C c2] 32)).alloc (.cells #[.int .u8 (y:Int),.int .i64 z,.string A,.slice r B c1,.slice x C c2] 32)).ownsRow 0 32 5 (.slice (some ⟨E.heap.size+1,0,none⟩) 1 1) 1 (zq y z A (.slice r B c1) (.slice x C c2)):=by
     have:=World.ownsRow_lit (base:=0) (e:=32) (size:=5) (E.alloc (.cells #[.int .u8 (y:Int),.int .i64 z,.string A,.slice r B c1,.slice x C c2] 32)) #[.int .u8 (y:Int),.int .i64 z,.string A,.slice r B c1,.slice x C c2] 1 o_ zw_ rfl;have e:(E.alloc (.cells #[.int .u8 (y:Int),.int .i64 z,.string A,.slice r B c1,.slice x C c2] 32)).heap.size=E.heap.size+1:=x8_
     rw[e]at this;exact this
    have e1:Fr E (World.setCell ((E.alloc (.cells #[.int .u8 (y:Int),.int .i64 z,.string A,.slice r B c1,.slice x C c2] 32)).alloc (.cells #[.int .u8 (y:Int),.int .i64 z,.string A,.slice r B c1,.slice x C c2] 32)) ⟨w.heap.size+1+1,4,none⟩ (.slice (some ⟨E.heap.size+1,0,none⟩) 1 1)) (λg=>g=w.heap.size+2):=((((A_ E (λg=>g=w.heap.size+2)).alloc _).alloc _).setCell _ _ (λ_=>rfl));have e6:=zk e5 ((A_ _ (λg=>g=w.heap.size+2)).setCell ⟨w.heap.size+1+1,4,none⟩ (.slice (some ⟨E.heap.size+1,0,none⟩) 1 1) (λ_=>rfl)) (λg hg e=>by simp only[Value.ownBlock,ae_]at hg;omega);rw[hr.o,b6];refine qN M5 e4 l_ (zF.one ((d8.fr e1 (λg hg e=>M_)).mono (λg _ hg=>M_)) (E.heap.size+1) M_ e6 40 (u:Int) noB) ⟨_,_,_,rfl⟩ ⟨_,_,_,rfl⟩ hF rfl
   .rw[hr.o,b6];exact vL d9 M5 a9 l_ ⟨_,_,_,rfl⟩ ⟨_,_,_,rfl⟩ hF rfl
   .exact absurd rfl h6
  .have hr:=zy (show rdB s env (f+1) (.alts p l) i n=.error 6 by rw[a6];unfold vH vu;rw[hb];simp only;rw[if_neg hv]);by_cases f1:v<0;all_goals (try have f2:v≥(sn:Int):=by omega)
   all_goals
    replace hC:=zy hC;clear a6 hb a2 b8 b7 a5 hv;go_wp2_with (first
     |(go_at_call 47;refine hC.o.mono ?_;rintro e w1 ⟨D,rfl,hj,h1⟩;have U:=M0.o.call h1 D hj;have K:=D.bl B0.o M_;have N:=D.bl B1.o M_;have F:=D.bl B2.o M_;have p1:=F.cell 1;have p2:=F.th 1;simp only[zq,aa_,ab_]at p1;have G:=U.put ⟨w.heap.size+1+1,1,none⟩ (.int .i64 v) x4_;have E2:=C_ F 1 (.int .i64 v);have O:=E_ K (a:=⟨w.heap.size+2,1,none⟩) (.int .i64 v) x8_;have E1:=E_ N (a:=⟨w.heap.size+2,1,none⟩) (.int .i64 v) x8_;have t1:=E2.cell 1;have v1:=E1.cell 1;simp only[zq,aa_,ab_,an_,ao_]at t1 v1;replace U:=zy U;replace G:=zy G;replace K:=zy K;replace N:=zy N;replace F:=zy F;replace O:=zy O;replace E1:=zy E1;replace E2:=zy E2;replace D:=zy D)
     |(go_at_call 45;refine(d1.o _ _ _ _ G.o.L).mono ?_;rintro e w2 ⟨rfl,h2,F2⟩;have V:=G.o.call h2 F2 G.o.jl;have I:=F2.bl O.o M_;have J:=F2.bl E2.o M_;obtain⟨r0,r1,r2,r3,r4⟩:=I.f5;obtain⟨t0,t1,t2,t3,t4⟩:=J.f5;obtain⟨g0,g1,g2,g3,g4⟩:=I.t5;simp only[zf,zq,aa_,ab_,an_,ao_,af_]at r0 r1 r2 r3 r4 t0 t1 t2 t3 t4;replace V:=zy V;replace I:=zy I;replace J:=zy J;replace F2:=zy F2))
    refine zi results26 I.o (λW5 hF _=>?_);rw[Q_.o];rw[hr.o];exact wL D_ V.o M_ ⟨_,_,_,rfl⟩ ⟨_,_,_,rfl⟩ hF rfl
mutual
def xM:PT->Prop
 | .leaf _ _=>True
 | .wrap _ _ t=>xM t
 | .alts _ l=>l.length<=300/\lA l
def lA:List PT->Prop
 | []=>True
 |t::r=>xM t/\lA r
end
def wy:∀{l:List PT},lA l->∀t∈l,xM t
 | [],_,t,h=>by cases h
 |x::r,h,t,a=>by
  unfold lA at h;rcases aq_.1 a with rfl|a
  .exact h.1
  .exact wy h.2 t a
def uM(env:Ay):Prop:=∀c fs,env c=some (.recd fs)->fs.length<=300/\∀g∈fs,xM g.ty
def FS{s:BA}{env:Ay}{ts:Aq}(r:jr env)(m:uM env):∀(f:Nat) (t:PT) (i n:Nat),okT env t->xM t->n<=300->i<=s.size->301<=f+n->wu s env ts f t i n:=by
 intro f;induction f with
 |zero=>intro t i n _ _ h1 _ e;omega
 |succ f ih=>
  intro t i n b d hn q hm;by_cases q:300<=n
  .exact FN q
  have a:n<300:=M_;have next:∀u,okT env u->xM u->∀j nn,n+1<=nn->nn<=300->j<=s.size->wu s env ts f u j nn:=λu hu y j nn h1 e q=>ih u j nn hu y e q M_;cases t with
  |leaf c p=>
   unfold okT at b;rcases b with hb|⟨x,pb,he⟩
   .simp only[zY,av_,beq_iff_eq]at hb;rcases hb with(((rfl|rfl)|rfl)|rfl)|rfl
    .exact BH a
    .exact BM a
    .exact BD a
    .exact BR a
    .exact BC a
   .have hB:=r c pb he;refine WH a x he ?_;cases pb with
    |recd fs=>exact KD (λg hg=>next g.ty (hB g hg) ((m c fs he).2 g hg)) (by have:=(m c fs he).1;omega)
    |enum l o=>exact KT hB.2
    |bytes k=>exact JF hB
  |wrap c p t=>
   unfold okT at b;unfold xM at d;rcases b.1 with rfl|rfl
   .exact Vr a (next t b.2 d)
   .exact ZF a (next t b.2 d)
  |alts p l=>
   unfold okT at b;unfold xM at d;exact WR a b.1 d.1 (λt h=>next t (xC b.2 t h).2 (wy d.2 t h))
def rG(w:Aw)(r:Except Nat (DT×Nat×Nat))(e:Ah)(w':Aw):Prop:=
 ∃(k:Nat) (n:Int) (tx:BA) (a1:Option Addr) (m1 c1:Nat) (a2:Option Addr) (m2 c2:Nat) (j er:Nat),e=.returned (.tuple #[.agg (zq k n tx (.slice a1 m1 c1) (.slice a2 m2 c2)).toArray,I_ j,I_ er])/\Fr w w' N_/\
 match r with
 | .error e0=>e0≠0/\er=e0/\j=0
 | .ok (d,j',_)=>er=0/\j=j'/\zF w' (λg=>w.heap.size<=g) d (zq k n tx (.slice a1 m1 c1) (.slice a2 m2 c2))
def cI{w:Aw}{bz:Nat}{s:BA}(hs:4000<s.size):Calls prog 12 #[P_ bz,.string s] w (rG w (.error 1)):=by
 refine hq_ λa a=>?_;have b:(4000:Int)<(s.size:Int):=M_;go_in;go_wp2;refine bodyPost_ret (v:=.tuple #[.agg (zq 0 0 noB (L_) (L_)).toArray,O_,Z_ 1]) (by simp[results,results12,go_sem,zq];rfl) rfl ?_;rw[a.o];exact⟨0,0,noB,none,0,0,none,0,0,0,1,rfl,(A_ w _).alloc _,D_,rfl,rfl⟩
def cwrS1_{p:Prop}(h:p:=by
 (try have:=cc1;obtain⟨d,j,mm⟩:=q)
 rw[hrd]at hC Q_;replace hC:=zy hC;replace hrd:=zy hrd;go_in;go_upto_region 5 with(go_at_call 26;apply(show Calls _ _ _ ((w.alloc (.cells zf.toArray _)).alloc _) _ from hwz.o▸hC.o).mono;intro e w2 hQ;rw[<- hwz.o]at hQ;(first|(have:=cc1;obtain⟨dk,dn,dtx,vk,vs,rfl,⟨a1,m1,c1,rfl⟩,⟨a2,m2,c2,rfl⟩,F2,hj,hmm,L2,V2⟩:=hQ)|(obtain⟨dk,dn,dtx,vk,vs,rfl,⟨a1,m1,c1,rfl⟩,⟨a2,m2,c2,rfl⟩,F2,he0,j,mm,hj,hmm,L2⟩:=hQ));have D2:=zy (F2.bl B0.o M_);(try have:=cc1;replace V2:=zy V2);replace F2:=zy F2;replace L2:=zy L2;simp only[zq]);have hz2:=F2.o.size;change Code.wp _ _ _ _ (w2.alloc (.cells #[U_ dk,Z_ dn,.string dtx,.slice a1 m1 c1,.slice a2 m2 c2] 32));have A3:=(A_ w2 N_).alloc (.cells #[U_ dk,Z_ dn,.string dtx,.slice a1 m1 c1,.slice a2 m2 c2] 32);have L3:=A3.bl L2.o id;have D3:=A3.bl D2.o id;have X3:=B_ w2 #[U_ dk,Z_ dn,.string dtx,.slice a1 m1 c1,.slice a2 m2 c2] 32;have F3:Fr w (w2.alloc (.cells #[U_ dk,Z_ dn,.string dtx,.slice a1 m1 c1,.slice a2 m2 c2] 32)) N_:=(F0'.o.trans F2.o (λx hx e=>M_)).alloc _;generalize w2.alloc (.cells #[U_ dk,Z_ dn,.string dtx,.slice a1 m1 c1,.slice a2 m2 c2] 32)=W3 at *;generalize hbx:w2.heap.size=bx at *;have e1:=DAt.c1 L3;have e2:=DAt.c2 L3;(first|(have:=cc1;obtain⟨x0,x1,x2,x3,x4⟩:=X3.f5)|(have hne:((e0:Int)==0)=false:=by simp;exact he0))
 have r0:=D3.cell 0;have g0:=D3.th 0;have r1:=D3.cell 1;have g1:=D3.th 1;have r2:=D3.cell 2;have g2:=D3.th 2;have r3:=D3.cell 3;have g3:=D3.th 3;have r4:=D3.cell 4;have g4:=D3.th 4;(first|(have:=cc1;simp only[zf,zq,aa_,ab_,af_]at r0 r1 r2 r3 r4 x0 x1 x2 x3 x4)|(simp only[zf,zq,aa_,ab_,af_]at r0 r1 r2 r3 r4));replace L3:=zy L3;replace D3:=zy D3;replace F3:=zy F3;replace X3:=zy X3;replace A3:=zy A3;replace hbx:=zy hbx;go_wp2;(first|(have:=cc1;refine tR_ (λW=>z_ W (w.heap.size+1) 1 (I_ j)/\z_ W bx 0 (U_ dk)/\z_ W bx 1 (Z_ dn)/\z_ W bx 2 (.string dtx)/\z_ W bx 3 (.slice a1 m1 c1)/\z_ W bx 4 (.slice a2 m2 c2)) ?_)|(refine tR_ (λW=>z_ W (w.heap.size+1) 2 (I_ e0)) ?_));refine tY_ 0 ?_;refine tY_ 1 ?_;refine tY_ 2 ?_;refine tY_ 3 ?_;refine tY_ 4 ?_;(first|(have:=cc1;refine zd 5 rfl K_ ⟨e1,x0,x1,x2,x3,x4⟩ (λK1 hK1=>?_))|(refine zd 5 rfl K_ e2 (λK1 hK1=>?_)));go_simp;refine hK1 _ _ ?_;clear hK1 K1;(first|(have:=cc1;have hF5:=Fr.fi W3 w.heap.size (U_ dk) (Z_ dn) (.string dtx) (.slice a1 m1 c1) (.slice a2 m2 c2))|(have hF5:=Fr.fi W3 w.heap.size (.int .u8 0) (O_) (.string noB) (L_) (L_)));(first|(have:=cc1;have B5:=Blk.fi D3.o (U_ dk) (Z_ dn) (.string dtx) (.slice a1 m1 c1) (.slice a2 m2 c2))|(have B5:=Blk.fi D3.o (.int .u8 0) (O_) (.string noB) (L_) (L_)));have L5:=hF5.bl L3.o M_
 (try have:=cc1;have X5:=hF5.bl X3.o (by have:=hbx.o;omega))
 (first|(have:=cc1;change yW _ _ _ _ _ _ _ _ (World.drew (World.setCell (World.setCell (World.setCell (World.setCell (World.setCell W3 ⟨w.heap.size,0,none⟩ (U_ dk)) ⟨w.heap.size,1,none⟩ (Z_ dn)) ⟨w.heap.size,2,none⟩ (.string dtx)) ⟨w.heap.size,3,none⟩ (.slice a1 m1 c1)) ⟨w.heap.size,4,none⟩ (.slice a2 m2 c2))))|(change yW _ _ _ _ _ _ _ _ (World.drew (World.setCell (World.setCell (World.setCell (World.setCell (World.setCell W3 ⟨w.heap.size,0,none⟩ (.int .u8 0)) ⟨w.heap.size,1,none⟩ (O_)) ⟨w.heap.size,2,none⟩ (.string noB)) ⟨w.heap.size,3,none⟩ (L_)) ⟨w.heap.size,4,none⟩ (L_)))));(first|(have:=cc1;generalize (World.setCell (World.setCell (World.setCell (World.setCell (World.setCell W3 ⟨w.heap.size,0,none⟩ (U_ dk)) ⟨w.heap.size,1,none⟩ (Z_ dn)) ⟨w.heap.size,2,none⟩ (.string dtx)) ⟨w.heap.size,3,none⟩ (.slice a1 m1 c1)) ⟨w.heap.size,4,none⟩ (.slice a2 m2 c2))=W5 at *)|(generalize (World.setCell (World.setCell (World.setCell (World.setCell (World.setCell W3 ⟨w.heap.size,0,none⟩ (.int .u8 0)) ⟨w.heap.size,1,none⟩ (O_)) ⟨w.heap.size,2,none⟩ (.string noB)) ⟨w.heap.size,3,none⟩ (L_)) ⟨w.heap.size,4,none⟩ (L_))=W5 at *));obtain⟨q0,q1,q2,q3,q4⟩:=B5.d5;have hF6:=zy hF5;refine tY_ 6 ?_;refine tY_ 7 ?_;(first|(have:=cc1;refine zV K_ ⟨DAt.c1 L5,(X5.cell 0),(X5.cell 1),(X5.cell 2),(X5.cell 3),(X5.cell 4)⟩ ?_ _)|(refine zV K_ (DAt.c2 L5) ?_ _));(first|(have:=cc1;clear L5 X5 B5 hF5)|(clear L5  B5 hF5));go_wp2;(first|(have:=cc1;refine bodyPost_ret (v:=.tuple #[.agg (zq dk dn dtx (.slice a1 m1 c1) (.slice a2 m2 c2)).toArray,I_ j,O_]) yj_ rfl ?_)|(refine bodyPost_ret (v:=.tuple #[.agg (zq 0 0 noB (L_) (L_)).toArray,O_,I_ e0]) yj_ rfl ?_));rw[Q_.o];(first|(have:=cc1;have hV:zF W3 (λg=>wz.heap.size<=g) d (zq dk dn dtx (.slice a1 m1 c1) (.slice a2 m2 c2)):=V2.o.fr A3.o u_;exact⟨dk,dn,dtx,a1,m1,c1,a2,m2,c2,j,0,rfl,(F3.o.trans hF6.o (λx hx e=>M_)).drew,rfl,rfl,((hV.fr hF6.o (λg hg e=>M_)).fr ((A_ W5 N_).drew) u_).mono (λg _ hg=>M_)⟩)|(exact⟨0,0,noB,none,0,0,none,0,0,0,e0,rfl,(F3.o.trans hF6.o (λx hx e=>M_)).drew,he0,rfl,rfl⟩))):p:=h
def rS{w:Aw}{P:Au}{s:BA}{bz:Nat}{ts:Aq}{env:Ay}{k:Nat}{t:PT}(Z:ZAt w P bz ts env)(hP:∀g,P g->g<w.heap.size)(hs:s.size<=4000)(hc:w.cell? ⟨bz,31,none⟩=some (I_ k))(hk:isT ts k t)(l:wu s env ts 301 t 0 0):Calls prog 12 #[P_ bz,.string s] w (rG w (rdB s env 301 t 0 0)):=by
 refine hq_ λa Q_=>?_;have a:¬(4000:Int)<(s.size:Int):=M_;obtain⟨wz,hwz⟩:=e_ ((w.alloc (.cells zf.toArray 32)).alloc (.cells #[.string s,O_,O_,P_ bz,O_] 88));have a:Fr w wz N_:=hwz▸((A_ w _).alloc _).alloc _;have b:wz.heap.size=w.heap.size+2:=by rw[hwz];simp
 have B0:Blk wz w.heap.size zf 32:=hwz▸(B_ w _ _).alloc _;have b:DAt wz (w.heap.size+1) s bz 0 0 0:=by
  have:=B_ (w.alloc (.cells zf.toArray 32)) #[.string s,O_,O_,P_ bz,O_] 88;rw[show(w.alloc (.cells zf.toArray 32)).heap.size=w.heap.size+1 by simp]at this;rw[hwz];exact this
 have f:XBM wz P (w.heap.size+1) s bz 0 0 0 ts env wz:=⟨b,Z.fr a u_,λh=>by have:=hP _ h;omega,λg hg=>by have:=hP g hg;omega,M_,A_ _ _,aj_ _,hs⟩;have hC:=l wz P (w.heap.size+1) bz k f M_ hk;have m:=World.block_lt_of_cell? w ⟨bz,31,none⟩ hc;replace hwz:=zy hwz;have F0':=zy a;replace B0:=zy B0;cases hrd:rdB s env 301 t 0 0 with
 |error e0=>
  exact cwrS1_
 |ok q=>
  have cc1:=Nat;exact cwrS1_
def pe(h:u<10):xK (u:Int)=bts [48+u]:=by
 unfold xK bts;rw[Lib.itoa_nonneg,Lib.decDigits_one h];rfl
def ah(h:¬u<10):xK (u:Int)=xK ((u / 10:Nat):Int)++bts [48+u % 10]:=by
 unfold xK bts;rw[Lib.itoa_nonneg,Lib.itoa_nonneg,Lib.decDigits,dif_neg h];apply bx_;simp
def Qr(h:1<=u):xK (-(u:Int))=bts [45]++xK (u:Int):=by
 unfold xK bts;rw[Lib.itoa_neg u h,Lib.itoa_nonneg];apply bx_;simp
section
variable {w:Aw}
def Qh:∀(d u:Nat),u<=d->u<=9223372036854775807->∀w:World,Calls prog 15 #[I_ u] w λe w'=>e=.returned (.string (xK (u:Int)))/\Fr w w' N_:=by
 intro d;induction d with
 |zero=>
  intro u hu h1 w;obtain rfl:u=0:=M_;refine hq_ λm a=>?_;have l:=ai w 48 48 rfl;go_in;go_wp2;try go_ret
  rw[a.o,pe M_];exact⟨rfl,(A_ w _).alloc _⟩
 |succ d ih=>
  intro u hu h1 w;refine hq_ λm a=>?_;have d:¬(u:Int)<0:=M_;by_cases h:u<10
  .have p:(u:Int)<10:=M_;have l:=ai w (48+u) (48+(u:Int)) M_;rw[pe h]at a;go_in;go_wp2;try go_ret
   rw[a.o];exact⟨rfl,(A_ w _).alloc _⟩
  .have p:¬(u:Int)<10:=M_;rw[ah h]at a;have b:=ih (u / 10) M_ M_ w;have j:=wq (n:=((u / 10:Nat):Int)) M_ M_;rw[show((u / 10:Nat):Int)=(u:Int) / 10 by omega]at b j a;obtain⟨D,f⟩:=e_ (xK ((u:Int) / 10));rw[<- f]at b j a;replace b:=zy b;replace f:=zy f;have d:(bts [48+u % 10]).size<=1:=by rw[zE];exact l_
   go_in;go_wp2_with (go_at_call 15;apply b.o.mono;rintro e w1 ⟨rfl,g⟩;have l:=ai w1 (48+u % 10) (48+(u:Int) % 10) M_;replace g:=zy g);try go_ret
   rw[a.o];exact⟨rfl,g.o.alloc _⟩
def gP{n:Int}(h0 : -9223372036854775808<=n)(h1:n<=9223372036854775807):Calls prog 15 #[Z_ n] w λe w'=>e=.returned (.string (xK n))/\Fr w w' N_:=by
 by_cases hn:n<0;case neg=>
  obtain⟨u,rfl⟩:∃u:Nat,n=(u:Int):=⟨n.toNat,M_⟩;exact Qh u u l_ M_ w
 refine hq_ λm f=>?_;obtain⟨u,hu⟩:∃u:Nat,n = -(u:Int):=⟨n.natAbs,M_⟩;have b:=Qh (u / 10) (u / 10) l_ M_ w;have m:n.tdiv 10 = -((u / 10:Nat):Int):=by rw[hu,Int.neg_tdiv];rfl
 have hr:n.tmod 10 = -((u % 10:Nat):Int):=by rw[hu,Int.neg_tmod];rfl
 have h:=wq (n:=((u / 10:Nat):Int)) M_ M_;rw[show((u / 10:Nat):Int)=(u:Int) / 10 by omega]at b h m;rw[show((u % 10:Nat):Int)=(u:Int) % 10 by omega]at hr;have m:=zy (show 1<=u by omega);have q:u<=9223372036854775808:=M_;have hb:xK n=bts [45]++xK (u:Int):=by rw[hu];exact Qr m
 rw[hb]at f;have m:(bts [48+u % 10]).size<=1:=by rw[zE];exact l_
 obtain⟨D,d⟩:=e_ (xK ((u:Int) / 10));rw[<- d]at b h;replace b:=zy b;have h:=zy (rfl:(⟨#[45]⟩:BA)=bts [45]);by_cases g:u<10
 .have l : -10<n:=M_;rw[pe g]at f;have j:H_ (u % 10=u):=zy (cg_ g);replace hu:=zy hu;replace d:=zy d;go_in;go_wp2_with (go_at_call 15;apply b.o.mono;rintro e w1 ⟨rfl,a⟩;have p:=ai w1 (48+u % 10) (48+(u:Int) % 10) M_;replace a:=zy a);try go_ret
  rw[f.o];exact⟨by rw[j.o];rfl,a.o.alloc _⟩
 .have l:¬ -10<n:=M_;rw[ah g,show((u / 10:Nat):Int)=(u:Int) / 10 by omega,<- d]at f;replace hu:=zy hu;replace d:=zy d;go_in;go_wp2_with (go_at_call 15;apply b.o.mono;rintro e w1 ⟨rfl,a⟩;have p:=ai w1 (48+u % 10) (48+(u:Int) % 10) M_;replace a:=zy a);try go_ret
  rw[f.o];exact⟨by rw[<- be_];rfl,a.o.alloc _⟩
end
inductive gO (env:Ay):DT->PT->Prop
 |flat {k:Nat} {n:Int} {tx:BA} {t:PT} (h:k=110\/k=116\/k=105\/k=108\/k=115\/k=102):gO env (.mk k n tx [] []) t
 |wrap {c p:Nat} {u:PT} {ks:List BA} {ds:List DT} (h:∀(i:Nat) (d:DT),ds[i]?=some d->gO env d u):gO env (.mk c 0 noB ks ds) (.wrap c p u)
 |alts {n p:Nat} {l:List PT} {u:PT} {d:DT} (hl:l[n]?=some u) (h:gO env d u):gO env (.mk 40 (n:Int) noB [] [d]) (.alts p l)
 |sym {c p n:Nat} {l:List (Nat×Nat)} {o:Option (Nat×Nat)} (he:env c=some (.enum l o)) (hb:¬zY c=true) (hn:n<l.length):gO env (.mk 101 (n:Int) noB [] []) (.leaf c p)
 |recd {c p:Nat} {fs:List PF} {ds:List DT} (he:env c=some (.recd fs)) (hb:¬zY c=true) (hl:ds.length=fs.length) (h:∀(i:Nat) (d:DT) (g:PF),ds[i]?=some d->fs[i]?=some g->gO env d g.ty):gO env (.mk 114 0 noB [] ds) (.leaf c p)
def QO(env:Ay)(R:Nat->Nat->Except Nat (DT×Nat×Nat))(t:PT):Prop:=∀i n d j m,R i n=.ok (d,j,m)->gO env d t/\m=n+ndT d
def mM{env:Ay}{s:BA}{R:Nat->Nat->Except Nat (DT×Nat×Nat)}{t:PT}(b:QO env R t){keyed:Ap}:∀(c:Nat) (a:Option BA) (i n:Nat) (l:List (BA×DT)) (j m:Nat),yS R s keyed c a i n=.ok (l,j,m)->(∀e∈l,gO env e.2 t)/\m=n+zM (l.map Prod.snd)
 | 0,a,i,n,l,j,m,h=>by
  simp only[yS,ag_,ac_]at h;obtain⟨rfl,rfl,rfl⟩:=h;simp[zM]
 |c+1,a,i,n,l,j,m,h=>by
  unfold yS at h;split at h
  .simp at h
  .rename_i k o hk;split at h
   .simp at h
   .rename_i d p x hd;have f:=b _ _ _ _ _ hd;split at h
    .simp at h
    .rename_i q j' r he;have g:=mM b c _ _ _ _ _ _ he;simp only[ag_,ac_]at h;obtain⟨rfl,rfl,rfl⟩:=h;refine⟨λe he=>?_,?_⟩
     .rcases aq_.1 he with rfl|he
      .exact f.1
      .exact g.1 e he
     .simp only[aw_,zM];omega
def bE{env:Ay}{R:PT->Nat->Nat->Except Nat (DT×Nat×Nat)}(o:∀t,QO env (R t) t):∀(fs:List PF) (i n:Nat) (l:List DT) (j m:Nat),ym R (fs.map PF.ty) i n=.ok (l,j,m)->l.length=fs.length/\(∀(i:Nat) (d:DT) (g:PF),l[i]?=some d->fs[i]?=some g->gO env d g.ty)/\m=n+zM l
 | [],i,n,l,j,m,h=>by
  simp only[a5_,ym,ag_,ac_]at h;obtain⟨rfl,rfl,rfl⟩:=h;simp[zM]
 |f::r,i,n,l,j,m,h=>by
  simp only[aw_]at h;unfold ym at h;split at h
  .simp at h
  .rename_i d y B hd;have p:=o f.ty _ _ _ _ _ hd;split at h
   .simp at h
   .rename_i z j' A he;have x:=bE o r _ _ _ _ _ he;simp only[ag_,ac_]at h;obtain⟨rfl,rfl,rfl⟩:=h;refine⟨by simp only[au_];omega,λq e g a b=>?_,by simp only[zM];omega⟩;cases q with
    |zero=>
     simp only[aa_,ae_]at a b;subst a b;exact p.1
    |succ q=>
     simp only[ab_]at a b;exact x.2.1 q e g a b
def iN(s:BA)(env:Ay):∀(f:Nat) (t:PT),QO env (rdB s env f t) t:=by
 intro f;induction f with
 |zero=>intro t i n d j m h;simp[rdB]at h
 |succ f ih=>
  intro t i n d j m h;unfold rdB at h;split at h
  .simp at h
  .rename_i B;split at h
   .rename_i c p;unfold vO at h;split at h
    .simp only[ag_,ac_]at h;obtain⟨rfl,rfl,rfl⟩:=h;exact⟨.flat M_,by simp[ndT,zM]⟩
    .split at h
     .split at h
      .simp only[ag_,ac_]at h;obtain⟨rfl,rfl,rfl⟩:=h;exact⟨.flat M_,by simp[ndT,zM]⟩
      .simp at h
     .split at h
      .split at h
       .simp at h
       .simp only[ag_,ac_]at h;obtain⟨rfl,rfl,rfl⟩:=h;exact⟨.flat M_,by simp[ndT,zM]⟩
      .split at h
       .split at h
        .simp at h
        .simp only[ag_,ac_]at h;obtain⟨rfl,rfl,rfl⟩:=h;exact⟨.flat M_,by simp[ndT,zM]⟩
       .split at h
        .split at h
         .simp at h
         .simp only[ag_,ac_]at h;obtain⟨rfl,rfl,rfl⟩:=h;exact⟨.flat M_,by simp[ndT,zM]⟩
        .split at h
         .simp at h
         .rename_i pb o;have g:¬zY c=true:=by
           intro hb;simp only[zY,av_,beq_iff_eq]at hb;omega
          unfold yX at h;split at h
          .split at h
           .simp at h
           .rename_i ds b C he;have a:=bE ih _ _ _ _ _ _ he;simp only[ag_,ac_]at h;obtain⟨rfl,rfl,rfl⟩:=h;exact⟨.recd o g a.1 a.2.1,by simp only[ndT];omega⟩
          .split at h
           .simp at h
           .rename_i q b he;have a:=yU he;simp only[ag_,ac_]at h;obtain⟨rfl,rfl,rfl⟩:=h;obtain⟨k,rfl⟩:∃k:Nat,q=(k:Int):=⟨q.toNat,M_⟩;exact⟨.sym o g M_,by simp[ndT,zM]⟩
          .split at h
           .simp at h
           .simp only[ag_,ac_]at h;obtain⟨rfl,rfl,rfl⟩:=h;exact⟨.flat M_,by simp[ndT,zM]⟩
   .rename_i c p t;unfold qi at h;split at h
    .simp at h
    .rename_i q b he;split at h
     .simp at h
     .rename_i l y z hl;have a:=mM (ih t) _ _ _ _ _ _ _ hl;simp only[ag_,ac_]at h;obtain⟨rfl,rfl,rfl⟩:=h;refine⟨.wrap (λi d e=>?_),by simp only[ndT];omega⟩;rw[a1_]at e;obtain⟨x,hx,rfl⟩:=b9_.1 e;exact a.1 x (al_ hx)
   .rename_i p ts;unfold vH at h;split at h
    .simp at h
    .rename_i q b he;have h1:=yU he;split at h
     .simp at h
     .rename_i t r;split at h
      .simp at h
      .rename_i A y z hd;have a:=ih t _ _ _ _ _ hd;simp only[ag_,ac_]at h;obtain⟨rfl,rfl,rfl⟩:=h;obtain⟨k,rfl⟩:∃k:Nat,q=(k:Int):=⟨q.toNat,M_⟩;exact⟨.alts (by simpa using r) a.1,by simp only[ndT,zM];omega⟩
def fV{ts:Aq}{k:Nat}{t:PT}(h:isT ts k t):∃a,ts[k]?=some a:=by
 cases t with
 |leaf c p=>unfold isT at h;exact⟨_,h⟩
 |wrap c p u=>unfold isT at h;obtain⟨j,h,_⟩:=h;exact⟨_,h⟩
 |alts p l=>unfold isT at h;obtain⟨j,h,_⟩:=h;exact⟨_,h⟩
section
variable {w:Aw} {P Pd:Au} {bz k:Nat} {ts:Aq} {env:Ay} {t:PT}
def cq15_{p:Prop}(h:p:=by
 obtain⟨d,c1,rfl,r⟩:=hD.keys;obtain⟨e,c2,rfl,y⟩:=hD.sub;obtain⟨l,q⟩:=fV hk;obtain⟨g,m,B,sv,z0,C,z,J,ho,x⟩:=Z.type q;obtain⟨f,sn,j,rfl⟩:=zW ho;have E:=zo z0;have F:=zo z;have D:(k:Int)<(m:Int):=M_;refine hq_ λA n=>?_;(first|(have:=cc1;refine have b:txT env (.mk 102 n0 tx0 [] []) t=bts [39]++(tx0++bts [39]):=?_;?_)|(have:=cc2;refine have b:txT env (.mk 110 n0 tx0 [] []) t=bts [78]:=?_;?_)|(refine have b:txT env (.mk 115 n0 tx0 [] []) t=bts [34]++(tx0++bts [34]):=?_;?_))
 .conv=>lhs;unfold txT
  (first|(have:=cc1;rw[n_ D_,n_ D_,n_ D_,n_ D_,i_ rfl])|(have:=cc2;rw[i_ rfl])|(rw[n_ D_,n_ D_,n_ D_,i_ rfl]))
 rw[b]at n;(first|(have:=cc1;have a:=zy (show Fr w ((w.alloc (.cells (zq 102 n0 tx0 (.slice d 0 c1) (.slice e 0 c2)).toArray 32)).alloc (.cells #[U_ l.kind,.slice f sn j] 57)) N_ from((A_ w _).alloc _).alloc _))|(have:=cc2;have a:=zy (show Fr w ((w.alloc (.cells (zq 110 n0 tx0 (.slice d 0 c1) (.slice e 0 c2)).toArray 32)).alloc (.cells #[U_ l.kind,.slice f sn j] 57)) N_ from((A_ w _).alloc _).alloc _))|(have a:=zy (show Fr w ((w.alloc (.cells (zq 115 n0 tx0 (.slice d 0 c1) (.slice e 0 c2)).toArray 32)).alloc (.cells #[U_ l.kind,.slice f sn j] 57)) N_ from((A_ w _).alloc _).alloc _)));simp only[zq,af_]at a⊢;unfold okD at hok;have G:=hok.1.1;have H:=hok.1.2.1;have I:=hok.2.2.1;replace hok:=zy hok;clear r y Z hk hD ho x b q;go_in;go_wp2;try go_ret
 rw[n.o];(first|(have:=cc2;exact⟨rfl,a.o⟩)|(exact⟨by rw[<- be_];rfl,a.o⟩))):p:=h
def Fx(Z:ZAt w P bz ts env)(hk:isT ts k t)(hD:zF w Pd (.mk 110 n0 tx0 [] []) (zq 110 n0 tx0 vk vs))(hok:okD (.mk 110 n0 tx0 [] [])):Calls prog 8 #[P_ bz,.agg (zq 110 n0 tx0 vk vs).toArray,I_ k] w λe w'=>e=.returned (.string (txT env (.mk 110 n0 tx0 [] []) t))/\Fr w w' N_:=by
 have cc2:=Nat
 exact cq15_
def GA(Z:ZAt w P bz ts env)(hk:isT ts k t)(f:zF w Pd (.mk 116 n0 tx0 [] []) (zq 116 n0 tx0 vk vs))(a:okD (.mk 116 n0 tx0 [] [])):Calls prog 8 #[P_ bz,.agg (zq 116 n0 tx0 vk vs).toArray,I_ k] w λe w'=>e=.returned (.string (txT env (.mk 116 n0 tx0 [] []) t))/\Fr w w' N_:=by
 obtain⟨l,c1,rfl,p⟩:=f.keys;obtain⟨n,c2,rfl,r⟩:=f.sub;obtain⟨z,j⟩:=fV hk;obtain⟨g,m,A,sv,z0,A,h,A,ho,q⟩:=Z.type j;obtain⟨x,sn,y,rfl⟩:=zW ho;have A:=zo z0;have A:=zo h;have h:(k:Int)<(m:Int):=M_;refine hq_ λh b=>?_;have h:txT env (.mk 116 n0 tx0 [] []) t=if n0=1 then bts [84] else bts [70]:=by
  conv=>lhs;unfold txT
  rw[n_ D_,i_ rfl]
 rw[h]at b;have d:=zy (show Fr w ((w.alloc (.cells (zq 116 n0 tx0 (.slice l 0 c1) (.slice n 0 c2)).toArray 32)).alloc (.cells #[U_ z.kind,.slice x sn y] 57)) N_ from((A_ w _).alloc _).alloc _);simp only[zq,af_]at d⊢;unfold okD at a;have l:=a.1.1;have l:=a.1.2.1;have l:=a.2.2.1;have l:=a.2.1 rfl;replace a:=zy a;by_cases h1:n0=1
 .subst h1;rw[i_ rfl]at b;go_in;go_wp2;try go_ret
  rw[b.o];exact⟨rfl,d⟩
 .rw[n_ h1]at b;have a:(n0==1)=false:=by simp;exact h1
  go_in;go_wp2;try go_ret
  rw[b.o];exact⟨rfl,d⟩
def cq12_{p:Prop}(h:p:=by
 obtain⟨j,c1,rfl,y⟩:=hD.keys;obtain⟨l,c2,rfl,C⟩:=hD.sub;obtain⟨x,n⟩:=fV hk;obtain⟨g,m,F,sv,z0,G,D,L,ho,B⟩:=Z.type n;obtain⟨q,sn,r,rfl⟩:=zW ho;have I:=zo z0;have J:=zo D;have H:(k:Int)<(m:Int):=M_;refine hq_ λE f=>?_;(first|(have:=cc1;refine have b:txT env (.mk 108 n0 tx0 [] []) t=xK n0:=?_;?_)|(refine have b:txT env (.mk 105 n0 tx0 [] []) t=xK n0:=?_;?_))
 .conv=>lhs;unfold txT
  rw[n_ D_,n_ D_,i_ D_]
 rw[b]at f;(first|(have:=cc1;have a:=zy (show Fr w ((w.alloc (.cells (zq 108 n0 tx0 (.slice j 0 c1) (.slice l 0 c2)).toArray 32)).alloc (.cells #[U_ x.kind,.slice q sn r] 57)) N_ from((A_ w _).alloc _).alloc _))|(have a:=zy (show Fr w ((w.alloc (.cells (zq 105 n0 tx0 (.slice j 0 c1) (.slice l 0 c2)).toArray 32)).alloc (.cells #[U_ x.kind,.slice q sn r] 57)) N_ from((A_ w _).alloc _).alloc _)));simp only[zq,af_]at a⊢;unfold okD at hok;have z:=hok.1.1;have A:=hok.1.2.1;have K:=hok.2.2.1;replace hok:=zy hok;clear y C Z hk hD ho B b n;go_in;go_wp2_with (go_at_call 15;apply(gP z A).mono;rintro e w1 ⟨rfl,d⟩;replace d:=zy d);try go_ret
 rw[f.o];exact⟨rfl,a.o.trans d.o u_⟩):p:=h
def Fj(Z:ZAt w P bz ts env)(hk:isT ts k t)(hD:zF w Pd (.mk 105 n0 tx0 [] []) (zq 105 n0 tx0 vk vs))(hok:okD (.mk 105 n0 tx0 [] [])):Calls prog 8 #[P_ bz,.agg (zq 105 n0 tx0 vk vs).toArray,I_ k] w λe w'=>e=.returned (.string (txT env (.mk 105 n0 tx0 [] []) t))/\Fr w w' N_:=by
 exact cq12_
def Fv(Z:ZAt w P bz ts env)(hk:isT ts k t)(hD:zF w Pd (.mk 108 n0 tx0 [] []) (zq 108 n0 tx0 vk vs))(hok:okD (.mk 108 n0 tx0 [] [])):Calls prog 8 #[P_ bz,.agg (zq 108 n0 tx0 vk vs).toArray,I_ k] w λe w'=>e=.returned (.string (txT env (.mk 108 n0 tx0 [] []) t))/\Fr w w' N_:=by
 have cc1:=Nat
 exact cq12_
def GO(Z:ZAt w P bz ts env)(hk:isT ts k t)(hD:zF w Pd (.mk 115 n0 tx0 [] []) (zq 115 n0 tx0 vk vs))(hok:okD (.mk 115 n0 tx0 [] [])):Calls prog 8 #[P_ bz,.agg (zq 115 n0 tx0 vk vs).toArray,I_ k] w λe w'=>e=.returned (.string (txT env (.mk 115 n0 tx0 [] []) t))/\Fr w w' N_:=by
 exact cq15_
def Fq(Z:ZAt w P bz ts env)(hk:isT ts k t)(hD:zF w Pd (.mk 102 n0 tx0 [] []) (zq 102 n0 tx0 vk vs))(hok:okD (.mk 102 n0 tx0 [] [])):Calls prog 8 #[P_ bz,.agg (zq 102 n0 tx0 vk vs).toArray,I_ k] w λe w'=>e=.returned (.string (txT env (.mk 102 n0 tx0 [] []) t))/\Fr w w' N_:=by
 have cc1:=Nat
 exact cq15_
end
def PAt(w:Aw)(bp:Nat)(s:BA)(i:Nat):Prop:=Blk w bp [.string s,I_ i] 119
section
variable {w w':Aw} {bp:Nat} {s:BA} {i:Nat}
def PAt.c0(h:PAt w bp s i):w.cell? ⟨bp,0,none⟩=some (.string s):=by rw[G_ h];rfl
def PAt.c1(h:PAt w bp s i):w.cell? ⟨bp,1,none⟩=some (I_ i):=by rw[G_ h];rfl
def PAt.th(h:PAt w bp s i)(o:Nat):w.frozen? ⟨bp,o,none⟩=false:=Blk.th h o
def PAt.si(h:PAt w bp s i)(a:zw w w'):PAt w' bp s i:=by obtain⟨n,rfl⟩:=a;exact h
def PAt.inc(h:PAt w bp s i):PAt (w.setCell ⟨bp,1,none⟩ (Z_ ((i:Int)+1))) bp s (i+1):=C_ h 1 _
end
def yr{w:Aw}{bp:Nat}{s:BA}{i:Nat}(h:PAt w bp s i):Calls prog 112 #[P_ bp] w λe w'=>e=.returned (I_ i)/\w'=w:=by
 have c1:=h.c1;go_in;go_wp2;go_ret;exact⟨rfl,rfl⟩
def gh(c:Nat)(w:Aw):Calls prog 110 #[U_ c] w λe w'=>e=.returned (.bool (zZ c))/\w'=w:=by
 have hb:zZ c=(decide ((65:Int)<=(c:Int))&&decide ((c:Int)<=70)):=by
  unfold zZ;rw[show decide ((65:Int)<=(c:Int))=decide (65<=c) by congr 1;exact propext M_,show decide ((c:Int)<=70)=decide (c<=70) by congr 1;exact propext M_]
 rw[hb];by_cases h1:(65:Int)<=(c:Int)
 .go_in;go_wp2;go_ret;exact⟨by simp[h1],rfl⟩
 .go_in;go_wp2;go_ret;exact⟨by simp;omega,rfl⟩
def yl{w:Aw}{bp:Nat}{s:BA}{i:Nat}(h:PAt w bp s i)(_hs:s.size<=300)(a:i<=s.size):Calls prog 111 #[P_ bp] w λe w'=>e=.returned (.int .u8 (bt s i:Int))/\zw w w':=by
 have c0:=h.c0;have c1:=h.c1;by_cases hl:i<s.size
 .have a:(i:Int)<(s.size:Int):=M_;go_in;go_wp2;go_quiet (fail);go_wp2;go_quiet (fail);go_wp2;go_ret;exact⟨by simp[vS s i hl],(zw.drewN _ _).trans (zw.drewN _ _)⟩
 .have a:¬(i:Int)<(s.size:Int):=M_;go_in;go_wp2;go_quiet (fail);go_wp2;go_ret;exact⟨by rw[pZ M_];rfl,_,rfl⟩
def Bi(w:Aw)(bp:Nat)(s:BA)(i d:Nat)(b:Ap)(w':Aw):Prop:=
 Fr w w' (· = bp)/\((bt s i=d/\b=true/\PAt w' bp s (i+1)/\i<s.size)\/(bt s i≠d/\b=false/\PAt w' bp s i))
def um{w:Aw}{bp:Nat}{s:BA}{i:Nat}(d:Nat)(h:PAt w bp s i)(hs:s.size<=300)(g:i<=s.size)(hd:c=(d:Int))(j:0<d):Calls prog 115 #[P_ bp,.int .u8 c] w λe w'=>∃b,e=.returned (.bool b)/\Bi w bp s i d b w':=by
 subst hd;obtain⟨x,hx⟩:=x_ (bt s i);by_cases hb:x=d
 .subst hb;replace hx:=zy hx;go_in;go_wp2_with (go_at_call 111;apply(yl h hs g).mono;rintro e w' ⟨rfl,f⟩;rw[hx.o];have a:=h.si f;have c1:=a.c1;have l:=a.th 1);go_ret;exact⟨true,rfl,((A_ w _).si f).setCell _ _ (λ_=>rfl),.inl ⟨hx,rfl,a.inc,zr (by rw[hx.o];exact j)⟩⟩
 .have hn:((x:Int) != (d:Int))=true:=x4_
  replace hx:=zy hx;go_in;go_wp2_with (go_at_call 111;apply(yl h hs g).mono;rintro e w' ⟨rfl,f⟩;rw[hx.o];have a:=h.si f);go_ret;exact⟨false,rfl,(A_ w _).si f,.inr ⟨by rw[hx.o];exact hb,rfl,a⟩⟩
def ff{w:Aw}{bp:Nat}{s:BA}{i:Nat}(d:Nat)(h:PAt w bp s i)(hs:s.size<=300)(g:i<=s.size)(hd:c=(d:Int))(a:0<d)(hb:bt s i=d):Calls prog 115 #[P_ bp,.int .u8 c] w λe w'=>e=.returned (.bool true)/\Fr w w' (· = bp)/\PAt w' bp s (i+1):=by
 apply(um d h hs g hd a).mono;rintro e w' ⟨b,rfl,f,a⟩;rcases a with⟨_,rfl,h1,_⟩|⟨hn,_⟩
 .exact⟨rfl,f,h1⟩
 .exact absurd hb hn
def pI{w:Aw}{bp:Nat}{s:BA}{i:Nat}(d:Nat)(h:PAt w bp s i)(hs:s.size<=300)(g:i<=s.size)(hd:c=(d:Int))(a:0<d)(hb:bt s i≠d):Calls prog 115 #[P_ bp,.int .u8 c] w λe w'=>e=.returned (.bool false)/\Fr w w' (· = bp)/\PAt w' bp s i:=by
 apply(um d h hs g hd a).mono;rintro e w' ⟨b,rfl,f,a⟩;rcases a with⟨hy,_⟩|⟨_,rfl,h1⟩
 .exact absurd hy hb
 .exact⟨rfl,f,h1⟩
def yq(w:Aw)(lo:Nat)(v:Ax)(p:Int)(ev:Ax):Prop:=
 ∃g,lo<=g/\v=.iface 175 (P_ g)/\Blk w g [Z_ p,ev] 177
def vz{w:Aw}{bp:Nat}{s:BA}{i:Nat}(h:PAt w bp s i)(hg:w.cell? ⟨0,0,none⟩=some (.iface et ex)):Calls prog 74 #[P_ bp] w λe w'=>∃v,e=.returned v/\yq w' w.heap.size v (i:Int) (.iface et ex)/\Fr w w' N_:=by
 obtain⟨b,a⟩:=y_ (λ(e:Ending) (w':World)=>∃v,e=.returned v/\yq w' w.heap.size v (i:Int) (.iface et ex)/\Fr w w' N_);rw[<- a.o];have c1:=h.c1;replace h:=zy h;go_in;go_wp2;refine tr_ 8 (λW=>z_ W bp 1 (I_ i)/\z_ W 0 0 (.iface et ex)) ?_;refine tz_ 0 ?_;refine tz_ 1 ?_;refine tz_ 2 ?_;refine tz_ 3 ?_;refine tz_ 4 ?_;refine tz_ 5 ?_;refine t1_ 6 ⟨c1,hg⟩ ?_;have b:(w.drew.alloc (.cells #[I_ i,.iface et ex] 177)).cell? ⟨bp,1,none⟩=some (I_ i):=by
  rw[World.cell?_alloc_past _ _ _ (World.block_lt_of_cell? w.drew ⟨bp,1,none⟩ c1)];exact c1
 have d:(w.drew.alloc (.cells #[I_ i,.iface et ex] 177)).cell? ⟨0,0,none⟩=some (.iface et ex):=by
  rw[World.cell?_alloc_past _ _ _ (World.block_lt_of_cell? w.drew ⟨0,0,none⟩ hg)];exact hg
 refine t1_ 7 ⟨b,d⟩ ?_;refine t1_ 8 ⟨b,d⟩ ?_;refine td_ ?_ _;go_wp2;try go_ret
 rw[a.o];exact⟨_,rfl,⟨w.heap.size,l_,rfl,(B_ w _ _).drew⟩,((A_ w _).alloc _).drew⟩
def pF(w:Aw)(et:As)(ex:Ax):Prop:=w.cell? ⟨0,0,none⟩=some (.iface et ex)
def pF.fr{w w':Aw}(h:pF w et ex)(d:Fr w w' S)(b:¬S 0):pF w' et ex:=
 (World.cell?_of_block (a:=⟨0,0,none⟩) (d.block _ (World.block_lt_of_cell? w ⟨0,0,none⟩ h) b)).trans h
def yq.fr{w w':Aw}{lo:Nat}{p:Int}{a:Ax}(h:yq w lo v p a)(e:Fr w w' S)(d:∀g,lo<=g->¬S g):yq w' lo v p a:=by
 obtain⟨g,h1,a,b⟩:=h;exact⟨g,h1,a,e.bl b (d g h1)⟩
def yq.ls{w:Aw}{lo b:Nat}{p:Int}{a:Ax}(h:yq w lo v p a)(hl:b<=lo):yq w b v p a:=by
 obtain⟨g,h1,a⟩:=h;exact⟨g,ai_ hl h1,a⟩
def Be(w:Aw)(bp:Nat)(s:BA)(i d:Nat)(et:As)(ex:Ax)(v:Ax)(w':Aw):Prop:=
 Fr w w' (· = bp)/\((bt s i=d/\v=.nilIface/\PAt w' bp s (i+1)/\i<s.size)\/(bt s i≠d/\yq w' w.heap.size v (i:Int) (.iface et ex)/\PAt w' bp s i))
def yO{w:Aw}{bp:Nat}{s:BA}{i:Nat}(d:Nat)(h:PAt w bp s i)(b:pF w et ex)(p:bp≠0)(hs:s.size<=300)(n:i<=s.size)(hd:c=(d:Int))(m:0<d):Calls prog 114 #[P_ bp,.int .u8 c] w λe w'=>∃v,e=.returned v/\Be w bp s i d et ex v w':=by
 subst hd;obtain⟨r,g⟩:=y_ (λ(e:Ending) (w':World)=>∃v,e=.returned v/\Be w bp s i d et ex v w');rw[<- g.o];by_cases hb:bt s i=d
 .have j:=zy (ff d h hs n rfl m hb);have f:i<s.size:=zr M_;replace hb:=zy hb;replace h:=zy h;replace b:=zy b;go_in;go_wp2_with (go_at_call 115;apply j.o.mono;rintro e w1 ⟨rfl,a,h1⟩;replace h1:=zy h1;replace a:=zy a);try go_ret
  rw[g.o];exact⟨.nilIface,rfl,a,.inl ⟨hb,rfl,h1,f⟩⟩
 .have j:=zy (pI d h hs n rfl m hb);replace hb:=zy hb;replace h:=zy h;replace b:=zy b;go_in;go_wp2_with (first
   |(go_at_call 115;apply j.o.mono;rintro e w1 ⟨rfl,a,h1⟩;replace h1:=zy h1;replace a:=zy a)
   |(go_at_call 74;apply(vz h1 (b.o.fr a (Ne.symm p))).mono;rintro e b ⟨v,rfl,l,f⟩;replace l:=zy l;replace f:=zy f))
  try go_ret
  rw[g.o];have q:=a.o.size;exact⟨v,rfl,a.o.trans f v_,.inr ⟨hb,l.o.ls q,f.o.bl h1 id⟩⟩
def vI(c:Nat):TypeId:=if c=110 then 191 else if c=116 then 192 else if c=105 then 194 else if c=108 then 196 else 197
def qB(c:Nat):TypeId:=if c=91 then 199 else 201
inductive TyV (w:Aw) (P:Au):PT->Value->Prop
 |base (c p:Nat) (h:zY c=true):TyV w P (.leaf c p) (.iface (vI c) (.agg #[I_ p]))
 |name (c p:Nat) (h:zZ c=true):TyV w P (.leaf c p) (.iface 208 (.agg #[I_ p,U_ c]))
 |wrap (c p:Nat) {t:PT} {v:Value} (h:TyV w P t v):TyV w P (.wrap c p t) (.iface (qB c) (.agg #[I_ p,v]))
 |alts (p:Nat) {l:List PT} {sv:Value} (X:Nat->Value) (ho:w.ownsRow 0 63 1 sv l.length ((List.range l.length).map X)) (hP:∀g,sv.ownBlock=some g->P g) (h:∀i t,l[i]?=some t->TyV w P t (X i)) :
  TyV w P (.alts p l) (.iface 205 (.agg #[I_ p,sv]))
def TyV.mono{w:Aw}{P Q:Au}{t:PT}(h:TyV w P t v)(a:∀g,g<w.heap.size->P g->Q g):TyV w Q t v:=by
 induction h with
 |base c p h=>exact .base c p h
 |name c p h=>exact .name c p h
 |wrap c p h ih=>exact .wrap c p ih
 |alts p X ho hP h ih=>exact .alts p X ho (λg e=>a g (ho.lt g e).2 (hP g e)) ih
def TyV.fr{w w':Aw}{P:Au}{t:PT}(h:TyV w P t v)(b:Fr w w' S)(a:∀g,P g->¬S g):TyV w' P t v:=by
 induction h with
 |base c p h=>exact .base c p h
 |name c p h=>exact .name c p h
 |wrap c p h ih=>exact .wrap c p ih
 |alts p X ho hP h ih=>exact .alts p X (zk ho b (λg e=>a g (hP g e))) hP ih
def IfV(v:Ax):Prop:=v=.nilIface\/∃T x,v=.iface T x
def vP(w:Aw)(bp:Nat)(s:BA)(i:Nat)(et:As)(ex:Ax)(e:Ah)(w':Aw):Prop:=
 ∃v ev,IfV v/\e=.returned (.tuple #[v,ev])/\Fr w w' (· = bp)/\
 match pT s i with
 | .ok (t,j)=>ev=.nilIface/\PAt w' bp s j/\TyV w' (λg=>w.heap.size<=g) t v
 | .error k=>yq w' w.heap.size ev (k:Int) (.iface et ex)/\∃j,j<=s.size/\PAt w' bp s j
def vB(s:BA)(i:Nat):Prop:=∀(w:World) (bp:Nat) (et:TypeId) (ex:Value),PAt w bp s i->pF w et ex->bp≠0->
 Calls prog 73 #[P_ bp] w (vP w bp s i et ex)
def yG{w:Aw}{bp:Nat}{s:BA}{i x:Nat}(h:PAt w bp s i)(hs:s.size<=300)(a:i<=s.size)(hx:bt s i=x)(hc:(x:Int)=c)(h0:0<c):Calls prog 115 #[P_ bp,.int .u8 c] w λe w'=>e=.returned (.bool true)/\Fr w w' (· = bp)/\PAt w' bp s (i+1):=
 ff x h hs a hc.symm M_ hx
def yF{w:Aw}{bp:Nat}{s:BA}{i x:Nat}(h:PAt w bp s i)(hs:s.size<=300)(a:i<=s.size)(hx:bt s i=x)(hc:(x:Int)≠c)(h0:0<c):Calls prog 115 #[P_ bp,.int .u8 c] w λe w'=>e=.returned (.bool false)/\Fr w w' (· = bp)/\PAt w' bp s i:=
 pI c.toNat h hs a M_ M_ (by rw[hx];omega)
def gZ{s:BA}{i c:Nat}(h:bt s i=c)(hb:zY c=true):pT s i=.ok (.leaf c i,i+1):=by
 rw[mi];unfold qy;rw[h,i_ hb]
def cq11_{p:Prop}(h:p:=by
 intro w bp et ex h l y;obtain⟨n,j⟩:=y_ (vP w bp s i et ex);rw[<- j.o];have a:=zy (And.intro h (A_ w (λx=>x=bp)));(try have:=cc5;have m:=zy (show pT s i=.ok (.leaf (bt s i) i,i+1) from nO (by simpa[zZ] using hn));obtain⟨x,hx⟩:=x_ (bt s i);rw[hx]at hn m;(have z:65<=x/\x<=70:=by simpa[zZ] using hn);have r:i<s.size:=zr M_);replace hx:=zy hx;replace l:=zy l;replace h:=zy h;(try have:=cc5;replace hn:=zy hn);go_in;go_wp2_with (first
  |(go_at_call 112;apply(yr a.o.1).mono;rintro e w' ⟨rfl,d⟩;rw[d])
  |(go_at_call 111;apply(yl a.o.1 hs hi).mono;rintro e w' ⟨rfl,d⟩;rw[hx.o];replace a:=zy (And.intro (a.o.1.si d) (a.o.2.si d));clear d)
  |(go_at_call 115;(first|(have:=cc5;apply(yF a.o.1 hs hi hx.o M_ D_).mono)|(apply(yG a.o.1 hs hi hx.o D_ D_).mono));rintro e w' ⟨rfl,g,f⟩;(first|(have:=cc5;replace a:=zy (And.intro f (a.o.2.trans g u_)))|(have b:=zy (And.intro f (a.o.2.trans g u_))));clear g f)
  |((first|go_at_call 115|go_at_call 110);(first|(have:=cc5;apply(gh x _).mono)|(apply(yF a.o.1 hs hi hx.o D_ D_).mono));(first|(have:=cc5;rintro e w' ⟨rfl,d⟩)|(rintro e w' ⟨rfl,g,f⟩));(first|(have:=cc5;rw[d,hn.o])|(replace a:=zy (And.intro f (a.o.2.trans g u_))));(first|(have:=cc5;clear d;have c1:=a.o.1.c1;have q:=a.o.1.th 1)|(clear g f))))
 try go_ret
 rw[j.o];(first|(have:=cc1;refine⟨.iface (vI 115) (.agg #[I_ i]),.nilIface,.inr ⟨_,_,rfl⟩,rfl,b.o.2,?_⟩)|(have:=cc2;refine⟨.iface (vI 105) (.agg #[I_ i]),.nilIface,.inr ⟨_,_,rfl⟩,rfl,b.o.2,?_⟩)|(have:=cc3;refine⟨.iface (vI 116) (.agg #[I_ i]),.nilIface,.inr ⟨_,_,rfl⟩,rfl,b.o.2,?_⟩)|(have:=cc4;refine⟨.iface (vI 110) (.agg #[I_ i]),.nilIface,.inr ⟨_,_,rfl⟩,rfl,b.o.2,?_⟩)|(have:=cc5;refine⟨.iface 208 (.agg #[I_ i,U_ x]),.nilIface,.inr ⟨_,_,rfl⟩,rfl,a.o.2.setCell _ _ (λ_=>rfl),?_⟩)|(refine⟨.iface (vI 108) (.agg #[I_ i]),.nilIface,.inr ⟨_,_,rfl⟩,rfl,b.o.2,?_⟩));(first|(have:=cc5;rw[m.o])|(rw[gZ hx.o rfl]));(first|(have:=cc1;exact⟨rfl,b.o.1,.base 115 i rfl⟩)|(have:=cc2;exact⟨rfl,b.o.1,.base 105 i rfl⟩)|(have:=cc3;exact⟨rfl,b.o.1,.base 116 i rfl⟩)|(have:=cc4;exact⟨rfl,b.o.1,.base 110 i rfl⟩)|(have:=cc5;exact⟨rfl,a.o.1.inc,.name x i hn.o⟩)|(exact⟨rfl,b.o.1,.base 108 i rfl⟩))):p:=h
def Jm{s:BA}{i:Nat}(hs:s.size<=300)(hi:i<=s.size)(hx:bt s i=110):vB s i:=by
 have cc4:=Nat
 exact cq11_
def Jb{s:BA}{i:Nat}(hs:s.size<=300)(hi:i<=s.size)(hx:bt s i=116):vB s i:=by
 have cc3:=Nat
 exact cq11_
def Jl{s:BA}{i:Nat}(hs:s.size<=300)(hi:i<=s.size)(hx:bt s i=105):vB s i:=by
 have cc2:=Nat
 exact cq11_
def Jc{s:BA}{i:Nat}(hs:s.size<=300)(hi:i<=s.size)(hx:bt s i=108):vB s i:=by
 exact cq11_
def Ju{s:BA}{i:Nat}(hs:s.size<=300)(hi:i<=s.size)(hx:bt s i=115):vB s i:=by
 have cc1:=Nat
 exact cq11_
def Xx{s:BA}{i:Nat}(hs:s.size<=300)(hi:i<=s.size)(hn:zZ (bt s i)=true):vB s i:=by
 have cc5:=Nat
 exact cq11_
end Go.Proofs.YtahhhgbojlkjnaaGreatDoor
