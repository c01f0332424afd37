import Derived.Test.YtahhhgbojlkjnaaGreatDoorW12
set_option maxHeartbeats 16000000
set_option maxRecDepth 100000
set_option linter.defProp false
set_option linter.unusedSimpArgs false
open Go.Proofs.Tryz
namespace Go.Proofs.YtahhhgbojlkjnaaGreatDoor
open Go.RowKit
variable {i:Nat}{et:As}{ex:Ax}
def Fr.four(w:Aw)(b:Nat)(v0 a c d:Ax):Fr w ((((w.setCell ⟨b,0,none⟩ v0).setCell ⟨b,1,none⟩ a).setCell ⟨b,2,none⟩ c).setCell ⟨b,3,none⟩ d) (λg=>g=b):=
 ((((A_ w (λg=>g=b)).setCell ⟨b,0,none⟩ v0 (λ_=>rfl)).setCell ⟨b,1,none⟩ a (λ_=>rfl)).setCell ⟨b,2,none⟩ c (λ_=>rfl)).setCell ⟨b,3,none⟩ d (λ_=>rfl)
def Blk.four{w:Aw}{b t:Nat}{u0 a u2 c:Ax}(h:Blk w b [u0,a,u2,c] t)(v0 a c d:Ax):Blk ((((w.setCell ⟨b,0,none⟩ v0).setCell ⟨b,1,none⟩ a).setCell ⟨b,2,none⟩ c).setCell ⟨b,3,none⟩ d) b [v0,a,c,d] t:=
 (((h.set 0 v0).set 1 a).set 2 c).set 3 d
def rQ(w:Aw)(bp:Nat)(s:BA)(i:Nat)(et:As)(ex:Ax)(e:Ah)(w':Aw):Prop:=
 ∃(a b:Int) (c d ev:Value),e=.returned (.tuple #[.agg #[Z_ a,.int .u8 b,c,d],ev])/\IfV c/\(∃q,d=.pointer q)/\Fr w w' (· = bp)/\
  ((∃f j,ev=.nilIface/\PAt w' bp s j/\j<=s.size/\cm w' (λg=>w.heap.size<=g) s f (Z_ a) (.int .u8 b) c d/\(zS s i=.ok (f,j)\/(zS s i=.error s.size/\j=s.size)))\/
   (∃k,zS s i=.error k/\yq w' w.heap.size ev (k:Int) (.iface et ex)/\∃j,j<=s.size/\PAt w' bp s j))
def fE{w W:Aw}{bp:Nat}{s:BA}{k j lo:Nat}{a:Ax}(hk:zS s i=.error k)(c:yq W lo a (k:Int) (.iface et ex))(d:Fr w W (· = bp))(l:w.heap.size<lo)(l:bp<w.heap.size)(h:PAt W bp s j)(f:j<=s.size):rQ w bp s i et ex (.returned (.tuple #[.agg #[O_,.int .u8 0,.nilIface,.pointer none],a])) ((((W.setCell ⟨w.heap.size,0,none⟩ (O_)).setCell ⟨w.heap.size,1,none⟩ (.int .u8 0)).setCell ⟨w.heap.size,2,none⟩ .nilIface).setCell ⟨w.heap.size,3,none⟩ (.pointer none)):=by
 have b:=Fr.four W w.heap.size (O_) (.int .u8 0) .nilIface (.pointer none);exact⟨0,0,.nilIface,.pointer none,a,rfl,.inl rfl,⟨_,rfl⟩,d.trans b (λx hx e=>M_),.inr ⟨k,hk,(c.fr b (λg hg e=>M_)).ls M_,j,f,b.bl h M_⟩⟩
def od{w:Aw}{bp:Nat}{s:BA}(h:PAt w bp s i)(hG:pF w et ex)(l:bp≠0)(hs:s.size<=300)(hi:i<=s.size):Calls prog 164 #[P_ bp] w (rQ w bp s i et ex):=by
 obtain⟨d9,Q_⟩:=y_ (rQ w bp s i et ex);rw[<- Q_.o];have b9:=h.lt;have h0:=zy (show PAt (w.alloc (.cells #[O_,.int .u8 0,.nilIface,.pointer none] 185)) bp s i from F_ h _);have F0:=zy (show Fr w (w.alloc (.cells #[O_,.int .u8 0,.nilIface,.pointer none] 185)) (λx=>x=bp) from(A_ w _).alloc _);have B0:=zy (B_ w #[O_,.int .u8 0,.nilIface,.pointer none] 185);have b5:=zy (by simp:(w.alloc (.cells #[O_,.int .u8 0,.nilIface,.pointer none] 185)).heap.size=w.heap.size+1);have G0:=zy (hG.fr F0 (Ne.symm l));have a0:=zy hG;obtain⟨x,hx⟩:=x_ (bt s i);cases hsm:zt x with
 |false=>
  have a8:=zy (show zS s i=.error i by unfold zS;rw[hx,hsm];rfl);replace hsm:=zy (show zt (bt s i)=false by rw[hx];exact hsm);replace hx:=zy hx;go_in;go_wp2_with (first
   |(go_at_call 165;apply(xI h0 G0 l hs hi).mono;rintro e w1 ⟨a,b,R,rfl,c,hm⟩;obtain⟨g,a3,rfl,H,h1⟩:∃g,(w.alloc (.cells #[O_,.int .u8 0,.nilIface,.pointer none] 185)).heap.size<=g/\R=.iface 175 (P_ g)/\Blk w1 g [I_ i,.iface et ex] 177/\PAt w1 bp s i:=xr_;have f:=(c.bl B0 M_).alloc (.cells #[Z_ a,.int .u8 b] 182);obtain⟨r0,r1,r2,r3⟩:=f.d4;obtain⟨g0,g1,g2,g3⟩:=f.t4;replace f:=zy f;replace c:=zy c;replace H:=zy H;replace h1:=zy h1))
  have O:=Blk.four f (O_) (.int .u8 0) (.nilIface) (.pointer none);obtain⟨q0,q1,q2,q3⟩:=O.d4;refine bodyPost_ret (v:=.tuple #[.agg #[O_,.int .u8 0,.nilIface,.pointer none],.iface 175 (P_ g)]) xn_ rfl ?_;rw[Q_.o];exact fE a8 (lo:=(w.alloc (.cells #[O_,.int .u8 0,.nilIface,.pointer none] 185)).heap.size) ⟨g,a3,rfl,H.o.alloc _⟩ ((F0.o.trans c u_).alloc _) (by rw[b5.o];omega) b9 (F_ h1 _) hi
 |true=>
  have a9:i+1<=s.size:=zr (xo (by rw[hx];exact hsm));by_cases h58:bt s (i+1)=58;case neg=>
   have a8:=zy (show zS s i=.error (i+1) by unfold zS;rw[hx,hsm,i_ rfl,n_ h58]);replace hsm:=zy (show zt (bt s i)=true by rw[hx];exact hsm);replace hx:=zy hx;replace h58:=zy h58;go_in;go_wp2_with (first
    |(go_at_call 165;apply(xI h0 G0 l hs hi).mono;rintro e w1 ⟨a,b,R,rfl,c,hm⟩;obtain⟨rfl,rfl,rfl,h1⟩:a=(i:Int)/\b=(x:Int)/\R=.nilIface/\PAt w1 bp s (i+1):=x7_;have P1:=F_ h1 (.cells #[I_ i,U_ x] 182);have m:=(F0.o.trans c u_).alloc (.cells #[I_ i,U_ x] 182);have A:=a0.o.fr m (Ne.symm l);have F:=B_ w1 #[I_ i,U_ x] 182;have f:=(c.bl B0 M_).alloc (.cells #[I_ i,U_ x] 182);have a4:=c.size;have a6:=zy (x8_:(w1.alloc (.cells #[I_ i,U_ x] 182)).heap.size=w1.heap.size+1);rw[b5.o]at a4;replace P1:=zy (show PAt _ bp s (i+1) from P1);revert m A F f;refine g_ λm A F f=>?_)
    |(go_at_call 114;apply(yO 58 P1 A l hs a9 rfl D_).mono;rintro e I ⟨v2,rfl,d,hE⟩;obtain⟨g,a3,rfl,H,B⟩:∃g,(w1.alloc (.cells #[I_ i,U_ x] 182)).heap.size<=g/\v2=.iface 175 (P_ g)/\Blk I g [Z_ ((i+1:Nat):Int),.iface et ex] 177/\PAt I bp s (i+1):=(by rcases hE with⟨hq,_⟩|⟨_,⟨g,q1,q2,q3⟩,q4⟩;(exact absurd hq h58);exact⟨g,q1,q2,q3,q4⟩);have q:=d.bl f M_;obtain⟨r0,r1,r2,r3⟩:=q.d4;obtain⟨g0,g1,g2,g3⟩:=q.t4;replace q:=zy q;replace d:=zy d;replace H:=zy H;replace B:=zy B))
   have O:=Blk.four q (O_) (.int .u8 0) (.nilIface) (.pointer none);obtain⟨q0,q1,q2,q3⟩:=O.d4;refine bodyPost_ret (v:=.tuple #[.agg #[O_,.int .u8 0,.nilIface,.pointer none],.iface 175 (P_ g)]) xn_ rfl ?_;rw[Q_.o];exact fE a8 (lo:=(w1.alloc (.cells #[I_ i,U_ x] 182)).heap.size) ⟨g,a3,rfl,H⟩ (m.o.trans d u_) (by rw[a6.o];omega) b9 B a9
  case pos=>
  have b6:i+2<=s.size:=zr (s:=s) (i:=i+1) M_;have b8:=xR (s:=s) b6;cases hp:pT s (i+2) with
  |error k=>
   have a8:=zy (show zS s i=.error k by unfold zS;rw[hx,hsm,i_ rfl,i_ h58,hp]);replace hsm:=zy (show zt (bt s i)=true by rw[hx];exact hsm);replace hx:=zy hx;replace h58:=zy h58;replace hp:=zy hp;go_in;go_wp2_with (first
    |(go_at_call 165;apply(xI h0 G0 l hs hi).mono;rintro e w1 ⟨a,b,R,rfl,c,hm⟩;obtain⟨rfl,rfl,rfl,h1⟩:a=(i:Int)/\b=(x:Int)/\R=.nilIface/\PAt w1 bp s (i+1):=x7_;have P1:=F_ h1 (.cells #[I_ i,U_ x] 182);have m:=(F0.o.trans c u_).alloc (.cells #[I_ i,U_ x] 182);have A:=a0.o.fr m (Ne.symm l);have F:=B_ w1 #[I_ i,U_ x] 182;have f:=(c.bl B0 M_).alloc (.cells #[I_ i,U_ x] 182);have a4:=c.size;have a6:=zy (x8_:(w1.alloc (.cells #[I_ i,U_ x] 182)).heap.size=w1.heap.size+1);rw[b5.o]at a4;replace P1:=zy (show PAt _ bp s (i+1) from P1);revert m A F f;refine g_ λm A F f=>?_)
    |(go_at_call 114;apply(yO 58 P1 A l hs a9 rfl D_).mono;rintro e I ⟨v2,rfl,d,hE⟩;obtain⟨rfl,B⟩:v2=.nilIface/\PAt I bp s (i+2):=xo_;have b4:=d.size;rw[a6.o]at b4;have q:=d.bl f M_;have M:=d.bl F M_;have E:=m.o.trans d u_;have G2:=zy (a0.o.fr E (Ne.symm l));revert B q M E;refine g_ λB q M E=>?_)
    |(go_at_call 73;apply(wY hs _ (i+2) l_ b6 I bp et ex B G2 l).mono;rintro e u ⟨v3,d2,_,rfl,z,hm⟩;rw[hp.o]at hm;obtain⟨⟨g,a3,rfl,H⟩,D,C,S⟩:=hm;have K:=z.bl q M_;obtain⟨r0,r1,r2,r3⟩:=K.d4;obtain⟨g0,g1,g2,g3⟩:=K.t4;replace K:=zy K;replace z:=zy z;replace H:=zy H;replace S:=zy S))
   have O:=Blk.four K (O_) (.int .u8 0) (.nilIface) (.pointer none);obtain⟨q0,q1,q2,q3⟩:=O.d4;refine bodyPost_ret (v:=.tuple #[.agg #[O_,.int .u8 0,.nilIface,.pointer none],.iface 175 (P_ g)]) xn_ rfl ?_;rw[Q_.o];exact fE a8 (lo:=I.heap.size) ⟨g,a3,rfl,H⟩ (E.o.trans z u_) M_ b9 S C
  |ok r=>
  obtain⟨t,j⟩:=r;have hj:=b8.1 t j hp;by_cases V:bt s j=61;case neg=>
   have d1:=zy (show zS s i=.ok (⟨x,i,t,none⟩,j) by unfold zS;rw[hx,hsm,i_ rfl,i_ h58,hp];simp only;rw[n_ V]);replace hsm:=zy (show zt (bt s i)=true by rw[hx];exact hsm);replace hx:=zy hx;replace h58:=zy h58;replace hp:=zy hp;replace V:=zy V;go_in;go_wp2_with (first
    |(go_at_call 165;apply(xI h0 G0 l hs hi).mono;rintro e w1 ⟨a,b,R,rfl,c,hm⟩;obtain⟨rfl,rfl,rfl,h1⟩:a=(i:Int)/\b=(x:Int)/\R=.nilIface/\PAt w1 bp s (i+1):=x7_;have P1:=F_ h1 (.cells #[I_ i,U_ x] 182);have m:=(F0.o.trans c u_).alloc (.cells #[I_ i,U_ x] 182);have A:=a0.o.fr m (Ne.symm l);have F:=B_ w1 #[I_ i,U_ x] 182;have f:=(c.bl B0 M_).alloc (.cells #[I_ i,U_ x] 182);have a4:=c.size;have a6:=zy (x8_:(w1.alloc (.cells #[I_ i,U_ x] 182)).heap.size=w1.heap.size+1);rw[b5.o]at a4;replace P1:=zy (show PAt _ bp s (i+1) from P1);revert m A F f;refine g_ λm A F f=>?_)
    |(go_at_call 114;apply(yO 58 P1 A l hs a9 rfl D_).mono;rintro e I ⟨v2,rfl,d,hE⟩;obtain⟨rfl,B⟩:v2=.nilIface/\PAt I bp s (i+2):=xo_;have b4:=d.size;rw[a6.o]at b4;have q:=d.bl f M_;have M:=d.bl F M_;have E:=m.o.trans d u_;have G2:=zy (a0.o.fr E (Ne.symm l));revert B q M E;refine g_ λB q M E=>?_)
    |(go_at_call 73;apply(wY hs _ (i+2) l_ b6 I bp et ex B G2 l).mono;rintro e u ⟨v3,d2,b7,rfl,z,hm⟩;rw[hp.o]at hm;obtain⟨rfl,S,a5⟩:=hm;obtain⟨C,D,rfl⟩:∃T x,v3=.iface T x:=(by cases a5<;>exact⟨_,_,rfl⟩);have d8:=z.size;have K:=z.bl q M_;have L3:=z.bl M M_;have F3:=E.o.trans z u_;have l0:=L3.c0;have l1:=L3.c1;have J:=(A_ u N_).alloc (.cells #[I_ i,U_ x,.iface C D,.pointer none] 185);have a7:(u.alloc (.cells #[I_ i,U_ x,.iface C D,.pointer none] 185)).heap.size=u.heap.size+1:=x8_;have Y:=J.bl K id;have Z:=B_ u #[I_ i,U_ x,.iface C D,.pointer none] 185;have F4:=F3.trans J v_;have P4:=J.bl S id;have V4:=zy ((a5.mono (Q:=λg=>u.heap.size≠g/\w.heap.size<g/\w1.heap.size<g) (λg a3 H=>M_)).fr J u_);revert Y Z F4;refine h_ λY Z F4=>?_;replace P4:=zy (show PAt _ bp s j from P4);replace a7:=zy a7)
    |(go_at_call 115;apply(pI 61 P4 hs hj.2 rfl D_ V).mono;rintro e w5 ⟨rfl,G,h5⟩;have N:=G.bl Y M_;have E5:=G.bl Z M_;obtain⟨r0,r1,r2,r3⟩:=N.d4;obtain⟨g0,g1,g2,g3⟩:=N.t4;obtain⟨e0,e1,e2,e3⟩:=E5.d4;revert G h5 N E5;refine g_ λG h5 N E5=>?_))
   have O:=Blk.four N (I_ i) (U_ x) (.iface C D) (.pointer none);obtain⟨q0,q1,q2,q3⟩:=O.d4;refine bodyPost_ret (v:=.tuple #[.agg #[I_ i,U_ x,.iface C D,.pointer none],.nilIface]) xn_ rfl ?_;rw[Q_.o];have U:=Fr.four w5 w.heap.size (I_ i) (U_ x) (.iface C D) (.pointer none);refine⟨(i:Int),(x:Int),.iface C D,.pointer none,.nilIface,rfl,.inr ⟨_,_,rfl⟩,⟨_,rfl⟩,(F4.o.trans G u_).trans U (λy hy e=>M_),.inl ⟨⟨x,i,t,none⟩,j,rfl,U.bl h5 M_,hj.2,⟨rfl,rfl,?_,rfl⟩,.inl d1⟩⟩;exact((V4.o.fr G (λg hg e=>M_)).fr U (λg hg e=>M_)).mono (λg _ hg=>M_)
  case pos=>
   have d7:j+1<=s.size:=zr (s:=s) (i:=j) M_;have d1:=zy (show zS s i=(match pD s (j+1) 0 with|none=>.error s.size|some e=>.ok (⟨x,i,t,some (j+1,e)⟩,e)) by unfold zS;rw[hx,hsm,i_ rfl,i_ h58,hp];simp only;rw[i_ V];cases pD s (j+1) 0<;>rfl);replace hsm:=zy (show zt (bt s i)=true by rw[hx];exact hsm);replace hx:=zy hx;replace h58:=zy h58;replace hp:=zy hp;replace V:=zy V;go_in;go_wp2_with (first
    |(go_at_call 165;apply(xI h0 G0 l hs hi).mono;rintro e w1 ⟨a,b,R,rfl,c,hm⟩;obtain⟨rfl,rfl,rfl,h1⟩:a=(i:Int)/\b=(x:Int)/\R=.nilIface/\PAt w1 bp s (i+1):=x7_;have P1:=F_ h1 (.cells #[I_ i,U_ x] 182);have m:=(F0.o.trans c u_).alloc (.cells #[I_ i,U_ x] 182);have A:=a0.o.fr m (Ne.symm l);have F:=B_ w1 #[I_ i,U_ x] 182;have f:=(c.bl B0 M_).alloc (.cells #[I_ i,U_ x] 182);have a4:=c.size;have a6:=zy (x8_:(w1.alloc (.cells #[I_ i,U_ x] 182)).heap.size=w1.heap.size+1);rw[b5.o]at a4;replace P1:=zy (show PAt _ bp s (i+1) from P1);revert m A F f;refine g_ λm A F f=>?_)
    |(go_at_call 114;apply(yO 58 P1 A l hs a9 rfl D_).mono;rintro e I ⟨v2,rfl,d,hE⟩;obtain⟨rfl,B⟩:v2=.nilIface/\PAt I bp s (i+2):=xo_;have b4:=d.size;rw[a6.o]at b4;have q:=d.bl f M_;have M:=d.bl F M_;have E:=m.o.trans d u_;have G2:=zy (a0.o.fr E (Ne.symm l));revert B q M E;refine g_ λB q M E=>?_)
    |(go_at_call 73;apply(wY hs _ (i+2) l_ b6 I bp et ex B G2 l).mono;rintro e u ⟨v3,d2,b7,rfl,z,hm⟩;rw[hp.o]at hm;obtain⟨rfl,S,a5⟩:=hm;obtain⟨C,D,rfl⟩:∃T x,v3=.iface T x:=(by cases a5<;>exact⟨_,_,rfl⟩);have d8:=z.size;have K:=z.bl q M_;have L3:=z.bl M M_;have F3:=E.o.trans z u_;have l0:=L3.c0;have l1:=L3.c1;have J:=(A_ u N_).alloc (.cells #[I_ i,U_ x,.iface C D,.pointer none] 185);have a7:(u.alloc (.cells #[I_ i,U_ x,.iface C D,.pointer none] 185)).heap.size=u.heap.size+1:=x8_;have Y:=J.bl K id;have Z:=B_ u #[I_ i,U_ x,.iface C D,.pointer none] 185;have F4:=F3.trans J v_;have P4:=J.bl S id;have V4:=zy ((a5.mono (Q:=λg=>u.heap.size≠g/\w.heap.size<g/\w1.heap.size<g) (λg a3 H=>M_)).fr J u_);revert Y Z F4;refine h_ λY Z F4=>?_;replace P4:=zy (show PAt _ bp s j from P4);replace a7:=zy a7)
    |(go_at_call 115;apply(ff 61 P4 hs hj.2 rfl D_ V).mono;rintro e w5 ⟨rfl,G,h5⟩;have c:=G.size;rw[a7.o]at c;have N:=G.bl Y M_;have E5:=zy (G.bl Z M_);revert G h5 N;refine h_ λG h5 N=>?_)
    |(go_at_call 183;apply(nI h5 hs d7).mono;rintro e w6 ⟨k6,X,d0,c,d6,c,rfl,m,a1,l⟩;have q:=a1.bl N M_;have d:=a1.bl E5 M_;have d3:=d.cell 3;have c:=d.th 3;have f:=d.set 3 (P_ X);have a2:Fr w6 (w6.setCell ⟨u.heap.size,3,none⟩ (P_ X)) (λg=>g=u.heap.size):=(A_ w6 (λg=>g=u.heap.size)).setCell ⟨u.heap.size,3,none⟩ _ (λ_=>rfl);have c:=a2.bl q M_;obtain⟨r0,r1,r2,r3⟩:=c.f4;obtain⟨g0,g1,g2,g3⟩:=c.t4;obtain⟨e0,e1,e2,e3⟩:=f.f4;simp only[an_,ao_,aa_,ab_]at d3 r0 r1 r2 r3 e0 e1 e2 e3;replace c:=zy c;replace f:=zy f;replace a2:=zy a2;replace a1:=zy a1;replace l:=zy l;replace m:=zy m;replace d0:=zy d0))
   have O:=Blk.four c (I_ i) (U_ x) (.iface C D) (P_ X);obtain⟨q0,q1,q2,q3⟩:=O.d4;refine bodyPost_ret (v:=.tuple #[.agg #[I_ i,U_ x,.iface C D,P_ X],.nilIface]) xn_ rfl ?_;rw[Q_.o];have U:=Fr.four (w6.setCell ⟨u.heap.size,3,none⟩ (P_ X)) w.heap.size (I_ i) (U_ x) (.iface C D) (P_ X);have V7:=((((V4.o.fr G (λg hg e=>M_)).fr a1 (λg hg e=>M_)).fr a2 (λg hg e=>M_)).fr U (λg hg e=>M_)).mono (Q:=λg=>w.heap.size<=g) (λg _ hg=>M_);have P7:=U.bl (a2.o.bl l M_) M_;have B7:=U.bl (a2.o.bl m M_) M_;refine⟨(i:Int),(x:Int),.iface C D,P_ X,.nilIface,rfl,.inr ⟨_,_,rfl⟩,⟨_,rfl⟩,(((F4.o.trans G u_).trans a1 u_).trans a2 (λy hy e=>M_)).trans U (λy hy e=>M_),.inl ⟨⟨x,i,t,some (j+1,k6)⟩,k6,rfl,P7,d6,⟨rfl,rfl,V7,?_⟩,?_⟩⟩
   .exact⟨X,.nilIface,M_,rfl,.inl rfl,B7⟩
   .have hk:=d0.o;rw[d1.o];cases hd:pD s (j+1) 0 with
    |none=>rw[hd]at hk;exact .inr ⟨rfl,hk⟩
    |some e=>rw[hd]at hk;simp only[b5_]at hk;subst hk;exact .inl rfl
def TyV.iface{w:Aw}{P:Au}{t:PT}{v:Ax}(h:TyV w P t v):∃T x,v=.iface T x:=by
 cases h<;>exact⟨_,_,rfl⟩
def aF(w:Aw)(bp:Nat)(s:BA)(i p:Nat)(et:As)(ex:Ax)(e:Ah)(w':Aw):Prop:=
 ∃v ev,IfV v/\e=.returned (.tuple #[v,ev])/\Fr w w' (· = bp)/\
 match yh s i with
 | .ok (fs,j)=>ev=.nilIface/\PAt w' bp s j/\(pB s p (.recd fs)->yM w' (λg=>w.heap.size<=g) s (.recd fs) v)
 | .error k=>yq w' w.heap.size ev (k:Int) (.iface et ex)/\∃j,j<=s.size/\PAt w' bp s j
section
variable {w W W2:Aw} {bp:Nat} {s:BA} {j b0:Nat} {L:Az} {T ET:As} {k:Nat} {sv v5:Ax} {n:Nat} {xs:Az}
def Bx{fs:Am}{ys:Az}(b:Fr W W2 (λg=>sv.ownBlock=some g\/g=b0))(hn:∀g,v5.ownBlock=some g->b0+1<=g/\(sv.ownBlock=some g\/W.heap.size<=g))(h:xJ W (λg=>b0+1<=g/\sv.ownBlock≠some g) s fs ys):xJ W2 (λg=>b0+1<=g/\v5.ownBlock≠some g) s fs ys:=
 ((h.mono (Q:=λg=>(b0+1<=g/\sv.ownBlock≠some g)/\g<W.heap.size) (λ_ h1 a=>⟨a,h1⟩)).fr b (λg hg e=>by
   rcases e with e|e
   .exact hg.1.2 e
   .have:=hg.1.1;omega)).mono (λg _ hg=>⟨hg.1.1,λe=>by
   rcases(hn g e).2 with q|q
   .exact hg.1.2 q
   .have:=hg.2;omega⟩)
def FQ{f:PF}{a b c d:Ax}(m:Fr W W2 (λg=>sv.ownBlock=some g\/g=b0))(hn:∀g,v5.ownBlock=some g->b0+1<=g/\(sv.ownBlock=some g\/W.heap.size<=g))(h:cm W (λg=>b0+1<=g/\sv.ownBlock≠some g) s f a b c d):cm W2 (λg=>b0+1<=g/\v5.ownBlock≠some g) s f a b c d:=
 ((h.mono (Q:=λg=>(b0+1<=g/\sv.ownBlock≠some g)/\g<W.heap.size) (λ_ h1 l=>⟨l,h1⟩)).fr m (λg hg e=>by
   rcases e with e|e
   .exact hg.1.2 e
   .have:=hg.1.1;omega)).mono (λg _ hg=>⟨hg.1.1,λe=>by
   rcases(hn g e).2 with q|q
   .exact hg.1.2 q
   .have:=hg.2;omega⟩)
end
structure RF(w:Aw)(bp:Nat)(s:BA)(j b0:Nat)(p:Int)(sv:Ax)(fs:Am)(xs:Az)(W:Aw):Prop where
 A:AM w bp s j b0 [Z_ p,sv] 210 185 4 sv fs.length xs W
 F:xJ W (λg=>b0+1<=g/\sv.ownBlock≠some g) s fs xs
section
variable {w W W':Aw} {bp:Nat} {s:BA} {j j' b0:Nat} {p:Int} {sv:Ax} {fs:Am} {xs:Az}
def RF.call(M:RF w bp s j b0 p sv fs xs W)(h:PAt W' bp s j')(a:Fr W W' (· = bp)):RF w bp s j' b0 p sv fs xs W':=by
 have h1:=M.A.lt;have b:=M.A.w0;exact⟨M.A.call h a,M.F.fr a (λg hg e=>M_)⟩
def RF.alloc(M:RF w bp s j b0 p sv fs xs W)(o:Cj):RF w bp s j b0 p sv fs xs (W.alloc o):=M.call (F_ M.A.here o) ((A_ W _).alloc o)
def RF.si(M:RF w bp s j b0 p sv fs xs W)(a:zw W W'):RF w bp s j b0 p sv fs xs W':=M.call (M.A.here.si a) ((A_ W _).si a)
def RF.item(M:RF w bp s j b0 p sv fs xs W){o:Cj}{w5:Aw}{v5 a b c d:Ax}{f:PF}(hg:(W.alloc o).grownBy w5 sv.ownBlock)(ho:w5.ownsRow (b0+1) 185 4 v5 (fs.length+1) (xs++[a,b,c,d]))(hl:v5.ownBlock=sv.ownBlock\/v5.ownBlock=some (W.alloc o).heap.size)(l:cm W (λg=>b0+1<=g/\sv.ownBlock≠some g) s f a b c d):RF w bp s j b0 p v5 (fs++[f]) (xs++[a,b,c,d]) (w5.setCell ⟨b0,1,none⟩ v5):=by
 obtain⟨h1,e,h⟩:=M.A.item ((A_ W _).alloc o) hg ho hl 1;refine⟨?_,(Bx e h M.F).snoc M.A.row.1 (FQ e h l)⟩;rw[ah_,ap_];exact h1
def RF.body(M:RF w bp s j b0 p sv fs xs W)(q:Nat)(hp:p=(q:Int))(hb:pB s q (.recd fs)):yM W (λg=>w.heap.size<=g) s (.recd fs) (.iface 210 (.agg #[Z_ p,sv])):=by
 subst hp;have:=M.A.w0;exact .recd q (yP M.A.row) (λg e=>by have:=M.A.row.lt g e;omega) (M.F.mono (λg _ hg=>by have:=hg.1;omega)) hb
end
def GB(w:Aw)(bp:Nat)(s:BA)(i b0:Nat)(p:Int)(m:Nat)(W:Aw):Prop:=
 ∃j sv fs xs,RF w bp s j b0 p sv fs xs W/\j<=s.size/\i+fs.length<=j/\s.size+1-j<=m/\xe s i=vF fs (xe s j)
def kU:Tryz.prog.underlying 179=some (.slice 185):=K_
def lN:(Tryz.prog.info? 185).map (λi=>(i.zero,i.size,i.bytes))=some (some (.agg #[O_,.int .u8 0,.nilIface,.pointer none]),4,40):=K_
def iE{w:Aw}{bp:Nat}{s:BA}{p:Nat}(h:PAt w bp s i)(H:pF w et ex)(U:bp≠0)(hs:s.size<=300)(hi:i<=s.size):Calls prog 149 #[P_ bp,I_ p] w (aF w bp s i p et ex):=by
 obtain⟨f0,G⟩:=y_ (aF w bp s i p et ex);rw[<- G.o];have e1:=h.lt;replace H:=zy H;have t:=zy (yO 40 (c:=40) h H U hs hi rfl D_);clear h;by_cases h40:bt s i=40;case neg=>
  have E:=zy (show yh s i=.error i by unfold yh;rw[n_ h40]);replace h40:=zy h40;go_in;go_wp2_with (go_at_call 114;apply t.o.mono;rintro e w1 ⟨X,rfl,q,hm⟩;obtain⟨g,a2,rfl,z,h1⟩:∃g,w.heap.size<=g/\X=.iface 175 (P_ g)/\Blk w1 g [I_ i,.iface et ex] 177/\PAt w1 bp s i:=xv_;replace q:=zy q;replace z:=zy z;replace h1:=zy h1);try go_ret
  rw[G.o];refine⟨.nilIface,_,.inl rfl,rfl,q,?_⟩;rw[E.o];exact⟨⟨g,a2,rfl,z⟩,i,hi,h1⟩
 case pos=>
 have a9:i+1<=s.size:=zr (s:=s) (i:=i) M_;by_cases y:bt s (i+1)=41;case pos=>
  have E:=zy (show yh s i=.ok ([],i+2) by unfold yh;rw[i_ h40,i_ y]);replace h40:=zy h40;replace y:=zy y;go_in;go_wp2_with (first
   |(go_at_call 114;apply t.o.mono;rintro e w1 ⟨X,rfl,q,hm⟩;obtain⟨rfl,h1⟩:X=.nilIface/\PAt w1 bp s (i+1):=xp_;have b5:=q.size;replace q:=zy q;replace h1:=zy h1)
   |(go_at_call 115;apply(ff 41 (F_ h1 (.cells #[I_ p,L_] 210)) hs a9 rfl D_ y).mono;rintro e Y ⟨rfl,l,r⟩;have Z:=l.bl (B_ w1 #[I_ p,L_] 210) M_;have c0:=Z.c0;have c1:=Z.c1;revert l r Z;refine h_ λl r Z=>?_))
  try go_ret
  rw[G.o];refine⟨.iface 210 (.agg #[I_ p,L_]),.nilIface,.inr ⟨_,_,rfl⟩,rfl,(q.o.alloc _).trans l u_,?_⟩;rw[E.o];exact⟨rfl,r,.recd p (World.ownsRow_nil _ _ _ _) (λg e=>by simp[Value.ownBlock]at e) (λi f e=>by simp at e)⟩
 case neg=>
  have E:=zy (show yh s i=xe s (i+1) by unfold yh;rw[i_ h40,n_ y]);replace h40:=zy h40;replace y:=zy y;go_in;go_wp2_with (first
   |(go_at_call 114;apply t.o.mono;rintro e w1 ⟨X,rfl,q,hm⟩;obtain⟨rfl,h1⟩:X=.nilIface/\PAt w1 bp s (i+1):=xp_;have b5:=q.size;replace q:=zy q;replace h1:=zy h1;clear t)
   |(go_at_call 115;apply(pI 41 (F_ h1 (.cells #[I_ p,L_] 210)) hs a9 rfl D_ y).mono;rintro e Y ⟨rfl,l,r⟩;have V:GB w bp s (i+1) w1.heap.size (p:Int) (s.size+1) Y:=⟨i+1,L_,[],[],⟨⟨r,(q.o.alloc _).trans l u_,e1,b5,(by have:=l.size;simp at this;omega),l.bl (B_ w1 #[I_ p,L_] 210) M_,World.ownsRow_nil _ _ _ _⟩,(λi f e=>by simp at e)⟩,a9,x8_,M_,(ri _).symm⟩;replace V:=zy V;obtain⟨b0,b8⟩:=e_ w1.heap.size;rw[<- b8]at V⊢;clear l r h1 q b8 b5))
  go_loopg [] (s.size+1) (λm W=>GB w bp s (i+1) b0 (p:Int) m W);case atStart=>exact V
  case round=>
   clear V;obtain⟨j,sv,fs,xs,M,hj,f8,hm,I⟩:=hrel;obtain⟨sa,sc,rfl⟩:=zh M.A.row;have f6:fs.length<=300:=M_;have hC:=zy (od M.A.here (H.o.fr M.A.fr (Ne.symm U)) U hs hj);have d8:=M.A.fr.size;have f1:=M.A.hB;have e0:=zy (vl (s:=s) hj);have a6:=zy (bq s j hj);obtain⟨ti,e3,e4,e6,e7⟩:=info_parts lN;replace M:=zy M;replace I:=zy I;go_wp2_with (first
    |(go_at_call 164;apply hC.o.mono;rintro e Y ⟨a,b,c,d,ev,rfl,b7,⟨J,rfl⟩,l,hm⟩;replace l:=zy l;rcases hm with⟨f,B,rfl,r,a3,hv,a5⟩|⟨k,hk,⟨g,a2,rfl,z⟩,j3,b9,h3⟩
      obtain⟨N,O,rfl⟩:=hv.2.2.1.iface
      have F:=(M.o.call r l).alloc (.cells #[Z_ a,.int .u8 b,.iface N O,.pointer J] 185)
      have b6:=(hv.mono (Q:=λg=>b0+1<=g/\(Value.slice sa fs.length sc).ownBlock≠some g) (λg _ hg=>⟨M_,λe=>by have:=M.o.A.row.lt g e;omega⟩)).fr ((A_ Y N_).alloc (.cells #[Z_ a,.int .u8 b,.iface N O,.pointer J] 185)) u_
      have N1:=B_ Y #[Z_ a,.int .u8 b,.iface N O,.pointer J] 185
      have t1:=F.A.b.c1
      obtain⟨n0,n1,n2,n3⟩:=N1.d4
      have f2:=(M.o.call r l).A.hB
      replace F:=zy F
      replace b6:=zy b6
      replace a5:=zy a5
      clear r hv N1 b7
      rotate_left
      replace hk:=zy hk
      replace z:=zy z
      replace h3:=zy h3
      rcases b7 with rfl|⟨cT,cx,rfl⟩)
    |(at_builtin;go_must (refine wpList_append_own_at _ rfl _ _ 179 rfl (b0+1) 185 ti _ 4 40 kU e3 e4 e6 e7 rfl D_ (.slice sa fs.length sc) fs.length xs rfl ?hown _ 1 1 [Z_ a,.int .u8 b,.iface N O,.pointer J] rfl rfl (zL _ #[Z_ a,.int .u8 b,.iface N O,.pointer J] _ _ ?nn) ?one ?b1 ?b2 ?b3 ?_)
      case hown=>exact World.ownsRow.alloc F.o.A.row _
      case nn=>simp
      case one=>simp[Value.oneCell']
      case b1=>unfold maxLen;omega
      case b2=>omega
      case b3=>simp;omega
      intro v5 w5 b4 a8 e9 d0
      have R:=F.o.item a8 b4 d0 b6
      have B5:=F.o.A.ie ((A_ _ _).alloc _) a8
      have e5:=B5.c1
      have f5:=B5.th 1
      obtain⟨g5,a7,rfl⟩:=zu b4 M_
      clear a8 d0 e9 b4 B5
      replace R:=zy R)
    |(go_at_call 115;apply(um 44 R.o.A.here hs a3 rfl D_).mono;rintro e w6 ⟨tb,rfl,a0,hT⟩;replace a0:=zy a0;rcases hT with⟨D,rfl,S,e8⟩|⟨D,rfl,S⟩<;>replace D:=zy D<;>replace S:=zy S))
   ·
    try go_ret
    rw[G.o];refine⟨.nilIface,_,.inl rfl,rfl,(M.o.A.fr.trans l u_).alloc _,?_⟩;rw[E.o,I.o,a6.o,hk.o];exact⟨⟨g,ai_ d8 a2,rfl,z.o.alloc _⟩,j3,b9,F_ h3 _⟩
   ·
    try go_ret
    rw[G.o];refine⟨.nilIface,_,.inl rfl,rfl,(M.o.A.fr.trans l u_).alloc _,?_⟩;rw[E.o,I.o,a6.o,hk.o];exact⟨⟨g,ai_ d8 a2,rfl,z.o.alloc _⟩,j3,b9,F_ h3 _⟩
   .have u:=R.o.call S a0;replace u:=zy u;have d6:H_ (xe s (i+1)=vF (fs++[f]) (xe s (B+1))/\j<B):=zy (by
     rcases a5.o with a4|⟨d2,rfl⟩
     .have:=(e0.o.1 f B a4)
      rw[I.o,a6.o,a4]
      simp only
      rw[n_ (by rw[D.o];decide),i_ D.o,fN]
      exact⟨rfl,M_⟩
     .have:=D.o
      rw[pZ l_]at this
      exact absurd this D_)
    have g0:=d6.o.2;go_roundg (s.size+1-(B+1));case measure=>omega
    case rel=>exact⟨B+1,_,fs++[f],_,u,e8,by rw[ah_,ap_];omega,l_,d6.o.1⟩
   .have u:=R.o.call S a0;replace u:=zy u;have u0:=u.o.A.b.c0;have u1:=u.o.A.b.c1;have e2:zw w6 w6.drew:=zw.drew w6;have C:=u.o.si e2;have d9:=zy (yO (c:=41) 41 C.A.here (H.o.fr C.A.fr (Ne.symm U)) U hs a3 rfl D_);replace C:=zy C;refine tr_ 5 (λW=>z_ W b0 0 (I_ p)/\z_ W b0 1 (S_ g5 (fs.length+1) a7)) ?_;refine tz_ 0 ?_;refine tz_ 1 ?_;refine tz_ 2 ?_;refine yz 3 rfl K_ (λ_=>⟨u0,u1⟩) (λK hK=>?_);go_simp;apply d9.o.mono;rintro e w8 ⟨v8,rfl,a1,t⟩;refine hK _ _ ?_;clear hK K;have x:∃j8,j8<=s.size/\RF w bp s j8 b0 (p:Int) (S_ g5 (fs.length+1) a7) (fs++[f]) (xs++[Z_ a,.int .u8 b,.iface N O,.pointer J]) w8:=by
     rcases t with⟨_,_,v,d1⟩|⟨_,_,v⟩
     .exact⟨B+1,d1,C.o.call v a1⟩
     .exact⟨B,a3,C.o.call v a1⟩
    obtain⟨j8,f9,x⟩:=x;have x0:=x.A.b.c0;have x1:=x.A.b.c1;refine t1_ 4 ⟨x0,x1⟩ ?_;refine t1_ 5 ⟨x0,x1⟩ ?_;refine td_ ?_ _;revert a1 t x;refine h_ λa1 t x=>?_;clear x0 x1 u0 u1;go_wp2;try go_ret
    rw[G.o];refine⟨.iface 210 (.agg #[I_ p,(S_ g5 (fs.length+1) a7)]),v8,.inr ⟨_,_,rfl⟩,rfl,x.o.A.fr,?_⟩;rw[E.o,I.o,a6.o];have d7:=C.o.A.fr.size;rcases a5.o with a4|⟨d2,rfl⟩
    .rw[a4];simp only;rcases t.o with⟨hb,rfl,v,d1⟩|⟨hb,hF,v⟩
     .rw[i_ hb];exact⟨rfl,v,x.o.body p rfl⟩
     .rw[n_ hb,n_ D.o];exact⟨hF.ls d7,B,a3,v⟩
    .rw[d2];rcases t.o with⟨hb,_⟩|⟨hb,hF,v⟩
     .rw[pZ l_]at hb;exact absurd hb D_
     .exact⟨hF.ls d7,_,l_,v⟩
def nf(w:Aw)(bp:Nat)(s:BA)(i p:Nat)(et:As)(ex:Ax)(e:Ah)(w':Aw):Prop:=
 ∃v ev,IfV v/\e=.returned (.tuple #[v,ev])/\Fr w w' (· = bp)/\
 match xZ s i with
 | .ok ((l,o),j)=>ev=.nilIface/\PAt w' bp s j/\(pB s p (.enum l o)->yM w' (λg=>w.heap.size<=g) s (.enum l o) v)
 | .error k=>yq w' w.heap.size ev (k:Int) (.iface et ex)/\∃j,j<=s.size/\PAt w' bp s j
def fM(l:Av)(c p:Nat):yu (l++[(c,p)])=yu l++[I_ p,U_ c]:=by
 simp[yu]
def AM.put{w W:Aw}{bp:Nat}{s:BA}{j b0:Nat}{L:Az}{T ET:As}{k:Nat}{sv:Ax}{n:Nat}{xs:Az}(M:AM w bp s j b0 L T ET k sv n xs W)(c:Nat)(v:Ax):AM w bp s j b0 (L.set c v) T ET k sv n xs (W.setCell ⟨b0,c,none⟩ v):=by
 have h1:=M.lt;have a:=M.w0;have a:Fr W (W.setCell ⟨b0,c,none⟩ v) (λg=>g=b0):=(A_ W (λg=>g=b0)).setCell ⟨b0,c,none⟩ v (λ_=>rfl);exact⟨a.bl M.here M_,M.fr.trans a (λx hx e=>M_),M.lt,M.w0,ai_ M.hB a.size,M.b.set c v,zk M.row a (λg hg e=>by have:=M.row.lt g hg;omega)⟩
def GD(w:Aw)(bp:Nat)(s:BA)(i b0:Nat)(p:Int)(m:Nat)(W:Aw):Prop:=
 ∃j sv l,AM w bp s j b0 [Z_ p,sv,.pointer none] 215 182 2 sv l.length (yu l) W/\j<=s.size/\i+l.length<=j/\s.size+1-j<=m/\xZ s i=gS s l (kw s j)
def wn:Tryz.prog.underlying 212=some (.slice 182):=K_
def XS:(Tryz.prog.info? 182).map (λi=>(i.zero,i.size,i.bytes))=some (some (.agg #[O_,.int .u8 0]),2,16):=K_
def tP{w W:Aw}{bp:Nat}{s:BA}{j b0 x y p:Nat}{l:Av}{sv u:Ax}{o:Ac}{L:Az}(M:AM w bp s j b0 L 215 182 2 sv (l.length+1) (yu l++[I_ y,U_ x]) W)(hu:qV W (λg=>w.heap.size<=g) o u)(hb:pB s p (.enum (l++[(x,y)]) o)):yM W (λg=>w.heap.size<=g) s (.enum (l++[(x,y)]) o) (.iface 215 (.agg #[I_ p,sv,u])):=by
 have:=M.w0;refine .enum p ?_ (λg e=>by have:=M.row.lt g e;omega) hu hb;rw[fM,ah_,ap_];exact yP M.row
def Xv{w:Aw}{bp:Nat}{s:BA}{p:Nat}(h:PAt w bp s i)(hG:pF w et ex)(X:bp≠0)(hs:s.size<=300)(hi:i<=s.size):Calls prog 150 #[P_ bp,I_ p] w (nf w bp s i p et ex):=by
 obtain⟨f1,Q_⟩:=y_ (nf w bp s i p et ex);rw[<- Q_.o];have e3:=h.lt;replace hG:=zy hG;have Q:=zy (yO 40 (c:=40) h hG X hs hi rfl D_);clear h;by_cases h40:bt s i=40;case neg=>
  have d0:=zy (show xZ s i=.error i by unfold xZ;rw[n_ h40]);replace h40:=zy h40;go_in;go_wp2_with (go_at_call 114;apply Q.o.mono;rintro e w1 ⟨v1,rfl,a3,hm⟩;obtain⟨g,a9,rfl,U,h1⟩:∃g,w.heap.size<=g/\v1=.iface 175 (P_ g)/\Blk w1 g [I_ i,.iface et ex] 177/\PAt w1 bp s i:=xv_;replace a3:=zy a3;replace U:=zy U;replace h1:=zy h1);try go_ret
  rw[Q_.o];refine⟨.nilIface,_,.inl rfl,rfl,a3,?_⟩;rw[d0.o];exact⟨⟨g,a9,rfl,U⟩,i,hi,h1⟩
 case pos=>
  have e6:i+1<=s.size:=zr (s:=s) (i:=i) M_;have d0:=zy (show xZ s i=gS s [] (kw s (i+1)) by rw[eX,i_ h40]);replace h40:=zy h40;go_in;go_wp2_with (go_at_call 114;apply Q.o.mono;rintro e w1 ⟨v1,rfl,a3,hm⟩;obtain⟨rfl,h1⟩:v1=.nilIface/\PAt w1 bp s (i+1):=xp_;have e7:=a3.size;have d9:=zy (⟨i+1,L_,[],⟨F_ h1 _,a3.alloc _,e3,e7,x8_,B_ w1 _ _,World.ownsRow_nil _ _ _ _⟩,e6,x8_,M_,d0⟩:GD w bp s i w1.heap.size (p:Int) (s.size+1) (w1.alloc (.cells #[I_ p,L_,.pointer none] 215)));clear a3 hm h1 Q);obtain⟨b0,e2⟩:=e_ w1.heap.size;rw[<- e2]at d9⊢;clear e2;go_loopg [] (s.size+1) (λm W=>GD w bp s i b0 (p:Int) m W);case atStart=>exact d9
  case round=>
   clear d9 d0;obtain⟨j,sv,l,M,hj,f9,hm,D⟩:=hrel;obtain⟨sa,sc,rfl⟩:=zh M.row;have f7:l.length<=300:=M_;have hC:=zy (xI M.here (hG.o.fr M.fr (Ne.symm X)) X hs hj);have e9:=M.fr.size;have f6:=M.hB;have g1:=M.w0;rw[gN]at D;obtain⟨ti,b6,b7,b8,b9⟩:=info_parts XS;replace M:=zy M;obtain⟨x,hx⟩:=x_ (bt s j);cases hsm:zt x with
   |false=>
    have a5:=zy (show xZ s i=.error j by rw[D,hx,hsm];rfl);replace hsm:=zy (show zt (bt s j)=false by rw[hx];exact hsm);replace hx:=zy hx;clear D;go_wp2_with (first
     |(go_at_call 165;apply hC.o.mono;rintro e N ⟨a,b,O,rfl,t,hm⟩;obtain⟨g,a9,rfl,U,r⟩:∃g,wr.heap.size<=g/\O=.iface 175 (P_ g)/\Blk N g [I_ j,.iface et ex] 177/\PAt N bp s j:=xr_;replace t:=zy t;replace U:=zy U;replace r:=zy r))
    try go_ret
    rw[Q_.o];refine⟨.nilIface,_,.inl rfl,rfl,(M.o.fr.trans t u_).alloc _,?_⟩;rw[a5.o];exact⟨⟨g,ai_ e9 a9,rfl,U.o.alloc _⟩,j,hj,F_ r _⟩
   |true=>
   have a0:j+1<=s.size:=zr (xo (by rw[hx];exact hsm));rw[hx,hsm,i_ rfl]at D;replace hsm:=zy (show zt (bt s j)=true by rw[hx];exact hsm);replace hx:=zy hx;obtain⟨y,hy⟩:=x_ (bt s (j+1));rw[hy]at D;by_cases e1:y=44;case pos=>
    subst e1;rw[i_ rfl]at D;replace D:=zy D;have a6:j+1+1<=s.size:=zr (s:=s) (i:=j+1) M_;replace hy:=zy hy;go_wp2_with (first
     |(go_at_call 165;apply hC.o.mono;rintro e N ⟨a,b,O,rfl,t,hm⟩;obtain⟨rfl,rfl,rfl,r⟩:a=(j:Int)/\b=(x:Int)/\O=.nilIface/\PAt N bp s (j+1):=x7_;have f:=(M.o.call r t).alloc (.cells #[I_ j,U_ x] 182);have G:=B_ N #[I_ j,U_ x] 182;have t1:=f.b.c1;have n0:=G.c0;have n1:=G.c1;have d6:=(M.o.call r t).hB;replace f:=zy f;clear r t G hm)
     |(at_builtin;go_must (refine wpList_append_own_at _ rfl _ _ 212 rfl (b0+1) 182 ti _ 2 16 wn b6 b7 b8 b9 rfl D_ (.slice sa l.length sc) l.length (yu l) rfl ?hown _ 1 1 [I_ j,U_ x] rfl rfl (zL _ #[I_ j,U_ x] _ _ ?nn) ?one ?b1 ?b2 ?b3 ?_)
       case hown=>exact World.ownsRow.alloc f.o.row _
       case nn=>simp
       case one=>simp[Value.oneCell']
       case b1=>unfold maxLen;omega
       case b2=>omega
       case b3=>simp;omega
       intro v5 w5 J I a7 V
       have d:=(f.o.item ((A_ _ _).alloc _) I J V 1).1
       have E:=f.o.ie ((A_ _ _).alloc _) I
       have e5:=E.c1
       have f5:=E.th 1
       obtain⟨S,R,rfl⟩:=zu J M_
       clear I V a7 J E
       replace d:=zy d)
     |(go_at_call 115;apply(yG d.o.here hs a0 hy D_ D_).mono;rintro e w6 ⟨rfl,B,A⟩;have u:=zy (d.o.call A B);clear B A))
    go_roundg (s.size+1-(j+2));case measure=>omega
    case rel=>
     refine⟨j+2,S_ S (l.length+1) R,l++[(x,j)],?_,a6,by rw[ah_,ap_];omega,l_,D⟩;rw[fM,ah_,ap_];exact u
   case neg=>
   rw[n_ e1]at D;by_cases e0:y=33;case neg=>
    have a5:=zy (show xZ s i=if bt s (j+1)=41 then .ok ((l++[(x,j)],none),j+2) else .error (j+1) by rw[D];unfold au;rw[hy,n_ e0]);replace hy:=zy hy;clear D;go_wp2_with (first
     |(go_at_call 165;apply hC.o.mono;rintro e N ⟨a,b,O,rfl,t,hm⟩;obtain⟨rfl,rfl,rfl,r⟩:a=(j:Int)/\b=(x:Int)/\O=.nilIface/\PAt N bp s (j+1):=x7_;have f:=(M.o.call r t).alloc (.cells #[I_ j,U_ x] 182);have G:=B_ N #[I_ j,U_ x] 182;have t1:=f.b.c1;have n0:=G.c0;have n1:=G.c1;have d6:=(M.o.call r t).hB;replace f:=zy f;clear r t G hm)
     |(at_builtin;go_must (refine wpList_append_own_at _ rfl _ _ 212 rfl (b0+1) 182 ti _ 2 16 wn b6 b7 b8 b9 rfl D_ (.slice sa l.length sc) l.length (yu l) rfl ?hown _ 1 1 [I_ j,U_ x] rfl rfl (zL _ #[I_ j,U_ x] _ _ ?nn) ?one ?b1 ?b2 ?b3 ?_)
       case hown=>exact World.ownsRow.alloc f.o.row _
       case nn=>simp
       case one=>simp[Value.oneCell']
       case b1=>unfold maxLen;omega
       case b2=>omega
       case b3=>simp;omega
       intro v5 w5 J I a7 V
       have d:=(f.o.item ((A_ _ _).alloc _) I J V 1).1
       have E:=f.o.ie ((A_ _ _).alloc _) I
       have e5:=E.c1
       have f5:=E.th 1
       obtain⟨S,R,rfl⟩:=zu J M_
       clear I V a7 J E
       replace d:=zy d)
     |(go_at_call 115;apply(yF d.o.here hs a0 hy M_ D_).mono;rintro e w6 ⟨rfl,B,A⟩;have a2:=d.o.call A B;clear d;have d:=zy a2;clear a2 B A))
    obtain⟨u0,u1,u2⟩:=d.o.b.f3;simp only[an_,ao_,aa_,ab_]at u0 u1 u2;obtain⟨wd,b5⟩:=e_ ((w6).drew);have a8:zw (w6) wd:=b5▸zw.drew _;have v:=d.o.call (d.o.here.si a8) ((A_ _ _).si a8);have d2:=zy (yO (c:=41) 41 v.here (hG.o.fr v.fr (Ne.symm X)) X hs a0 rfl D_);replace v:=zy v;refine tr_ 5 (λW=>z_ W b0 0 (I_ p)/\z_ W b0 1 (S_ S (l.length+1) R)/\z_ W b0 2 (.pointer none)) ?_;refine tz_ 0 ?_;refine tz_ 1 ?_;refine tz_ 2 ?_;refine yz 3 rfl K_ (λ_=>⟨u0,u1,u2⟩) (λK hK=>?_);go_simp;rw[<- b5];apply d2.o.mono;rintro e w8 ⟨v8,rfl,Y,Q⟩;refine hK _ _ ?_;clear hK K;have F:∃j8,j8<=s.size/\AM w bp s j8 b0 [I_ p,(S_ S (l.length+1) R),.pointer none] 215 182 2 (S_ S (l.length+1) R) (l.length+1) (yu l++[I_ j,U_ x]) w8:=by
     rcases Q with⟨_,_,H,b4⟩|⟨_,_,H⟩
     .exact⟨_,b4,v.o.call H Y⟩
     .exact⟨_,a0,v.o.call H Y⟩
    obtain⟨j8,e4,F⟩:=F;obtain⟨x0,x1,x2⟩:=F.b.d3;refine t1_ 4 ⟨x0,x1,x2⟩ ?_;refine t1_ 5 ⟨x0,x1,x2⟩ ?_;refine td_ ?_ _;revert Y Q F;refine h_ λY Q F=>?_;clear x0 x1 x2 u0 u1 u2;go_wp2;try go_ret
    rw[Q_.o];refine⟨.iface 215 (.agg #[I_ p,(S_ S (l.length+1) R),.pointer none]),v8,.inr ⟨_,_,rfl⟩,rfl,F.o.fr,?_⟩;have d8:=v.o.fr.size;rw[a5.o];rcases Q.o with⟨hb,rfl,H,b4⟩|⟨hb,hF,H⟩
    .rw[i_ hb];exact⟨rfl,H,tP F rfl⟩
    .rw[n_ hb];exact⟨hF.ls d8,_,a0,H⟩
   case pos=>
   subst e0;have a6:j+1+1<=s.size:=zr (s:=s) (i:=j+1) M_;obtain⟨q2,Z⟩:=e_ (j+1+1);obtain⟨z,hz⟩:=x_ (bt s (q2));cases a1:zt z with
   |false=>
    have a5:=zy (show xZ s i=.error q2 by rw[D];unfold au;rw[hy,i_ rfl,show j+1+1=q2 from Z.symm,hz,a1];rfl);rw[<- Z]at a6;replace Z:=zy Z;replace a1:=zy (show zt (bt s (q2))=false by rw[hz];exact a1);replace hy:=zy hy;replace hz:=zy hz;clear D;go_wp2_with (first
     |(go_at_call 165;apply hC.o.mono;rintro e N ⟨a,b,O,rfl,t,hm⟩;obtain⟨rfl,rfl,rfl,r⟩:a=(j:Int)/\b=(x:Int)/\O=.nilIface/\PAt N bp s (j+1):=x7_;have f:=(M.o.call r t).alloc (.cells #[I_ j,U_ x] 182);have G:=B_ N #[I_ j,U_ x] 182;have t1:=f.b.c1;have n0:=G.c0;have n1:=G.c1;have d6:=(M.o.call r t).hB;replace f:=zy f;clear r t G hm)
     |(at_builtin;go_must (refine wpList_append_own_at _ rfl _ _ 212 rfl (b0+1) 182 ti _ 2 16 wn b6 b7 b8 b9 rfl D_ (.slice sa l.length sc) l.length (yu l) rfl ?hown _ 1 1 [I_ j,U_ x] rfl rfl (zL _ #[I_ j,U_ x] _ _ ?nn) ?one ?b1 ?b2 ?b3 ?_)
       case hown=>exact World.ownsRow.alloc f.o.row _
       case nn=>simp
       case one=>simp[Value.oneCell']
       case b1=>unfold maxLen;omega
       case b2=>omega
       case b3=>simp;omega
       intro v5 w5 J I a7 V
       have d:=(f.o.item ((A_ _ _).alloc _) I J V 1).1
       have E:=f.o.ie ((A_ _ _).alloc _) I
       have e5:=E.c1
       have f5:=E.th 1
       obtain⟨S,R,rfl⟩:=zu J M_
       clear I V a7 J E
       replace d:=zy d)
     |(go_at_call 115;apply(yG d.o.here hs a0 hy D_ D_).mono;rintro e w6 ⟨rfl,B,A⟩;have u:=d.o.call A B;rw[<- Z.o]at u;have d1:=zy (xI u.here (hG.o.fr u.fr (Ne.symm X)) X hs a6);replace u:=zy u;clear B A)
     |(go_at_call 115;apply(yF d.o.here hs a0 hy M_ D_).mono;rintro e w6 ⟨rfl,B,A⟩;have a2:=d.o.call A B;clear d;have d:=zy a2;clear a2 B A)
     |(go_at_call 165;apply d1.o.mono;rintro e C ⟨a,b,O,rfl,a4,hm⟩;obtain⟨g,a9,rfl,U,h7⟩:∃g,w6.heap.size<=g/\O=.iface 175 (P_ g)/\Blk C g [I_ q2,.iface et ex] 177/\PAt C bp s q2:=(by rcases hm with⟨hq,_⟩|⟨_,⟨g,q1,q2,q3⟩,q4⟩;(exact absurd (a1.o.symm.trans hq) D_);exact⟨g,q1,q2,q3,q4⟩);replace a4:=zy a4;replace U:=zy U;replace h7:=zy h7))
    try go_ret
    rw[Q_.o];refine⟨.nilIface,_,.inl rfl,rfl,(u.o.fr.trans a4 u_).alloc _,?_⟩;rw[a5.o];have e8:=u.o.fr.size;exact⟨⟨g,ai_ e8 a9,rfl,U.o.alloc _⟩,_,a6,F_ h7 _⟩
   |true=>
    have d7:q2+1<=s.size:=zr (xo (by rw[hz];exact a1));have a5:=zy (show xZ s i=if bt s (q2+1)=41 then .ok ((l++[(x,j)],some (z,q2)),q2+1+1) else .error (q2+1) by rw[D];unfold au;rw[hy,i_ rfl,show j+1+1=q2 from Z.symm,hz,a1,i_ rfl,show j+1+2=q2+1 by omega,show j+1+3=q2+1+1 by omega]);rw[<- Z]at a6;replace Z:=zy Z;replace a1:=zy (show zt (bt s (q2))=true by rw[hz];exact a1);replace hy:=zy hy;replace hz:=zy hz;clear D;go_wp2_with (first
     |(go_at_call 165;apply hC.o.mono;rintro e N ⟨a,b,O,rfl,t,hm⟩;obtain⟨rfl,rfl,rfl,r⟩:a=(j:Int)/\b=(x:Int)/\O=.nilIface/\PAt N bp s (j+1):=x7_;have f:=(M.o.call r t).alloc (.cells #[I_ j,U_ x] 182);have G:=B_ N #[I_ j,U_ x] 182;have t1:=f.b.c1;have n0:=G.c0;have n1:=G.c1;have d6:=(M.o.call r t).hB;replace f:=zy f;clear r t G hm)
     |(at_builtin;go_must (refine wpList_append_own_at _ rfl _ _ 212 rfl (b0+1) 182 ti _ 2 16 wn b6 b7 b8 b9 rfl D_ (.slice sa l.length sc) l.length (yu l) rfl ?hown _ 1 1 [I_ j,U_ x] rfl rfl (zL _ #[I_ j,U_ x] _ _ ?nn) ?one ?b1 ?b2 ?b3 ?_)
       case hown=>exact World.ownsRow.alloc f.o.row _
       case nn=>simp
       case one=>simp[Value.oneCell']
       case b1=>unfold maxLen;omega
       case b2=>omega
       case b3=>simp;omega
       intro v5 w5 J I a7 V
       have d:=(f.o.item ((A_ _ _).alloc _) I J V 1).1
       have E:=f.o.ie ((A_ _ _).alloc _) I
       have e5:=E.c1
       have f5:=E.th 1
       obtain⟨S,R,rfl⟩:=zu J M_
       clear I V a7 J E
       replace d:=zy d)
     |(go_at_call 115;apply(yG d.o.here hs a0 hy D_ D_).mono;rintro e w6 ⟨rfl,B,A⟩;have u:=d.o.call A B;rw[<- Z.o]at u;have d1:=zy (xI u.here (hG.o.fr u.fr (Ne.symm X)) X hs a6);replace u:=zy u;clear B A)
     |(go_at_call 115;apply(yF d.o.here hs a0 hy M_ D_).mono;rintro e w6 ⟨rfl,B,A⟩;have a2:=d.o.call A B;clear d;have d:=zy a2;clear a2 B A)
     |(go_at_call 165;apply d1.o.mono;rintro e C ⟨a,b,O,rfl,a4,hm⟩;obtain⟨rfl,rfl,rfl,h7⟩:a=(q2:Int)/\b=(z:Int)/\O=.nilIface/\PAt C bp s (q2+1):=(by rcases hm with⟨_,q1,q2,q3,q4,_⟩|⟨hq,_⟩;(exact⟨q1,q2.trans (by rw[hz.o]),q3,q4⟩);exact absurd (a1.o.symm.trans hq) D_);have M7:=(u.o.call h7 a4).alloc (.cells #[I_ q2,U_ z] 182);have N7:=B_ C #[I_ q2,U_ z] 182;have k2:=M7.b.cell 2;have kg:=M7.b.th 2;simp only[an_,ao_,aa_,ab_]at k2;have f2:=(u.o.call h7 a4).hB;have M8:=M7.put 2 (P_ C.heap.size);have N8:=zy (E_ N7 (a:=⟨b0,2,none⟩) (P_ C.heap.size) (by show ¬(C.heap.size=b0);omega));replace M8:=zy M8;clear h7 a4 N7 hm M7))
    obtain⟨u0,u1,u2⟩:=M8.o.b.f3;simp only[an_,ao_,aa_,ab_]at u0 u1 u2;obtain⟨wd,b5⟩:=e_ (((C.alloc (.cells #[I_ q2,U_ z] 182)).setCell ⟨b0,2,none⟩ (P_ C.heap.size)).drew);have a8:zw ((C.alloc (.cells #[I_ q2,U_ z] 182)).setCell ⟨b0,2,none⟩ (P_ C.heap.size)) wd:=b5▸zw.drew _;have v:=M8.o.call (M8.o.here.si a8) ((A_ _ _).si a8);have d2:=zy (yO (c:=41) 41 v.here (hG.o.fr v.fr (Ne.symm X)) X hs d7 rfl D_);replace v:=zy v;refine tr_ 5 (λW=>z_ W b0 0 (I_ p)/\z_ W b0 1 (S_ S (l.length+1) R)/\z_ W b0 2 (P_ C.heap.size)) ?_;refine tz_ 0 ?_;refine tz_ 1 ?_;refine tz_ 2 ?_;refine yz 3 rfl K_ (λ_=>⟨u0,u1,u2⟩) (λK hK=>?_);go_simp;rw[<- b5];apply d2.o.mono;rintro e w8 ⟨v8,rfl,Y,Q⟩;refine hK _ _ ?_;clear hK K;have F:∃j8,j8<=s.size/\AM w bp s j8 b0 [I_ p,(S_ S (l.length+1) R),P_ C.heap.size] 215 182 2 (S_ S (l.length+1) R) (l.length+1) (yu l++[I_ j,U_ x]) w8:=by
     rcases Q with⟨_,_,H,b4⟩|⟨_,_,H⟩
     .exact⟨_,b4,v.o.call H Y⟩
     .exact⟨_,d7,v.o.call H Y⟩
    obtain⟨j8,e4,F⟩:=F;obtain⟨x0,x1,x2⟩:=F.b.d3;refine t1_ 4 ⟨x0,x1,x2⟩ ?_;refine t1_ 5 ⟨x0,x1,x2⟩ ?_;refine td_ ?_ _;revert Y Q F;refine h_ λY Q F=>?_;clear x0 x1 x2 u0 u1 u2;go_wp2;try go_ret
    rw[Q_.o];refine⟨.iface 215 (.agg #[I_ p,(S_ S (l.length+1) R),P_ C.heap.size]),v8,.inr ⟨_,_,rfl⟩,rfl,F.o.fr,?_⟩;have d8:=v.o.fr.size;rw[a5.o];rcases Q.o with⟨hb,rfl,H,b4⟩|⟨hb,hF,H⟩
    .rw[i_ hb];have hN:Blk w8 C.heap.size [I_ q2,U_ z] 182:=Y.o.bl (((A_ _ N_).si a8).bl N8 id) (by have:=M.o.lt;omega);exact⟨rfl,H,tP F ⟨C.heap.size,M_,rfl,hN⟩⟩
    .rw[n_ hb];exact⟨hF.ls d8,_,d7,H⟩
def np(w:Aw)(bp:Nat)(s:BA)(i:Nat)(et:As)(ex:Ax)(e:Ah)(w':Aw):Prop:=
 ∃v ev,IfV v/\e=.returned (.tuple #[v,ev])/\Fr w w' (· = bp)/\
 match xu s i with
 | .ok (b,j)=>ev=.nilIface/\PAt w' bp s j/\yM w' (λg=>w.heap.size<=g) s b v
 | .error k=>yq w' w.heap.size ev (k:Int) (.iface et ex)/\∃j,j<=s.size/\PAt w' bp s j
def dN{w:Aw}{bp:Nat}{s:BA}(h:PAt w bp s i)(C:pF w et ex)(E:bp≠0)(hs:s.size<=300)(y:i<=s.size):Calls prog 113 #[P_ bp] w (np w bp s i et ex):=by
 obtain⟨O,F⟩:=y_ (np w bp s i et ex);rw[<- F.o];have a:=zy (And.intro h (A_ w (λx=>x=bp)));replace C:=zy C;by_cases u:bt s i=114
 .have D:i+1<=s.size:=zr (s:=s) (i:=i) M_;have hp:=zy (dS u);have hx:=zy u;go_in;go_wp2_with (first
   |(go_at_call 112;refine(yr a.o.1).mono ?_;rintro e w' ⟨rfl,A⟩;rw[A])
   |(go_at_call 115;refine(yG a.o.1 hs y hx D_ D_).mono ?_;rintro e w' ⟨rfl,c,b⟩;have f:=zy (And.intro b (a.o.2.trans c u_)))
   |(go_at_call 149;refine(iE (p:=i) f.o.1 (C.o.fr f.o.2 (Ne.symm E)) E hs D).mono ?_;rintro e N ⟨v,G,m,rfl,q,hm⟩;replace q:=zy q;replace hm:=zy hm;replace m:=zy m))
  try go_ret
  rw[F.o];have t:=f.o.2.size;refine⟨v,G,m,rfl,f.o.2.trans q u_,?_⟩;rw[hp.o];have d:=hm.o;cases z:yh s (i+1) with
  |error k=>rw[z]at d;exact⟨d.1.ls t,d.2⟩
  |ok r=>
   obtain⟨fs,j⟩:=r;rw[z]at d;exact⟨d.1,d.2.1,(d.2.2 ⟨j,by rw[hp.o,z]⟩).mono (λg _ hg=>ai_ t hg)⟩
 .by_cases B:bt s i=101
  .have D:i+1<=s.size:=zr (s:=s) (i:=i) M_;have hp:=zy (ll B);have hx:=zy B;go_in;go_wp2_with (first
    |(go_at_call 112;refine(yr a.o.1).mono ?_;rintro e w' ⟨rfl,A⟩;rw[A])
    |(go_at_call 115;refine(yG a.o.1 hs y hx D_ D_).mono ?_;rintro e w' ⟨rfl,c,b⟩;have f:=zy (And.intro b (a.o.2.trans c u_)))
    |(go_at_call 115;refine(yF a.o.1 hs y hx D_ D_).mono ?_;rintro e w' ⟨rfl,c,b⟩;replace a:=zy (And.intro b (a.o.2.trans c u_)))
    |(go_at_call 150;refine(Xv (p:=i) f.o.1 (C.o.fr f.o.2 (Ne.symm E)) E hs D).mono ?_;rintro e N ⟨v,G,m,rfl,q,hm⟩;replace q:=zy q;replace hm:=zy hm;replace m:=zy m))
   try go_ret
   rw[F.o];have t:=f.o.2.size;refine⟨v,G,m,rfl,f.o.2.trans q u_,?_⟩;rw[hp.o];have d:=hm.o;cases z:xZ s (i+1) with
   |error k=>rw[z]at d;exact⟨d.1.ls t,d.2⟩
   |ok r=>
    obtain⟨⟨l,o⟩,j⟩:=r;rw[z]at d;exact⟨d.1,d.2.1,(d.2.2 ⟨j,by rw[hp.o,z]⟩).mono (λg _ hg=>ai_ t hg)⟩
  .by_cases H:bt s i=102
   .have D:i+1<=s.size:=zr (s:=s) (i:=i) M_;have hp:=zy (gX H);have hx:=zy H;go_in;go_wp2_with (first
     |(go_at_call 112;refine(yr a.o.1).mono ?_;rintro e w' ⟨rfl,A⟩;rw[A])
     |(go_at_call 115;refine(yG a.o.1 hs y hx D_ D_).mono ?_;rintro e w' ⟨rfl,c,b⟩;have f:=zy (And.intro b (a.o.2.trans c u_)))
     |(go_at_call 115;refine(yF a.o.1 hs y hx D_ D_).mono ?_;rintro e w' ⟨rfl,c,b⟩;replace a:=zy (And.intro b (a.o.2.trans c u_)))
     |(go_at_call 151;refine(ot (p:=(i:Int)) f.o.1 (C.o.fr f.o.2 (Ne.symm E)) hs D).mono ?_;rintro e N ⟨v,G,m,rfl,q,hm⟩;replace q:=zy q;replace hm:=zy hm;replace m:=zy m))
    try go_ret
    rw[F.o];have t:=f.o.2.size;refine⟨v,G,m,rfl,f.o.2.trans q u_,?_⟩;rw[hp.o];rcases hm.o with⟨J,K,rfl,rfl,q3,_⟩|⟨J,K,q3⟩
    .rw[i_ ⟨J,K⟩];exact⟨rfl,q3,.bytes i _ ⟨_,by rw[hp.o,i_ ⟨J,K⟩]⟩⟩
    .rw[n_ J];exact⟨K.ls t,_,D,q3⟩
   .have hp:=zy (dI u B H);obtain⟨x,hx⟩:=x_ (bt s i);rw[hx]at u B H;replace hx:=zy hx;go_in;go_wp2_with (first
     |(go_at_call 112;refine(yr a.o.1).mono ?_;rintro e w' ⟨rfl,A⟩;rw[A])
     |(go_at_call 115;refine(yF a.o.1 hs y hx M_ D_).mono ?_;rintro e w' ⟨rfl,c,b⟩;replace a:=zy (And.intro b (a.o.2.trans c u_)))
     |(go_at_call 74;refine(vz a.o.1 (C.o.fr a.o.2 (Ne.symm E))).mono ?_;rintro e R ⟨v,rfl,M,I⟩;replace M:=zy M;replace I:=zy I))
    try go_ret
    rw[F.o];have t:=a.o.2.size;refine⟨.nilIface,v,.inl rfl,rfl,a.o.2.trans I v_,?_⟩;rw[hp.o];exact⟨M.o.ls t,i,y,I.o.bl a.o.1 id⟩
def atD(s:BA)(i:Nat):Bool:=zZ (bt s i)&&decide (i+1<s.size)&&decide (bt s (i+1)=61)
def jU{w:Aw}{bp:Nat}{s:BA}(h:PAt w bp s i)(hs:s.size<=300)(g:i<=s.size):Calls prog 71 #[P_ bp] w λe w'=>e=.returned (.bool (atD s i))/\zw w w':=by
 have c0:=h.c0;have c1:=h.c1;obtain⟨x,hx⟩:=x_ (bt s i);have c:H_ (∀q,Calls prog 111 #[P_ bp] (w.drewN q) λe w'=>e=.returned (U_ x)/\∃m,w'=(w.drewN q).drewN m):=zy (λq=>by rw[<- hx];exact yl (h.si (zw.drewN w q)) hs g);have d:H_ (∀(q:Nat) (b:Bool),zZ x=b->Calls prog 110 #[U_ x] (w.drewN q) λe w'=>e=.returned (.bool b)/\w'=w.drewN q):=zy (λq b hb=>by rw[<- hb];exact gh x _);unfold atD;rw[hx];clear h hx;cases hn:zZ x with
 |false=>
  replace hn:=zy hn;go_in;go_wp2;go_quiet (first|(go_at_call 111;exact Calls.quiet_of (c.o _))|(go_at_call 110;exact Calls.quiet_of_same (d.o _ _ hn)));go_wp2;try go_ret
  exact⟨rfl,zw.drewN _ _⟩
 |true=>
  replace hn:=zy hn;by_cases h1:i+1<s.size
  .obtain⟨k,hk⟩:=e_ (i+1);have l:IntKind.i64.wrap ((i:Int)+1)=(k:Int):=y4_
   rw[<- hk]at h1;rw[<- hk];have a:(k:Int)<(s.size:Int):=M_;have hb:(((s[k]'h1).toNat:Int)==61)=decide (bt s k=61):=by
    rw[vS s k h1];by_cases e:(s[k]'h1).toNat=61
    .rw[e];rfl
    .rw[decide_eq_false e,beq_eq_false_iff_ne];omega
   have hd:decide (k<s.size)=true:=decide_eq_true h1;clear hk;rw[hd,Bool.true_and,Bool.true_and,<- hb];clear hd hb;go_in;go_wp2;go_quiet (first|(go_at_call 111;exact Calls.quiet_of (c.o _))|(go_at_call 110;exact Calls.quiet_of_same (d.o _ _ hn)));go_wp2;try go_ret
   exact⟨rfl,zw.drewN _ _⟩
  .have a:¬((i:Int)+1<(s.size:Int)):=M_;have l:IntKind.i64.wrap ((i:Int)+1)=(i:Int)+1:=y4_
   have f:decide ((i:Int)+1<(s.size:Int))=false:=decide_eq_false a;have hd:decide (i+1<s.size)=false:=decide_eq_false h1;rw[hd,Bool.and_false,Bool.false_and];clear hd;go_in;go_wp2;go_quiet (first|(go_at_call 111;exact Calls.quiet_of (c.o _))|(go_at_call 110;exact Calls.quiet_of_same (d.o _ _ hn)));go_wp2;try go_ret
   exact⟨rfl,zw.drewN _ _⟩
end Go.Proofs.YtahhhgbojlkjnaaGreatDoor
