import Derived.Test.YtjkiencmjggakaaGreatDoorW03
import Derived.Lib.ParseIntB
set_option maxHeartbeats 16000000
set_option maxRecDepth 100000
set_option linter.defProp false
set_option linter.unusedSimpArgs false
open Go.Proofs.Tryz
namespace Go.Proofs.YtjkiencmjggakaaGreatDoor
open Go.RowKit
variable {wg MX:Int}{TS:List TR}{US:List (Nat×Nat)}{r l:List UInt8}{W':World}{j' kd:Nat}
structure WM(w:World)(X:Nat->Prop)(br bz B:Nat)(s:BA)(tv0 u0:Value)(ds:List PD)(j:Nat)(bad:Bool)(wg MX:Int)(TS:List TR)(US:List (Nat×Nat))(Xk:Nat->Prop)(zs:List Value)(tv u:Value)(W:World):Prop where
 R:Rep W Xk br bz B s j bad wg MX TS US zs tv u
 D:xe W Xk B s zs ds
 XX:∀g,X g->Xk g
 st:zC w W br bz tv0 u0 tv u
def FS(w:World)(X:Nat->Prop)(br bz B:Nat)(s:BA)(wr mx:Int)(tv0 u0:Value)(m:Nat)(nv:Value)(W:World):Prop:=
 ∃n:Nat,nv=I_ n/\n<=6/\7-n<=m/\
  ((∃ds j Xk zs tv u,ds.length=n/\WM w X br bz B s tv0 u0 ds j false (jK [] ds wr) (jP ds mx) (yS 0 ds) (vS ds) Xk zs tv u W/\yb s 6 0=jt ds (yb s (6-n) j))\/
   (∃k Xk zs tv u wg MX TS US,Rep W Xk br bz B s k true wg MX TS US zs tv u/\zC w W br bz tv0 u0 tv u/\(∀g,X g->Xk g)/\ze s=.error k))
def vD(w:World)(X:Nat->Prop)(br bz B:Nat)(s:BA)(wr mx:Int)(tv0 u0:Value)(W:World):Prop:=
 match ze s with
 | .error k=>∃Xk zs tv u wg MX TS US,Rep W Xk br bz B s k true wg MX TS US zs tv u/\zC w W br bz tv0 u0 tv u/\(∀g,X g->Xk g)
 | .ok (ds,t)=>∃Xk zs tv u,WM w X br bz B s tv0 u0 ds s.size false (jK [] ds wr) (mix t (jP ds mx)) (yS 0 ds++flat (yS 0 ds).length t) (vS ds++zZ t) Xk zs tv u W/\
  zs[30]?=some (z_ (((yS 0 ds).length+(flat (yS 0 ds).length t).length-1:Nat):Int))
def WM.si{w:World}{X Xk:Nat->Prop}{br bz B:Nat}{s:BA}{tv0 u0 tv u:Value}{ds:List PD}{j:Nat}{bad:Bool}{zs:List Value}{W:World}(M:WM w X br bz B s tv0 u0 ds j bad wg MX TS US Xk zs tv u W)(h:zq W W'):WM w X br bz B s tv0 u0 ds j bad wg MX TS US Xk zs tv u W':=
 ⟨M.R.si h,M.D.step M.R (zC.oS h),M.XX,M.st.si h⟩
def jI{w W:World}{X Xk:Nat->Prop}{br bz B:Nat}{s:BA}{wr mx:Int}{tv0 u0 tv u:Value}{k:Nat}{zs:List Value}(h:ze s=.error k)(R:Rep W Xk br bz B s k true wg MX TS US zs tv u)(st:zC w W br bz tv0 u0 tv u)(hX:∀g,X g->Xk g):vD w X br bz B s wr mx tv0 u0 W:=by
 unfold vD;rw[h];exact⟨_,_,_,_,_,_,_,_,R,st,hX⟩
def sS{s:BA}{ds:List PD}{i:Nat}(h:yb s 6 0=.ok (ds,i)):ze s=match pT s i with | .error k=>.error k | .ok (t,j)=>if j<s.size then .error j else .ok (ds,t):=by
 unfold ze;rw[h];rfl
def wk{s:BA}{k:Nat}(h:yb s 6 0=.error k):ze s=.error k:=by unfold ze;rw[h]
def VY{w W:World}{X Xk:Nat->Prop}{br bz B:Nat}{s:BA}{wr mx:Int}{tv0 u0 tv u:Value}{zs:List Value}{ds:List PD}{t:PT}(h:ze s=if j'<s.size then .error j' else .ok (ds,t))(a:¬j'<s.size)(b:j'<=s.size)(M:WM w X br bz B s tv0 u0 ds j' false (jK [] ds wr) (mix t (jP ds mx)) (yS 0 ds++flat (yS 0 ds).length t) (vS ds++zZ t) Xk zs tv u W)(hz:zs[30]?=some (z_ (((yS 0 ds).length+(flat (yS 0 ds).length t).length-1:Nat):Int))):vD w X br bz B s wr mx tv0 u0 W:=by
 have e:j'=s.size:=M_;subst e;unfold vD;rw[h,n_ a];exact⟨_,_,_,_,M,hz⟩
def WM.call{w:World}{X Xk:Nat->Prop}{br bz B:Nat}{s:BA}{tv0 u0 tv u tv' u':Value}{ds:List PD}{j:Nat}{bad e:Bool}{f a:Int}{b:List TR}{d:List (Nat×Nat)}{zs:List Value}{W:World}(M:WM w X br bz B s tv0 u0 ds j bad wg MX TS US Xk zs tv u W)(g:Rep W' Xk br bz B s j' e f a b d zs tv' u')(st:zC W W' br bz tv u tv' u'):WM w X br bz B s tv0 u0 ds j' e f a b d Xk zs tv' u' W':=
 ⟨g,M.D.step M.R st,M.XX,M.st.trans st⟩
def xe.wider{W:World}{X Y:Nat->Prop}{B:Nat}{s:BA}{zs:List Value}{ds:List PD}(h:xe W X B s zs ds)(f:∀g,X g->Y g):xe W Y B s zs ds:=by
 refine⟨h.1,λk hk=>?_⟩;obtain⟨so,fv,sb,o,n,a,xs,h1,b,d,e⟩:=h.2 k hk;exact⟨so,fv,sb,o,n,a,xs,h1,b,λg hg=>f g (d g hg),e⟩
def held(W:World)(v0 v1 v2 v3 v4:Value):World:=W.alloc (.cells #[v0,v1,v2,v3,v4] 44)
def uJ(W:World)(a b d e f:Value)(S:Nat->Prop):Fr W (held W a b d e f) S:=(A_ W S).alloc _
def mL(W:World)(a b d e f:Value):Blk (held W a b d e f) W.heap.size [a,b,d,e,f] 44:=
 B_ W #[a,b,d,e,f] 44
def XW(W:World)(a b d e f:Value):W.heap.size<(held W a b d e f).heap.size:=(mL W a b d e f).lt
def WM.held{w:World}{X Xk:Nat->Prop}{br bz B:Nat}{s:BA}{tv0 u0 tv u tv' u':Value}{ds:List PD}{j:Nat}{bad x:Bool}{y p:Int}{t:List TR}{v:List (Nat×Nat)}{zs:List Value}{W:World}{fv:Value}(M:WM w X br bz B s tv0 u0 ds j bad wg MX TS US Xk zs tv u W)(st:zC W W' br bz tv u tv' u')(q:Rep W' (λg=>Xk g\/fv.ownBlock=some g) br bz B s j' x y p t v zs tv' u')(a b d f m:Value):WM w X br bz B s tv0 u0 ds j' x y p t v (λg=>(Xk g\/fv.ownBlock=some g)\/g=W'.heap.size) zs tv' u' (held W' a b d f m):=by
 have hs:=XW W' a b d f m;have t:=(q.o (uJ W' a b d f m _)).fe (Y:=λg=>(Xk g\/fv.ownBlock=some g)\/g=W'.heap.size) (λg hg=>by
  rcases hg with e|e
  .exact .inl e
  .exact .inr ⟨M_,M_⟩)
 have p:zC W' (Go.Proofs.YtjkiencmjggakaaGreatDoor.held W' a b d f m) br bz tv' u' tv' u':=⟨uJ W' a b d f m _,.inl rfl,.inl rfl⟩;have a:=M.D.step M.R st;exact⟨t,(a.wider (λg h=>.inl h)).step q p |>.wider (λg h=>.inl h),λg h=>.inl (.inl (M.XX g h)),(M.st.trans st).trans p⟩
def XH{s:BA}{ds:List PD}{n j c:Nat}(h:yb s 6 0=jt ds (yb s (6-n) j))(hn:n<6)(hc:bt s j=c)(a:(65<=c/\c<=70)/\j+1<s.size):yb s 6 0=if bt s (j+1)=61 then (match yZ s (j+2) with | .error k=>.error k | .ok (pb,e)=>if bt s e=59 then jt (ds++[⟨c,j,pb⟩]) (yb s (6-(n+1)) (e+1)) else .error e) else .error (j+1):=by
 rw[h,show 6-n=(6-(n+1))+1 by omega,km,hc,i_ ⟨by simp only[zp,ax_,decide_eq_true_eq];exact a.1,a.2⟩];rfl
def Bk(s:BA)(e j:Nat)(bad:Bool):Prop:=(bad=false/\bt s e=59/\j=e+1)\/(bad=true/\bt s e≠59/\j=e)
def Qc{w W:World}{X:Nat->Prop}{br bz B:Nat}{s:BA}{i:Nat}{wr mx:Int}{ts:List TR}{us:List (Nat×Nat)}{zs:List Value}{tv u:Value}(h:nM w X br bz B s i wr mx ts us zs tv u 59 W):∃j bad,Rep W X br bz B s j bad wr mx ts us zs tv u/\zC w W br bz tv u tv u/\Bk s i j bad:=by
 obtain⟨h,st⟩:=h;by_cases e:bt s i=59
 .rw[i_ e]at h;exact⟨_,_,h,st,.inl ⟨rfl,e,rfl⟩⟩
 .rw[n_ e]at h;exact⟨_,_,h,st,.inr ⟨rfl,e,rfl⟩⟩
def laid(W:World)(bz k:Nat)(v0 v1 v2 v3 v4:Value):World:=
 ((((W.setCell ⟨bz,1+k*5,none⟩ v0).setCell ⟨bz,1+k*5+1,none⟩ v1).setCell ⟨bz,1+k*5+2,none⟩ v2).setCell ⟨bz,1+k*5+3,none⟩ v3).setCell ⟨bz,1+k*5+4,none⟩ v4
def Rep.laid{w:World}{X:Nat->Prop}{br bz B:Nat}{s:BA}{i:Nat}{bad:Bool}{wr mx:Int}{ts:List TR}{us:List (Nat×Nat)}{zs:List Value}{tv u:Value}(R:Rep w X br bz B s i bad wr mx ts us zs tv u)(k:Nat)(a b d e f:Value):Rep (laid w bz k a b d e f) X br bz B s i bad wr mx ts us (cH zs (5*k) a b d e f) tv u/\zC w (Go.Proofs.YtjkiencmjggakaaGreatDoor.laid w bz k a b d e f) br bz tv u tv u:=by
 have h:=R.setDef (5*k) a b d e f;unfold Go.Proofs.YtjkiencmjggakaaGreatDoor.laid;rw[show 1+k*5=5*k+1 by omega,show 5*k+1+2=5*k+2+1 by omega,show 5*k+1+3=5*k+3+1 by omega,show 5*k+1+4=5*k+4+1 by omega];exact h
section
variable {w W:World} {X Xk:Nat->Prop} {br bz B:Nat} {s:BA} {wr mx:Int} {tv0 u0 tv u:Value} {ds:List PD} {j j6 e2 c k n:Nat} {bad6:Bool} {pb:PB} {zs:List Value}
def bh(a:yb s 6 0=if bt s e2=59 then jt (ds++[⟨c,j,pb⟩]) (yb s (6-(n+1)) (e2+1)) else .error e2)(b:Bk s e2 j6 bad6)(d:ds.length=n)(hn:n<6)(M:WM w X br bz B s tv0 u0 (ds++[⟨c,j,pb⟩]) j6 bad6 (jK [] (ds++[⟨c,j,pb⟩]) wr) (jP (ds++[⟨c,j,pb⟩]) mx) (yS 0 (ds++[⟨c,j,pb⟩])) (vS (ds++[⟨c,j,pb⟩])) Xk zs tv u W):FS w X br bz B s wr mx tv0 u0 (6-n) (z_ ((n:Int)+1)) W:=by
 refine⟨n+1,by simp,M_,M_,?_⟩;rcases b with⟨rfl,b,rfl⟩|⟨rfl,b,rfl⟩
 .rw[i_ b]at a;exact .inl ⟨_,_,_,_,_,_,by simp[d],M,a⟩
 .rw[n_ b]at a;exact .inr ⟨_,_,_,_,_,_,_,_,_,M.R,M.st,M.XX,wk a⟩
def nR{x:PB×Nat}(hc:c=65+k)(a:xR 0 (65+k) ds=some x)(M:WM w X br bz B s tv0 u0 ds j6 bad6 (zX j (pb.wr (jK [] ds wr))) (pb.mx (jP ds mx)) (yS 0 ds++pb.ts (yS 0 ds).length) (vS ds++pb.us) Xk zs tv u W):WM w X br bz B s tv0 u0 (ds++[⟨c,j,pb⟩]) j6 bad6 (jK [] (ds++[⟨c,j,pb⟩]) wr) (jP (ds++[⟨c,j,pb⟩]) mx) (yS 0 (ds++[⟨c,j,pb⟩])) (vS (ds++[⟨c,j,pb⟩])) Xk zs tv u W:=by
 have hm:c∈[]++ds.map PD.letter:=by
  by_cases h:c∈ds.map PD.letter
  .simpa using h
  .rw[hc,<- pC 0,a]at h;cases h
 refine⟨?_,M.D.again (d:=⟨c,j,pb⟩) hc a (λ_ h=>h),M.XX,M.st⟩;rw[rR,i_ hm,rI,rS,rD,bn_];exact M.R
def Yu{so o a:Int}{fv:Value}{sb:BA}{b:Nat}{xs:List Value}(p:k<6)(hc:c=65+k)(f:xR 0 (65+k) ds=none)(M:WM w X br bz B s tv0 u0 ds j6 bad6 (pb.wr (jK [] ds wr)) (pb.mx (jP ds mx)) (yS 0 ds++pb.ts (yS 0 ds).length) (vS ds++pb.us) Xk zs tv u W)(own:W.ownsRow B 113 10 fv b xs)(e:∀g,fv.ownBlock=some g->Xk g)(m:dy s (yS 0 ds).length pb so b xs sb o a):WM w X br bz B s tv0 u0 (ds++[⟨c,j,pb⟩]) j6 bad6 (jK [] (ds++[⟨c,j,pb⟩]) wr) (jP (ds++[⟨c,j,pb⟩]) mx) (yS 0 (ds++[⟨c,j,pb⟩])) (vS (ds++[⟨c,j,pb⟩])) Xk (cH zs (5*k) (.int .u8 so) fv (.string sb) (z_ o) (z_ a)) tv u (laid W bz k (.int .u8 so) fv (.string sb) (z_ o) (z_ a)):=by
 have hm:c∉[]++ds.map PD.letter:=by
  rw[hc,bk_];exact(pC 0 _ _).1 f
 obtain⟨R,st⟩:=M.R.laid k (.int .u8 so) fv (.string sb) (z_ o) (z_ a);refine⟨?_,xe.add (d:=⟨c,j,pb⟩) (M.D.step M.R st) p hc f (λ_ h=>h) (zj own st.fr (λg hg=>M.R.offS (e g hg))) e m,M.XX,M.st.trans st⟩;rw[rR,n_ hm,rI,rS,rD,bn_];exact R
end
def lF{w:World}{X:Nat->Prop}{br bz B:Nat}{s:BA}{mx:Int}{zs:List Value}{tv u:Value}(R:Rep w X br bz B s 0 false wg mx [] [] zs tv u)(hD:xe w X B s zs []):Calls prog 19 #[P_ br] w λe w'=>e=.returned (.tuple #[])/\vD w X br bz B s wg mx tv u w':=by
 have h8:=R.sl;have start:FS w X br bz B s wg mx tv u 7 (O_) w:=⟨0,rfl,M_,M_,.inl ⟨[],0,X,zs,tv,u,rfl,⟨R,hD,λ_ h=>h,zC.refl _ _ _ _ _⟩,(ci _).symm⟩⟩;replace start:=zy start;obtain⟨g6,F⟩:=y_ (λ(e:Ending) (w':World)=>e=.returned (.tuple #[])/\vD w X br bz B s wg mx tv u w');rw[<- F.o];go_in;go_wp2_with fail;go_loopg [2] 7 (λm nv W=>FS w X br bz B s wg mx tv u m nv W);case atStart=>exact start
 case round=>
  obtain⟨n,rfl,h7,f8,hA|hC⟩:=hrel
  .obtain⟨ds,j,Xk,e1,tv',u',e4,M,a8⟩:=hA;obtain⟨c0,c1,c2⟩:=M.R.here.d3;have h4:=M.R.il;obtain⟨c,hc⟩:=x_ (bt s j);have h2:c<256:=by rw[<- hc];exact eQ _ _
   by_cases a9:n<6/\(65<=c/\c<=70)/\j+1<s.size
   .obtain⟨hn,f5,f6⟩:=a9;have I:=zy (XH a8 hn hc ⟨f5,f6⟩);replace M:=zy M;replace hc:=zy hc;have b5:H_ (∀q,Calls prog 36 #[P_ br] (wr.drewN q) λe w'=>e=.returned (U_ c)/\∃m,w'=(wr.drewN q).drewN m):=λq=>zK (M.o.R.si (zq.drewN wr q)) hc;have b6:H_ (∀(q:Nat) (b:Bool),(decide ((65:Int)<=(c:Int))&&decide ((c:Int)<=70))=b->Calls prog 35 #[U_ c,.int .u8 65,.int .u8 70] (wr.drewN q) λe w'=>e=.returned (.bool b)/\w'=wr.drewN q):=λq b hb=>by rw[<- hb];exact ya _ _ _ _
    have O:=zy (show(decide ((65:Int)<=(c:Int))&&decide ((c:Int)<=70))=true by simp;omega);have h1:(n:Int)<6:=M_;have h3:(j:Int)+1<(s.size:Int):=M_;have S:j<s.size:=M_;go_wp2_with fail;go_quiet (first|(go_at_call 36;exact Calls.quiet_of (b5.o _))|(go_at_call 35;exact Calls.quiet_of_same (b6.o _ _ O)));go_wp2_with fail;have d:=M.o.si (zq.drewN wr nq);generalize wr.drewN nq=W1 at d⊢;replace d:=zy d;by_cases a7:bt s (j+1)=61
    .rw[i_ a7]at I;go_wp2_with (first
      |(go_at_call 36;apply(zK d.o.R hc).mono;rintro e w2 ⟨rfl,d8⟩;have f:=d.o.si d8;have e7:=f.R.here.c1;have f1:=f.R.here.th 1;replace f:=zy f)
      |(go_at_call 37;apply(yY 61 (f.o.R.inc S).1 rfl D_).mono;rintro e w3 ⟨rfl,E,a3⟩;rw[i_ a7]at E;have C:=(f.o.call (f.o.R.inc S).1 (f.o.R.inc S).2).call E a3;have d2:=C.R.here.c2;replace C:=zy C))
     have hD:=zy (cz C.o.R);cases H:yZ s (j+2) with
     |error k=>
      rw[H]at I;replace H:=zy H;go_wp2_with (go_at_call 38;apply hD.o.mono;rintro e T ⟨so,fv,sb,o,J,f0,xs,g3,u4,rfl,a4,Q,b8,a2⟩;simp only[vz];rw[H.o]at a2;obtain⟨L,sn,N,rfl⟩:=yG Q;obtain⟨i4,V,Y,Z,U⟩:=a2;have y:=C.o.held a4 U (.int .u8 so) (.slice L sn N) (.string sb) (z_ o) (z_ J);have a5:=y.R.here.c2;unfold held at a5;replace y:=zy y);first|go_end0|refine bodyPost_ret (results_none rfl _ _ _) rfl ?_
      rw[F.o];exact⟨rfl,jI (wk I) y.o.R y.o.st y.o.XX⟩
     |ok q=>
      obtain⟨pb,e2⟩:=q;rw[H]at I;replace H:=zy H;go_wp2_with (go_at_call 38;apply hD.o.mono;rintro e T ⟨so,fv,sb,o,J,f0,xs,g3,u4,rfl,a4,Q,b8,a2⟩;simp only[vz];rw[H.o]at a2;obtain⟨L,sn,N,rfl⟩:=yG Q;obtain⟨d6,U⟩:=a2;have y:=C.o.held a4 U (.int .u8 so) (.slice L sn N) (.string sb) (z_ o) (z_ J);have a5:=y.R.here.c2;unfold held at a5;have d9:=zy (zj Q (uJ T (.int .u8 so) (.slice L sn N) (.string sb) (z_ o) (z_ J) N_) (λ_ _ h=>h));have B5:=zy (mL T (.int .u8 so) (.slice L sn N) (.string sb) (z_ o) (z_ J));replace y:=zy y;replace d6:=zy d6);apply(yY 59 y.o.R rfl D_).mono;rintro e w6 ⟨rfl,E⟩;obtain⟨j6,bad6,E,b7,hO⟩:=Qc E;have A:=y.o.call E b7;have B6:=b7.fr.bl B5 (y.o.R.offS (.inr rfl));have e0:=zj d9 b7.fr (λg hg=>y.o.R.offS (.inl (.inr hg)));obtain⟨k,hk⟩:∃k:Nat,c=65+k:=⟨c-65,M_⟩;have h5:(c:Int)-65=(k:Int):=M_;have e3:k<6:=M_;have h6:(k:Int)<6:=M_;obtain⟨g1,g8,i1,o',n',g7,xs',hz,_,_,hl⟩:=A.D.2 k e3;have z6:w6.cell? ⟨bz,1+k*5,none⟩=some (.int .u8 g1):=by
       rw[A.R.z.cell,show 1+k*5=(5*k+0)+1 by omega,ab_];exact hz 0 M_
      have a6:=A.R.here.c3;obtain⟨b0,b1,b2,b3,b4⟩:=B6.d5;generalize T.heap.size=bd at *;replace A:=zy A;replace B6:=zy B6;replace e0:=zy e0;replace hO:=zy hO;replace hk:=zy hk;cases G:xR 0 (65+k) ds with
      |none=>
       rw[G]at hl;obtain⟨hl,_⟩:=hl;subst hl;replace G:=zy G;have zz:∀p,p<5->∃v,w6.cell? ⟨bz,1+k*5+p,none⟩=some v:=λp hp=>by
        have g9:=A.o.D.1;rw[A.o.R.z.cell,show 1+k*5+p=(5*k+p)+1 by omega,ab_];exact⟨_,af_ M_⟩
       obtain⟨y1,i5⟩:=zz 1 M_;obtain⟨y2,i6⟩:=zz 2 M_;obtain⟨y3,i7⟩:=zz 3 M_;obtain⟨y4,i8⟩:=zz 4 M_;have t0:=A.o.R.z.th (1+k*5);have t1:=A.o.R.z.th (1+k*5+1);have t2:=A.o.R.z.th (1+k*5+2);have t3:=A.o.R.z.th (1+k*5+3);have t4:=A.o.R.z.th (1+k*5+4);go_wp2_with fail;refine tr_ 9 (λW=>f_ W br 3 (P_ bz)/\f_ W bd 0 (.int .u8 so)/\f_ W bd 1 (.slice L sn N)/\f_ W bd 2 (.string sb)/\f_ W bd 3 (z_ o)/\f_ W bd 4 (z_ J)) ?_;refine tb_ 0 rfl K_ (λ_ _ _ h=>h) (by rfl) (by rintro W ⟨a,V,Y,Z,a0,a1⟩;go_simp<;>rfl) ?_;refine tb_ 1 rfl K_ (λ_ _ _ h=>h) (by rfl) (by rintro W ⟨a,V,Y,Z,a0,a1⟩;go_simp<;>rfl) ?_;refine tb_ 2 rfl K_ (λ_ _ _ h=>h) (by rfl) (by rintro W ⟨a,V,Y,Z,a0,a1⟩;go_simp<;>rfl) ?_;refine tb_ 3 rfl K_ (λ_ _ _ h=>h) (by rfl) (by rintro W ⟨a,V,Y,Z,a0,a1⟩;go_simp<;>rfl) ?_;refine tb_ 4 rfl K_ (λ_ _ _ h=>h) (by rfl) (by rintro W ⟨a,V,Y,Z,a0,a1⟩;go_simp<;>rfl) ?_;refine tb_ 5 rfl K_ (λ_ _ _ h=>h) (by rfl) (by rintro W ⟨a,V,Y,Z,a0,a1⟩;go_simp<;>rfl) ?_;refine t1_ 6 ⟨a6,b0,b1,b2,b3,b4⟩ ?_;refine t1_ 7 ⟨a6,b0,b1,b2,b3,b4⟩ ?_;refine t1_ 8 ⟨a6,b0,b1,b2,b3,b4⟩ ?_;refine t1_ 9 ⟨a6,b0,b1,b2,b3,b4⟩ ?_;refine td_ ?_ _;go_wp2_with fail;go_roundg (6-n);case measure=>omega
       case rel=>exact bh I hO e4 hn (Yu e3 hk G (A.o.si (zq.drew w6)) (zj e0 ((A_ w6 N_).si (zq.drew w6)) (λ_ _ h=>h)) (λg hg=>.inl (.inr hg)) d6)
      |some x=>
       rw[G]at hl;have h9:=hl.sort;replace G:=zy G;go_wp2_with (go_at_call 20;apply(jS A.o.R).mono;rintro e w7 ⟨rfl,a,g2⟩);go_roundg (6-n);case measure=>omega
       case rel=>exact bh I hO e4 hn (nR hk G (A.o.call a g2))
    .rw[n_ a7]at I;go_wp2_with (first
      |(go_at_call 36;apply(zK d.o.R hc).mono;rintro e w2 ⟨rfl,d8⟩;have f:=d.o.si d8;have e7:=f.R.here.c1;have f1:=f.R.here.th 1;replace f:=zy f)
      |(go_at_call 37;apply(yY 61 (f.o.R.inc S).1 rfl D_).mono;rintro e w3 ⟨rfl,E,a3⟩;rw[n_ a7]at E;have C:=(f.o.call (f.o.R.inc S).1 (f.o.R.inc S).2).call E a3;have d2:=C.R.here.c2;replace C:=zy C))
     first|go_end0|refine bodyPost_ret (results_none rfl _ _ _) rfl ?_
     rw[F.o];exact⟨rfl,jI (wk I) C.o.R C.o.st C.o.XX⟩
   .have Y:yb s 6 0=.ok (ds,j):=by
     rw[a8];by_cases hn:n=6
     .subst hn;simp[yb,jt]
     .rw[show 6-n=(5-n)+1 by omega,km,n_ (λh=>a9 ⟨M_,by have:=h.1;rw[hc]at this;simp only[zp,ax_,decide_eq_true_eq]at this;exact this,h.2⟩)]
    replace Y:=zy Y;replace M:=zy M;replace hc:=zy hc;have b5:H_ (∀q,Calls prog 36 #[P_ br] (wr.drewN q) λe w'=>e=.returned (U_ c)/\∃m,w'=(wr.drewN q).drewN m):=λq=>zK (M.o.R.si (zq.drewN wr q)) hc;have b6:H_ (∀(q:Nat) (b:Bool),(decide ((65:Int)<=(c:Int))&&decide ((c:Int)<=70))=b->Calls prog 35 #[U_ c,.int .u8 65,.int .u8 70] (wr.drewN q) λe w'=>e=.returned (.bool b)/\w'=wr.drewN q):=λq b hb=>by rw[<- hb];exact ya _ _ _ _
    obtain⟨b9,O⟩:∃b,(decide ((65:Int)<=(c:Int))&&decide ((c:Int)<=70))=b:=⟨_,rfl⟩;have g0:decide ((n:Int)<6)=false\/((n:Int)<6/\b9=false)\/((n:Int)<6/\b9=true/\decide ((j:Int)+1<(s.size:Int))=false):=by
     by_cases h1:n<6
     .by_cases V:65<=c/\c<=70
      .exact .inr (.inr ⟨M_,by rw[<- O];simp;omega,decide_eq_false M_⟩)
      .exact .inr (.inl ⟨M_,by rw[<- O];simp;omega⟩)
     .exact .inl (decide_eq_false M_)
    have L:=zy (sS Y);have i0:=M.o.D.1;obtain⟨rt,e5⟩:∃v,e1[30]?=some v:=⟨_,af_ M_⟩;replace O:=zy O;rcases g0 with h1|⟨h1,V⟩|⟨h1,V,h3⟩;all_goals try subst V
    all_goals
     go_wp2_with fail;go_quiet (first|(go_at_call 36;exact Calls.quiet_of (b5.o _))|(go_at_call 35;exact Calls.quiet_of_same (b6.o _ _ O)));go_wp2_with fail;have d:=M.o.si (zq.drewN wr nq);generalize wr.drewN nq=W1 at d⊢;have c3:=d.R.here.c3;have hT:=zy (VB d.R.il _ _ _ _ _ _ _ _ _ _ _ _ (d.R.si (zq.drew W1)));cases hp:pT s j with
     |error k=>
      rw[hp]at L;replace hp:=zy hp;refine tr_ 8 (λW=>f_ W br 3 (P_ bz)) ?_;refine tb_ 0 rfl K_ (λ_ _ _ h=>h) (by rfl) (by intro W a;go_simp<;>rfl) ?_;refine tb_ 1 rfl K_ (λ_ _ _ h=>h) (by rfl) (by intro W a;go_simp<;>rfl) ?_;refine tb_ 2 rfl K_ (λ_ _ _ h=>h) (by rfl) (by intro W a;go_simp<;>rfl) ?_;refine tb_ 3 rfl K_ (λ_ _ _ h=>h) (by rfl) (by intro W a;go_simp<;>rfl) ?_;refine tb_ 4 rfl K_ (λ_ _ _ h=>h) (by rfl) (by intro W a;go_simp<;>rfl) ?_;refine zw 5 rfl K_ (λ_=>c3) (λK Q=>?_);go_simp;apply hT.o.mono;intro e J H;unfold yy at H;rw[hp.o]at H;obtain⟨⟨v,rfl⟩,C,E,i2,g4,u8,y,f,U⟩:=H;refine Q _ _ ?_;have G:=y.here.c3;have g5:J.cell? ⟨bz,31,none⟩=some rt:=by rw[y.z.cell];exact e5
      have f3:=y.z.th 31;have N:=zy ((d.st.si (zq.drew W1)).trans (U.trans (y.setZ 30 (I_ v)).2));have A:=(y.setZ 30 (I_ v)).1;have T:=d.XX;refine t1_ 6 G ?_;refine t1_ 7 G ?_;refine t1_ 8 G ?_;refine td_ ?_ _;obtain⟨e6,e8,e9⟩:=A.here.d3;have f2:=A.here.th 2;by_cases Z:k<s.size
      .have d7:(k:Int)<(s.size:Int):=M_;go_wp2_with fail;go_quiet (fail);go_wp2_with fail;first|go_end0|refine bodyPost_ret (results_none rfl _ _ _) rfl ?_
       rw[F.o];refine⟨rfl,?_⟩;have key:=λ(W:World) (a:zq (J.setCell ⟨bz,30+1,none⟩ (I_ v)) W)=>jI (wr:=wg) (mx:=mx) L (A.si a).sp.1 ((N.o.si a).trans (A.si a).sp.2) T;exact key _ (by first|exact zq.drewN _ _|exact(zq.drewN _ _).trans (zq.drewN _ _)|exact((zq.drewN _ _).trans (zq.drewN _ _)).trans (zq.drewN _ _))
      .have d7:¬(k:Int)<(s.size:Int):=M_;go_wp2_with fail;go_quiet (fail);go_wp2_with fail;first|go_end0|refine bodyPost_ret (results_none rfl _ _ _) rfl ?_
       rw[F.o];refine⟨rfl,?_⟩;have key:=λ(W:World) (a:zq (J.setCell ⟨bz,30+1,none⟩ (I_ v)) W)=>jI (wr:=wg) (mx:=mx) L (A.si a) (N.o.si a) T;exact key _ (by first|exact zq.drewN _ _|exact(zq.drewN _ _).trans (zq.drewN _ _)|exact((zq.drewN _ _).trans (zq.drewN _ _)).trans (zq.drewN _ _))
     |ok q=>
      obtain⟨t,j'⟩:=q;rw[hp]at L;replace hp:=zy hp;refine tr_ 8 (λW=>f_ W br 3 (P_ bz)) ?_;refine tb_ 0 rfl K_ (λ_ _ _ h=>h) (by rfl) (by intro W a;go_simp<;>rfl) ?_;refine tb_ 1 rfl K_ (λ_ _ _ h=>h) (by rfl) (by intro W a;go_simp<;>rfl) ?_;refine tb_ 2 rfl K_ (λ_ _ _ h=>h) (by rfl) (by intro W a;go_simp<;>rfl) ?_;refine tb_ 3 rfl K_ (λ_ _ _ h=>h) (by rfl) (by intro W a;go_simp<;>rfl) ?_;refine tb_ 4 rfl K_ (λ_ _ _ h=>h) (by rfl) (by intro W a;go_simp<;>rfl) ?_;refine zw 5 rfl K_ (λ_=>c3) (λK Q=>?_);go_simp;apply hT.o.mono;intro e J H;unfold yy at H;rw[hp.o]at H;obtain⟨rfl,g4,u8,y,U⟩:=H;refine Q _ _ ?_;have G:=y.here.c3;have g5:J.cell? ⟨bz,31,none⟩=some rt:=by rw[y.z.cell];exact e5
      have f3:=y.z.th 31;obtain⟨v,hv⟩:∃v:Nat,v=(yS 0 ds).length+(flat (yS 0 ds).length t).length-1:=⟨_,rfl⟩;rw[<- hv];replace hv:=zy hv;have S8:=(d.st.si (zq.drew W1)).trans U;have I:=(d.D.step d.R (zC.oS (zq.drew W1))).step (d.R.si (zq.drew W1)) U;have N:=zy (S8.trans (y.setZ 30 (I_ v)).2);have S:=zy ((I.step y (y.setZ 30 (I_ v)).2).root (I_ v));have A:=(y.setZ 30 (I_ v)).1;have T:=d.XX;have f9:=zy (show(e1.set 30 (I_ v))[30]?=some (I_ v) by simp[bg_];omega);refine t1_ 6 G ?_;refine t1_ 7 G ?_;refine t1_ 8 G ?_;refine td_ ?_ _;obtain⟨e6,e8,e9⟩:=A.here.d3;have f2:=A.here.th 2;by_cases Z:j'<s.size
      .have d7:(j':Int)<(s.size:Int):=M_;go_wp2_with fail;go_quiet (fail);go_wp2_with fail;first|go_end0|refine bodyPost_ret (results_none rfl _ _ _) rfl ?_
       rw[F.o];refine⟨rfl,?_⟩;have key:=λ(W:World) (a:zq (J.setCell ⟨bz,30+1,none⟩ (I_ v)) W)=>jI (wr:=wg) (mx:=mx) (by rw[L.o,i_ Z]) (A.si a).sp.1 ((N.o.si a).trans (A.si a).sp.2) T;exact key _ (by first|exact zq.drewN _ _|exact(zq.drewN _ _).trans (zq.drewN _ _)|exact((zq.drewN _ _).trans (zq.drewN _ _)).trans (zq.drewN _ _))
      .have d7:¬(j':Int)<(s.size:Int):=M_;go_wp2_with fail;go_quiet (fail);go_wp2_with fail;first|go_end0|refine bodyPost_ret (results_none rfl _ _ _) rfl ?_
       rw[F.o];refine⟨rfl,?_⟩;have key:=λ(W:World) (a:zq (J.setCell ⟨bz,30+1,none⟩ (I_ v)) W)=>VY (wr:=wg) (mx:=mx) (j':=j') L Z A.il ⟨A.si a,S.o.step A (zC.oS a),T,N.o.si a⟩ (hv.o▸f9.o);exact key _ (by first|exact zq.drewN _ _|exact(zq.drewN _ _).trans (zq.drewN _ _)|exact((zq.drewN _ _).trans (zq.drewN _ _)).trans (zq.drewN _ _))
  .obtain⟨k,Xk,e1,tv',u',i3,MX,TS,US,f,E,f4,C⟩:=hC;have c2:=f.here.c2;revert f E C;refine h_ λf E C=>?_;have key:=zy (λ(W:World) (a:zq wr W)=>jI (wr:=wg) (mx:=mx) C (f.o.si a) (E.o.si a) f4);by_cases hn:n<6
   .have f7:(n:Int)<6:=M_;go_wp2_with fail;go_quiet (fail);go_wp2_with fail;first|go_end0|refine bodyPost_ret (results_none rfl _ _ _) rfl ?_
    rw[F.o];exact⟨rfl,key.o _ (by first|exact zq.drewN _ _|exact(zq.drewN _ _).trans (zq.drewN _ _)|exact((zq.drewN _ _).trans (zq.drewN _ _)).trans (zq.drewN _ _))⟩
   .have f7:decide ((n:Int)<6)=false:=decide_eq_false M_;go_wp2_with fail;go_quiet (fail);go_wp2_with fail;first|go_end0|refine bodyPost_ret (results_none rfl _ _ _) rfl ?_
    rw[F.o];exact⟨rfl,key.o _ (by first|exact zq.drewN _ _|exact(zq.drewN _ _).trans (zq.drewN _ _)|exact((zq.drewN _ _).trans (zq.drewN _ _)).trans (zq.drewN _ _))⟩
def LAt(w:World)(bl:Nat)(s:BA)(bz:Nat)(pl:Bool)(i:Nat)(bad:Bool):Prop:=
 Blk w bl [.string s,I_ i,.bool bad,P_ bz,.bool pl] 168
section
variable {w w':World} {bl:Nat} {s:BA} {bz:Nat} {pl:Bool} {i:Nat} {bad:Bool}
def LAt.c0(h:LAt w bl s bz pl i bad):w.cell? ⟨bl,0,none⟩=some (.string s):=by rw[W_ h];rfl
def LAt.c1(h:LAt w bl s bz pl i bad):w.cell? ⟨bl,1,none⟩=some (I_ i):=by rw[W_ h];rfl
def LAt.c2(h:LAt w bl s bz pl i bad):w.cell? ⟨bl,2,none⟩=some (.bool bad):=by rw[W_ h];rfl
def LAt.c3(h:LAt w bl s bz pl i bad):w.cell? ⟨bl,3,none⟩=some (P_ bz):=by rw[W_ h];rfl
def LAt.c4(h:LAt w bl s bz pl i bad):w.cell? ⟨bl,4,none⟩=some (.bool pl):=by rw[W_ h];rfl
def LAt.th(h:LAt w bl s bz pl i bad)(o:Nat):w.frozen? ⟨bl,o,none⟩=false:=Blk.th h o
def LAt.si(h:LAt w bl s bz pl i bad)(hw:zq w w'):LAt w' bl s bz pl i bad:=by obtain⟨n,rfl⟩:=hw;exact h
def LAt.inc(h:LAt w bl s bz pl i bad):LAt (w.setCell ⟨bl,1,none⟩ (z_ ((i:Int)+1))) bl s bz pl (i+1) bad:=T_ h 1 _
def LAt.sp(h:LAt w bl s bz pl i bad):LAt (w.setCell ⟨bl,2,none⟩ (.bool true)) bl s bz pl i true:=T_ h 2 _
end
def lk(s:BA)(i:Nat)(bad:Bool):Nat:=if bad=true then 0 else bt s i
def yP{w:World}{bl:Nat}{s:BA}{bz:Nat}{pl:Bool}{i:Nat}{bad:Bool}(h:LAt w bl s bz pl i bad)(_hs:s.size<=4000)(hi:i<=s.size):Calls prog 89 #[P_ bl] w λe w'=>e=.returned (.int .u8 (lk s i bad:Int))/\zq w w':=by
 obtain⟨c0,c1,c2⟩:=h.d3;cases bad with
 |true=>
  go_in;go_wp2;go_quiet (fail);go_wp2;go_ret;exact⟨by simp[lk],_,rfl⟩
 |false=>
  by_cases hl:i<s.size
  .have a:(i:Int)<(s.size:Int):=M_;go_in;go_wp2;go_quiet (fail);go_wp2;go_quiet (fail);go_wp2;go_ret;exact⟨by simp[lk,vR s i hl],(zq.drewN _ _).trans (zq.drewN _ _)⟩
  .go_in;go_wp2;go_quiet (fail);go_wp2;go_ret;refine⟨?_,⟨_,rfl⟩⟩;have:bt s i=0:=by
    by_cases h0:bt s i=0
    .exact h0
    .exact absurd (zc M_) hl
   simp[lk,this]
def qc(w:World)(bl:Nat)(s:BA)(bz:Nat)(pl:Bool)(i:Nat)(bad:Bool)(d:Nat)(w':World):Prop:=
 (if lk s i bad=d then LAt w' bl s bz pl (i+1) bad/\i<s.size else LAt w' bl s bz pl i true)/\Fr w w' (· = bl)
def xg{w:World}{bl:Nat}{s:BA}{bz:Nat}{pl:Bool}{i:Nat}{bad:Bool}{c:Int}(d:Nat)(h:LAt w bl s bz pl i bad)(hs:s.size<=4000)(hi:i<=s.size)(hd:c=(d:Int))(m:0<d):Calls prog 88 #[P_ bl,.int .u8 c] w λe w'=>e=.returned (.tuple #[])/\qc w bl s bz pl i bad d w':=by
 subst hd;go_in;go_wp2_with (go_at_call 89;apply(yP h hs hi).mono;rintro e w' ⟨rfl,hw⟩;have a:=h.si hw;have c1:=a.c1;have c2:=a.c2;have f:=a.th 1;have g:=a.th 2)
 .go_end0;rename_i hc;have b:lk s i bad=d:=by simp at hc;omega
  refine⟨rfl,?_,((A_ w _).si hw).setCell _ _ (λ_=>rfl)⟩;rw[i_ b];refine⟨a.inc,?_⟩;unfold lk at b;split at b
  .omega
  .exact zc M_
 .go_end0;rename_i hc;refine⟨rfl,?_,((A_ w _).si hw).setCell _ _ (λ_=>rfl)⟩;rw[n_ (by simp at hc;omega)];exact a.sp
def zV(lo hi:Nat)(s:BA)(i:Nat):Nat:=
 if h:i<s.size then (if lo<=bt s i/\bt s i<=hi then zV lo hi s (i+1) else i) else i
 termination_by s.size-i
def pV{lo hi:Nat}{s:BA}{i:Nat}(h:i<s.size)(hb:lo<=bt s i/\bt s i<=hi):zV lo hi s i=zV lo hi s (i+1):=by
 conv=>lhs;unfold zV
 rw[dif_pos h,i_ hb]
def jb{lo hi:Nat}{s:BA}{i:Nat}(hb:¬(lo<=bt s i/\bt s i<=hi)):zV lo hi s i=i:=by
 unfold zV;simp[hb]
def Ky(w:World)(bl:Nat)(s:BA)(bz:Nat)(pl:Bool)(i e:Nat)(m:Nat)(W:World):Prop:=
 ∃k,LAt W bl s bz pl k false/\Fr w W (· = bl)/\i<=k/\k<=s.size/\zV 97 122 s k=e/\s.size-k<=m
def qJ(w:World)(bl:Nat)(s:BA)(bz:Nat)(pl:Bool)(i:Nat)(bad:Bool)(e:Ending)(w':World):Prop:=
 ∃k,k=(if bad=true then i else zV 97 122 s i)/\i<=k/\k<=s.size/\e=.returned (.string (s.extract i k))/\LAt w' bl s bz pl k bad/\Fr w w' (· = bl)
def aE{w W:World}{bl:Nat}{s:BA}{bz:Nat}{pl:Bool}{i k:Nat}(h:LAt W bl s bz pl k false)(hf:Fr w W (· = bl))(a:i<=k)(b:k<=s.size)(he:zV 97 122 s k=zV 97 122 s i)(ho:¬(97<=bt s k/\bt s k<=122)):qJ w bl s bz pl i false (.returned (.string (s.extract i k))) W:=
 ⟨k,by rw[n_ D_,<- he,jb ho],a,b,rfl,h,hf⟩
def qZ{w:World}{bl:Nat}{s:BA}{bz:Nat}{pl:Bool}{i:Nat}{bad:Bool}(h:LAt w bl s bz pl i bad)(hs:s.size<=4000)(hi:i<=s.size):Calls prog 91 #[P_ bl] w (qJ w bl s bz pl i bad):=by
 obtain⟨a,g⟩:=y_ (qJ w bl s bz pl i bad);rw[<- g.o];have c1:=h.c1;cases bad with
 |true=>
  replace h:=zy h;go_in;go_wp2;go_loopg [] 0 (λ_ W=>zq w W);case atStart=>exact zq.refl w
  case round=>
   have h1:=zy (h.o.si hrel);have b:=zy (show(decide ((97:Int)<=((lk s i true:Nat):Int))&&decide (((lk s i true:Nat):Int)<=122))=false by simp[lk]);have hs':(i:Int)<=(s.size:Int):=M_;replace hrel:=zy hrel;go_wp2_with (first
    |(go_at_call 89;apply(yP h1 hs hi).mono;rintro e t ⟨rfl,d⟩;have a:=h1.o.si d;have c0:=a.c0;have c1:=a.c1;replace a:=zy a)
    |(go_at_call 35;apply(ya _ _ _ _).mono;rintro e w' ⟨rfl,f⟩;rw[f,b.o]))
   go_quiet (fail);go_wp2;try go_ret
   rw[g.o];exact⟨i,by simp,l_,hi,by simp,a.o.si (zq.drewN _ _),(((A_ w _).si hrel).si d).si (zq.drewN _ _)⟩
 |false=>
  have start:=zy (⟨i,h,A_ _ _,l_,hi,rfl,l_⟩:Ky w bl s bz pl i (zV 97 122 s i) (s.size-i) w);go_in;go_wp2;go_loopg [] (s.size-i) (λn W=>Ky w bl s bz pl i (zV 97 122 s i) n W);case atStart=>exact start
  case round=>
   obtain⟨k,h1,hf,v,m,he,hm⟩:=hrel;obtain⟨c,hc⟩:=x_ (bt s k);replace he:=zy he;by_cases q:97<=c/\c<=122
   .have b:(decide ((97:Int)<=(c:Int))&&decide ((c:Int)<=122))=true:=by simp;omega
    have hk:k<s.size:=zc M_;have p:=zy (show lk s k false=c by simp[lk,hc]);have ho:=zy (he.o.symm.trans (pV hk (by rw[hc];exact q)));replace h1:=zy h1;replace hf:=zy hf;replace hc:=zy hc;replace b:=zy b;go_wp2_with (first
     |(go_at_call 89;apply(yP h1 hs m).mono;rintro e t ⟨rfl,d⟩;rw[p.o];have a:=h1.o.si d;have c1:=a.c1;have x:=a.th 1;replace a:=zy a)
     |(go_at_call 35;apply(ya _ _ _ _).mono;rintro e w' ⟨rfl,f⟩;rw[f,b.o]))
    go_roundg (s.size-(k+1));case measure=>omega
    case rel=>exact⟨k+1,a.o.inc,(hf.o.si d).setCell _ _ (λ_=>rfl),M_,M_,ho.o.symm,l_⟩
   .have b:(decide ((97:Int)<=(c:Int))&&decide ((c:Int)<=122))=false:=by simp;omega
    have p:=zy (show lk s k false=c by simp[lk,hc]);have x:=zy (show ¬(97<=bt s k/\bt s k<=122) by rw[hc];exact q);replace h1:=zy h1;replace hf:=zy hf;replace b:=zy b;have q:(i:Int)<=(k:Int):=M_;have q:(k:Int)<=(s.size:Int):=M_;go_wp2_with (first
     |(go_at_call 89;apply(yP h1 hs m).mono;rintro e t ⟨rfl,d⟩;rw[p.o];have a:=h1.o.si d;have c0:=a.c0;have c1:=a.c1;replace a:=zy a)
     |(go_at_call 35;apply(ya _ _ _ _).mono;rintro e w' ⟨rfl,f⟩;rw[f,b.o]))
    go_quiet (fail);go_wp2;try go_ret
    rw[g.o];exact aE (a.o.si (zq.drewN _ _)) ((hf.o.si d).si (zq.drewN _ _)) v m he x
def qt(c:Nat)(neg:Bool):BA:=
 if c=105 then (if neg=true then ⟨#[50,49,52,55,52,56,51,54,52,56]⟩ else ⟨#[50,49,52,55,52,56,51,54,52,55]⟩)
 else (if neg=true then ⟨#[57,50,50,51,51,55,50,48,51,54,56,53,52,55,55,53,56,48,56]⟩ else ⟨#[57,50,50,51,51,55,50,48,51,54,56,53,52,55,55,53,56,48,55]⟩)
def Xh(c:Nat)(neg:Bool)(w:World):Calls prog 129 #[U_ c,.bool neg] w λe w'=>e=.returned (.string (qt c neg))/\w'=w:=by
 obtain⟨T,a⟩:=y_ (qt c neg);rw[<- a.o];by_cases hc:c=105
 .subst hc;cases neg;all_goals
   go_in;go_wp2;go_ret;exact⟨by rw[a.o];rfl,rfl⟩
 .have b:((c:Int)==105)=false:=by simp;omega
  have hd:=zy (show qt c neg=(if neg=true then ⟨#[57,50,50,51,51,55,50,48,51,54,56,53,52,55,55,53,56,48,56]⟩ else ⟨#[57,50,50,51,51,55,50,48,51,54,56,53,52,55,55,53,56,48,55]⟩) by unfold qt;rw[n_ hc]);cases neg;all_goals
   go_in;go_wp2;go_ret;exact⟨by rw[a.o,hd.o];rfl,rfl⟩
def sgn(s:BA)(i:Nat):Nat:=if bt s i=45 then i+1 else i
def QA(w:World)(bl:Nat)(s:BA)(bz:Nat)(pl:Bool)(i e:Nat)(m:Nat)(W:World):Prop:=
 ∃k,LAt W bl s bz pl k false/\Fr w W (· = bl)/\i<=k/\k<=s.size/\zV 48 57 s k=e/\s.size-k<=m
def qo(kd:Nat)(neg:Bool)(t:BA):Prop:=
 0<t.size/\¬(bt t 0=48/\(1<t.size\/neg=true))/\t.size<=(qt kd neg).size/\(t.size=(qt kd neg).size->(!Op.bytesLess t.toList (qt kd neg).toList && !(t.toList==(qt kd neg).toList))=false)
def uo(neg:Bool)(x:Int)(d:Nat):Int:=if neg=true then wrap64 (wrap64 (10*x)-wrap64 (wrap64 (d:Int)-48)) else wrap64 (wrap64 (10*x)+wrap64 (wrap64 (d:Int)-48))
def mn(neg:Bool)(t:BA):Nat->Int
 | 0=>0
 |a+1=>uo neg (mn neg t a) (bt t a)
def wE(w:World)(bl:Nat)(s:BA)(bz:Nat)(pl:Bool)(i kd:Nat)(e:Ending)(w':World):Prop:=
 ∃k neg t,neg=((bt s i:Int)==45)/\t=s.extract (sgn s i) k/\k=zV 48 57 s (sgn s i)/\i<=k/\k<=s.size/\Fr w w' (· = bl)/\
  ((qo kd neg t/\i<k/\LAt w' bl s bz pl k false/\e=.returned (z_ (mn neg t t.size)))\/(¬qo kd neg t/\LAt w' bl s bz pl k true/\e=.returned (O_)))
def mr{w:World}{bl:Nat}{s:BA}{bz:Nat}{pl:Bool}{i:Nat}(h:LAt w bl s bz pl i false)(hs:s.size<=4000)(hi:i<=s.size):Calls prog 90 #[.pointer (some ⟨bl,0,none⟩),.int .u8 (kd:Int)] w (wE w bl s bz pl i kd):=by
 obtain⟨e4,C⟩:∃P,H_ (P=wE w bl s bz pl i kd):=⟨_,rfl⟩;rw[<- C.o];obtain⟨c,hc⟩:∃c,bt s i=c:=⟨_,rfl⟩;have a8:=zy (show lk s i false=c by simp[lk,hc]);obtain⟨neg,A⟩:∃b,((c:Int)==45)=b:=⟨_,rfl⟩;obtain⟨p,y⟩:∃k,k=sgn s i:=⟨_,rfl⟩;have d9:p<=s.size/\i<=p/\p<=i+1:=by
  rw[y];unfold sgn;split
  .rename_i e7;have:=zc (s:=s) (i:=i) M_;omega
  .omega
 replace h:=zy h;replace hc:=zy hc;replace A:=zy A;have e1:=A.o;replace y:=zy y;go_in;go_upto_if 15 with(go_at_call 89;refine(yP h.o hs hi).mono ?_;rintro e M ⟨rfl,q⟩;rw[a8.o];have f:=h.o.si q;have c1:=f.c1;have f1:=f.th 1;replace f:=zy f);go_cut [] (λW=>LAt W bl s bz pl p false/\Fr w W (· = bl));case first=>
  cases hb:neg
  .subst hb;go_wp2_with fail;go_meet;case rel=>
    refine⟨?_,(A_ w _).si q⟩;have U:p=i:=by rw[y.o];unfold sgn;rw[if_neg (by have:=A.o;have:=hc.o;simp at *;omega)]
    rw[U];exact f.o
  .subst hb;go_wp2_with fail;go_meet;case rel=>
    refine⟨?_,((A_ w _).si q).setCell _ _ (λ_=>rfl)⟩;have U:p=i+1:=by rw[y.o];unfold sgn;rw[if_pos (by have:=A.o;have:=hc.o;simp at *;omega)]
    rw[U];exact f.o.inc
 case rest=>
  clear c1 f1 f q;obtain⟨O,a0⟩:=hcut;have c1:=O.c1;have start:=zy (show QA w bl s bz pl p (zV 48 57 s p) (s.size-p) wc from⟨p,O,a0,l_,d9.1,rfl,l_⟩);go_wp2_with fail;clear c1;go_loopg [] (s.size-p) (λn W=>QA w bl s bz pl p (zV 48 57 s p) n W);case atStart=>exact start.o
  case round=>
   clear start;obtain⟨k,h1,hf,f4,S,he,hm⟩:=hrel;obtain⟨d,hd⟩:∃c,bt s k=c:=⟨_,rfl⟩;replace he:=zy he;have a1:=zy (show lk s k false=d by simp[lk,hd]);by_cases a7:48<=d/\d<=57
   .have E:(decide ((48:Int)<=(d:Int))&&decide ((d:Int)<=57))=true:=by simp;omega
    have hk:k<s.size:=zc M_;have ho:=zy (he.o.symm.trans (pV hk (by rw[hd];exact a7)));replace h1:=zy h1;replace hf:=zy hf;replace E:=zy E;go_wp2_with (first
     |(go_at_call 89;refine(yP h1.o hs S).mono ?_;rintro e M ⟨rfl,q⟩;rw[a1.o];have f:=h1.o.si q;have c1:=f.c1;have f1:=f.th 1;replace f:=zy f)
     |(go_at_call 35;refine(ya _ _ _ _).mono ?_;rintro e w' ⟨rfl,m⟩;rw[m,E.o]))
    go_roundg (s.size-(k+1));case measure=>omega
    case rel=>exact⟨k+1,f.o.inc,(hf.o.si q).setCell _ _ (λ_=>rfl),M_,M_,ho.o.symm,l_⟩
   .have E:(decide ((48:Int)<=(d:Int))&&decide ((d:Int)<=57))=false:=by simp;omega
    have a2:=zy (show ¬(48<=bt s k/\bt s k<=57) by rw[hd];exact a7);replace h1:=zy h1;replace hf:=zy hf;replace E:=zy E;have f5:(p:Int)<=(k:Int):=M_;have f6:(k:Int)<=(s.size:Int):=M_;go_wp2_with (first
     |(go_at_call 89;refine(yP h1.o hs S).mono ?_;rintro e M ⟨rfl,q⟩;rw[a1.o];have f:=h1.o.si q;have c0:=f.c0;have c1:=f.c1;have f2:=f.th 2;have c2:=f.c2;replace f:=zy f)
     |(go_at_call 35;refine(ya _ _ _ _).mono ?_;rintro e w' ⟨rfl,m⟩;rw[m,E.o]))
    go_quiet (fail);obtain⟨t,D⟩:∃t,s.extract p k=t:=⟨_,rfl⟩;obtain⟨g,K⟩:∃t,qt kd neg=t:=⟨_,rfl⟩;go_wp2_with fail;have f9:t.size<=4000:=by rw[<- D];simp;omega
    have F:H_ (∀W:World,Calls prog 129 #[.int .u8 (kd:Int),.bool neg] W λe w'=>e=.returned (.string g)/\w'=W):=λW=>by rw[<- K];exact Xh _ _ _
    rw[D];replace D:=zy D;replace K:=zy K;have G:=zy (λ(hn:¬qo kd neg t) (W:World) (J:zq M W)=>show wE w bl s bz pl i kd (.returned (z_ 0)) (W.setCell ⟨bl,2,none⟩ (.bool true)) from
     ⟨k,neg,t,by rw[hc.o];exact A.o.symm,by rw[<- y.o];exact D.o.symm,by rw[<- y.o,<- he.o];exact(jb a2.o).symm,M_,S,((hf.o.si q).si J).setCell _ _ (λ_=>rfl),.inr ⟨hn,(f.o.si J).sp,rfl⟩⟩)
    have a5:=zy (λ(hn:qo kd neg t) (W:World) (J:zq M W)=>show wE w bl s bz pl i kd (.returned (z_ (mn neg t t.size))) W from
     ⟨k,neg,t,by rw[hc.o];exact A.o.symm,by rw[<- y.o];exact D.o.symm,by rw[<- y.o,<- he.o];exact(jb a2.o).symm,M_,S,(hf.o.si q).si J,.inl ⟨hn,by have h5:=hn.1;rw[<- D.o]at h5;simp at h5;omega,f.o.si J,rfl⟩⟩)
    have H:=zy (show qo kd neg t↔(0<t.size/\¬(bt t 0=48/\(1<t.size\/neg=true))/\t.size<=g.size/\(t.size=g.size->(!Op.bytesLess t.toList g.toList && !(t.toList==g.toList))=false)) by rw[<- K.o];rfl);by_cases h0:t.size=0
    .have N:(t.size:Int)=0:=M_;have z:=zy (G.o (λh=>by have:=h.1;omega));go_wp2_with (go_at_call 129;refine(F.o _).mono ?_;rintro e w' ⟨rfl,m⟩;rw[m]);try go_ret
     rw[C.o];exact z.o _ (zq.drewN _ _)
    .have N:0<t.size:=M_;have e5:((t.size:Int)==0)=false:=by rw[beq_eq_false_iff_ne];omega
     obtain⟨b,hb⟩:∃b:Nat,((t[0]'N).toNat:Int)=(b:Int):=⟨_,rfl⟩;have Z:=zy (show bt t 0=b by rw[vR t 0 N];exact Int.ofNat_inj.1 hb);obtain⟨lt,a9⟩:∃x,Op.bytesLess t.toList g.toList=x:=⟨_,rfl⟩;obtain⟨I,a6⟩:∃x,(t.toList==g.toList)=x:=⟨_,rfl⟩;by_cases hz:b=48/\(1<t.size\/neg=true)
     .obtain⟨rfl,hz⟩:=hz;by_cases h1:1<t.size
      .have b8:(1:Int)<(t.size:Int):=M_;have z:=zy (G.o (λh=>by have:=H.o.1 h;exact this.2.1 ⟨Z.o,.inl h1⟩));go_wp2_with (go_at_call 129;refine(F.o _).mono ?_;rintro e w' ⟨rfl,m⟩;rw[m]);try go_ret
       rw[C.o];exact z.o _ (zq.drewN _ _)
      .have b8:¬(1:Int)<(t.size:Int):=M_;have b4:neg=true:=by rcases hz with h|h;exact absurd h h1;exact h
       have z:=zy (G.o (λh=>by have:=H.o.1 h;exact this.2.1 ⟨Z.o,.inr b4⟩));subst b4;go_wp2_with (go_at_call 129;refine(F.o _).mono ?_;rintro e w' ⟨rfl,m⟩;rw[m]);try go_ret
       rw[C.o];exact z.o _ (zq.drewN _ _)
     .have a3:((b:Int)==48)=false\/(((b:Int)==48)=true/\(t.size:Int)<=1/\neg=false):=by
       by_cases a4:b=48
       .refine .inr ⟨by simp;omega,?_,?_⟩
        .by_cases h1:1<t.size
         .exact absurd ⟨a4,.inl h1⟩ hz
         .omega
        .cases hn:neg
         .rfl
         .exact absurd ⟨a4,.inr hn⟩ hz
       .exact .inl (by simp;omega)
      have b7:=zy (show ¬(bt t 0=48/\(1<t.size\/neg=true)) by rw[Z.o];exact hz);clear hz;by_cases f3:g.size<t.size
      .have d8:(g.size:Int)<(t.size:Int):=M_;have z:=zy (G.o (λh=>by have:=H.o.1 h;omega));rcases a3 with L|⟨L,b5,rfl⟩;all_goals
        go_wp2_with (go_at_call 129;refine(F.o _).mono ?_;rintro e w' ⟨rfl,m⟩;rw[m]);try go_ret
        rw[C.o];exact z.o _ (zq.drewN _ _)
      .have d8:¬(g.size:Int)<(t.size:Int):=M_;by_cases R:t.size=g.size/\(!lt && !I)=true
       .obtain⟨d7,Y⟩:=R;have f0:(g.size:Int)=(t.size:Int):=M_;have z:=zy (G.o (λh=>by have:=(H.o.1 h).2.2.2 d7;rw[a9,a6,Y]at this;cases this));have hl:lt=false/\I=false:=by revert Y;cases lt<;>cases I<;>simp
        obtain⟨rfl,rfl⟩:=hl;clear Y;rcases a3 with L|⟨L,b5,rfl⟩;all_goals
         go_wp2_with (go_at_call 129;refine(F.o _).mono ?_;rintro e w' ⟨rfl,m⟩;rw[m]);try go_ret
         rw[C.o];exact z.o _ (zq.drewN _ _)
       .have b6:=zy (a5.o (H.o.2 ⟨N,b7.o,M_,λhe=>by
         cases hx:(!Op.bytesLess t.toList g.toList && !(t.toList==g.toList))
         .rfl
         .exact absurd ⟨he,by rw[<- a9,<- a6];exact hx⟩ R⟩))
        have e3:(((t.size:Int)==(g.size:Int))=false)\/((g.size:Int)=(t.size:Int)/\lt=true)\/((g.size:Int)=(t.size:Int)/\lt=false/\I=true):=by
         by_cases he:t.size=g.size
         .cases lt
          .cases I
           .exact absurd ⟨he,rfl⟩ R
           .exact .inr (.inr ⟨M_,rfl,rfl⟩)
          .exact .inr (.inl ⟨M_,rfl⟩)
         .exact .inl (by rw[beq_eq_false_iff_ne];omega)
        clear R G a5;obtain⟨V,Q⟩:∃V:Nat->Int,V=mn neg t:=⟨_,rfl⟩;have b9:=zy (show V 0=0 by rw[Q];rfl);have d2:=zy (show ∀a,V (a+1)=uo neg (V a) (bt t a) by rw[Q];intro a;rfl);rw[<- Q]at b6;clear Q;clear H b7 e1 A y a2 he a8 a1;cases neg<;>rcases e3 with q1|⟨q1,rfl⟩|⟨q1,rfl,rfl⟩<;>rcases a3 with L|⟨L,b5,e0⟩
        all_goals try(cases e0;done)
        all_goals
         go_wp2_with (go_at_call 129;refine(F.o _).mono ?_;rintro e w' ⟨rfl,m⟩;rw[m]);go_loopg [9,10] t.size (λn v iv W=>zq M W/\∃a:Nat,iv=z_ (a:Int)/\v=z_ (V a)/\a<=t.size/\t.size-a<=n);case atStart=>exact⟨zq.drewN _ _,0,rfl,by rw[b9.o],M_,M_⟩
         case round=>
          obtain⟨T,a,rfl,rfl,e9,f7⟩:=hrel;replace T:=zy T;by_cases ha:a<t.size
          .have d6:(a:Int)<(t.size:Int):=M_;have f8:((t[a]'ha).toNat:Int)=(bt t a:Int):=by rw[vR t a ha]
           go_wp2_with fail;go_roundg (t.size-(a+1));case measure=>omega
           case rel=>exact⟨T.o,a+1,by simp,by rw[d2.o];rfl,M_,l_⟩
          .have d6:¬(a:Int)<(t.size:Int):=M_;have e8:a=t.size:=M_;go_wp2_with fail;try go_ret
           rw[C.o];exact b6.o _ T.o
inductive DT where
 |mk (k:Nat) (n:Int) (tx:BA) (ks:List BA) (ds:List DT)
 deriving Inhabited
def noB:BA:=⟨#[]⟩
instance (kd:Nat) (neg:Bool) (t:BA):Decidable (qo kd neg t):=by unfold qo;infer_instance
def yQ(s:BA)(i:Nat):Nat:=zV 48 57 s (sgn s i)
def xL(s:BA)(i:Nat):Bool:=((bt s i:Int)==45)
def yw(s:BA)(i:Nat):BA:=s.extract (sgn s i) (yQ s i)
def xE(s:BA)(kd i:Nat):Option (Int×Nat):=
 if qo kd (xL s i) (yw s i) then some (mn (xL s i) (yw s i) (yw s i).size,yQ s i) else none
def zG(s:BA)(i:Nat):Nat:=zV 97 122 s i
def bK(last:Option BA)(k:BA):Bool:=match last with|none=>true|some l=>Op.bytesLess l.toList k.toList
def kE(s:BA)(keyed:Bool)(last:Option BA)(i:Nat):Option (BA×Nat):=
 if keyed=true then
  if bt s (zG s i)=58/\bK last (s.extract i (zG s i))=true then some (s.extract i (zG s i),zG s i+1) else none
 else some (noB,i)
def yC(R:Nat->Option (DT×Nat))(s:BA)(fin:Nat)(keyed:Bool):Nat->Option BA->Nat->Option (List (BA×DT)×Nat)
 | 0,_,_=>none
 |n+1,last,i=>
  match kE s keyed last i with
  |none=>none
  |some (k,i1)=>
   match R i1 with
   |none=>none
   |some (d,j)=>
    if bt s j=fin then some ([(k,d)],j+1)
    else if bt s j=44 then
     match yC R s fin keyed n (some k) (j+1) with
     |none=>none
     |some (l,e)=>some ((k,d)::l,e)
    else none
def qQ(R:Nat->Option (DT×Nat))(s:BA)(fin:Nat)(keyed:Bool)(i:Nat):Option (List (BA×DT)×Nat):=
 if bt s i=fin then some ([],i+1) else yC R s fin keyed (s.size+2) none i
def zD(R:PT->Nat->Option (DT×Nat))(s:BA):Bool->List PT->Nat->Option (List DT×Nat)
 | _,[],i=>some ([],i)
 |first,t::r,i=>
  if first=true then
   match R t i with
   |none=>none
   |some (d,j)=>match zD R s false r j with|none=>none|some (ds,e)=>some (d::ds,e)
  else if bt s i=44 then
   match R t (i+1) with
   |none=>none
   |some (d,j)=>match zD R s false r j with|none=>none|some (ds,e)=>some (d::ds,e)
  else none
def yf(R:PT->Nat->Option (DT×Nat))(s:BA)(pb:PB)(i:Nat):Option (DT×Nat):=
 match pb with
 | .recd fs=>
  if bt s i=40 then
   match zD R s true (fs.map PF.ty) (i+1) with
   |none=>none
   |some (ds,j)=>if bt s j=41 then some (.mk 114 0 noB [] ds,j+1) else none
  else none
 | .enum l _=>
  if i<s.size then
   match (l.map Prod.fst).findIdx? (λc=>c==bt s i) with
   |none=>none
   |some q=>some (.mk 101 q noB [] [],i+1)
  else none
 | .bytes n=>
  if bt s i=39/\zG s (i+1)-(i+1)=n/\bt s (zG s (i+1))=39 then some (.mk 102 0 (s.extract (i+1) (zG s (i+1))) [] [],zG s (i+1)+1) else none
def bA(s:BA)(i:Nat):Nat:=min (zV 48 57 s i) (i+3)
def QK(s:BA)(i:Nat):Nat->Nat
 | 0=>0
 |n+1=>10*QK s i n+(bt s (i+n)-48)
def qj(R:PT->Nat->Option (DT×Nat))(s:BA)(pl:Bool)(ts:List PT)(i:Nat):Option (DT×Nat):=
 if pl=true then
  match ts with
  | []=>none
  |t::_=>match R t i with|none=>none|some (d,j)=>some (.mk 40 0 noB [] [d],j)
 else if bt s i=60/\bA s (i+1)≠i+1/\¬(bt s (i+1)=48/\bA s (i+1)-(i+1) > 1)/\bt s (bA s (i+1))=58 then
  match ts[QK s (i+1) (bA s (i+1)-(i+1))]? with
  |none=>none
  |some t=>
   match R t (bA s (i+1)+1) with
   |none=>none
   |some (d,j)=>if bt s j=62 then some (.mk 40 (QK s (i+1) (bA s (i+1)-(i+1)):Nat) noB [] [d],j+1) else none
 else none
def xj(R:PT->Nat->Option (DT×Nat))(s:BA)(env:Nat->Option PB)(c i:Nat):Option (DT×Nat):=
 if c=110 then (if bt s i=78 then some (.mk 110 0 noB [] [],i+1) else none)
 else if c=116 then (if bt s i=84 then some (.mk 116 1 noB [] [],i+1) else if bt s i=70 then some (.mk 116 0 noB [] [],i+1) else none)
 else if c=105\/c=108 then (match xE s c i with|none=>none|some (n,j)=>some (.mk c n noB [] [],j))
 else if c=115 then (if bt s i=34/\bt s (zG s (i+1))=34 then some (.mk 115 0 (s.extract (i+1) (zG s (i+1))) [] [],zG s (i+1)+1) else none)
 else match env c with|none=>none|some pb=>yf R s pb i
def xI(R:Nat->Option (DT×Nat))(s:BA)(c i:Nat):Option (DT×Nat):=
 if bt s i=c then
  match qQ R s (yE c) (c==123) (i+1) with
  |none=>none
  |some (l,j)=>some (.mk c 0 noB (if (c==123)=true then l.map Prod.fst else []) (l.map Prod.snd),j)
 else none
def rdT(s:BA)(env:Nat->Option PB)(pl:Bool):Nat->PT->Nat->Option (DT×Nat)
 | 0,_,_=>none
 |f+1,.leaf c _,i=>xj (rdT s env pl f) s env c i
 |f+1,.wrap c _ t,i=>xI (rdT s env pl f t) s c i
 |f+1,.alts _ ts,i=>qj (rdT s env pl f) s pl ts i
def Vr(s:BA)(R:Nat->Option (DT×Nat)):Prop:=∀i d j,R i=some (d,j)->i<j/\j<=s.size
def vU(lo hi:Nat)(s:BA):∀n i,s.size-i<=n->i<=zV lo hi s i/\(i<=s.size->zV lo hi s i<=s.size):=by
 intro n;induction n with
 |zero=>intro i h;rw[zV,dif_neg M_];exact⟨l_,λh=>h⟩
 |succ n ih=>
  intro i h;rw[zV];split
  .split
   .have:=ih (i+1) M_;exact⟨M_,λ_=>this.2 M_⟩
   .exact⟨l_,λh=>h⟩
  .exact⟨l_,λh=>h⟩
def pH(s:BA)(i:Nat):i<=zG s i:=(vU 97 122 s _ i l_).1
def ak{s:BA}{keyed:Bool}{last:Option BA}{i:Nat}{k:BA}{j:Nat}(h:kE s keyed last i=some (k,j)):i<=j:=by
 unfold kE at h;split at h
 .split at h
  .simp only[ah_,ad_]at h;have:=pH s i;omega
  .simp at h
 .simp only[ah_,ad_]at h;omega
def dB{s:BA}{R:Nat->Option (DT×Nat)}(a:Vr s R){fin:Nat}(hf:0<fin){keyed:Bool}:∀(n:Nat) (last:Option BA) (i:Nat) (l:List (BA×DT)) (j:Nat),yC R s fin keyed n last i=some (l,j)->i<j/\j<=s.size:=by
 intro n;induction n with
 |zero=>intro last i l j h;simp[yC]at h
 |succ n ih=>
  intro last i l j h;unfold yC at h;split at h
  .simp at h
  .rename_i k g hk;have h1:=ak hk;split at h
   .simp at h
   .rename_i d b hd;have f:=a _ _ _ hd;split at h
    .rename_i hb;have:=zc (s:=s) (i:=b) M_;simp only[ah_,ad_]at h;omega
    .split at h
     .split at h
      .simp at h
      .rename_i m e he;have:=ih _ _ _ _ he;simp only[ah_,ad_]at h;omega
     .simp at h
def cD{s:BA}{R:PT->Nat->Option (DT×Nat)}(b:∀t,Vr s (R t)):∀(ts:List PT) (first:Bool) (i:Nat) (l:List DT) (j:Nat),i<=s.size->zD R s first ts i=some (l,j)->i<=j/\j<=s.size:=by
 intro ts;induction ts with
 |nil=>intro first i l j hi h;simp[zD]at h;omega
 |cons t r ih=>
  intro first i l j hi h
  unfold zD at h;split at h
  .split at h
   .simp at h
   .rename_i d f hd;have a:=b _ _ _ _ hd;split at h
    .simp at h
    .rename_i g e he;have:=ih _ _ _ _ a.2 he;simp only[ah_,ad_]at h;omega
  .split at h
   .split at h
    .simp at h
    .rename_i d f hd;have a:=b _ _ _ _ hd;split at h
     .simp at h
     .rename_i g e he;have:=ih _ _ _ _ a.2 he;simp only[ah_,ad_]at h;omega
   .simp at h
def dP{s:BA}{R:PT->Nat->Option (DT×Nat)}(a:∀t,Vr s (R t))(pb:PB):Vr s (yf R s pb):=by
 intro i d j h;unfold yf at h;split at h
 .split at h
  .rename_i hb;have h0:=zc (s:=s) (i:=i) M_;split at h
   .simp at h
   .rename_i ds b hd;have h1:=cD a _ _ _ _ _ M_ hd;split at h
    .rename_i hc;have:=zc (s:=s) (i:=b) M_;simp only[ah_,ad_]at h;omega
    .simp at h
  .simp at h
 .split at h
  .split at h
   .simp at h
   .simp only[ah_,ad_]at h;omega
  .simp at h
 .split at h
  .rename_i hb;have:=zc (s:=s) (i:=zG s (i+1)) M_;have:=pH s (i+1);simp only[ah_,ad_]at h;omega
  .simp at h
def eY(c:Nat):0<yE c:=by unfold yE;split<;>omega
def aq{s:BA}{i:Nat}{n:Int}{j:Nat}(h:xE s kd i=some (n,j)):i<j/\j<=s.size:=by
 unfold xE at h;split at h
 .rename_i hn;simp only[ah_,ad_]at h;have h0:=hn.1;have hs:i<=sgn s i:=by unfold sgn;split<;>omega
  unfold yw at h0;rw[bl_]at h0;have hg:=vU 48 57 s _ (sgn s i) l_;unfold yQ at *;rw[<- h.2];refine⟨M_,hg.2 M_⟩
 .simp at h
def qx(s:BA)(env:Nat->Option PB)(pl:Bool)(f:Nat):∀t,Vr s (rdT s env pl f t):=by
 induction f with
 |zero=>intro t i d j h;simp[rdT]at h
 |succ f ih=>
  intro t i d j h;cases t with
  |leaf c p=>
   simp only[rdT]at h;unfold xj at h;have one:∀{k x},bt s i=k->0<k->some (x,i+1)=some (d,j)->i<j/\j<=s.size:=λhb h0 h=>by
    have:=zc (s:=s) (i:=i) M_;simp only[ah_,ad_]at h;omega
   split at h
   .split at h
    .rename_i hb;exact one hb M_ h
    .simp at h
   .split at h
    .split at h
     .rename_i hb;exact one hb M_ h
     .split at h
      .rename_i hb;exact one hb M_ h
      .simp at h
    .split at h
     .split at h
      .simp at h
      .rename_i n a hn;have:=aq hn;simp only[ah_,ad_]at h;omega
     .split at h
      .split at h
       .rename_i hb;have:=zc (s:=s) (i:=zG s (i+1)) M_;have:=pH s (i+1);simp only[ah_,ad_]at h;omega
       .simp at h
      .split at h
       .simp at h
       .exact dP ih _ _ _ _ h
  |wrap c p t=>
   simp only[rdT]at h;unfold xI at h;split at h
   .split at h
    .simp at h
    .rename_i l a hl;simp only[ah_,ad_]at h;unfold qQ at hl;have hc:=eY c;split at hl
     .rename_i hb;have:=zc (s:=s) (i:=i+1) M_;simp only[ah_,ad_]at hl;omega
     .have:=dB (ih t) hc _ _ _ _ _ hl;omega
   .simp at h
  |alts p ts=>
   simp only[rdT]at h;unfold qj at h;split at h
   .split at h
    .simp at h
    .split at h
     .simp at h
     .rename_i d1 a hd;have:=ih _ _ _ _ hd;simp only[ah_,ad_]at h;omega
   .split at h
    .rename_i hb;have hg:=(vU 48 57 s _ (i+1) l_).1;have b:i+1<=bA s (i+1):=by unfold bA;omega
     split at h
     .simp at h
     .split at h
      .simp at h
      .rename_i d1 a hd;have h1:=ih _ _ _ _ hd;split at h
       .rename_i hc;have:=zc (s:=s) (i:=a) M_;simp only[ah_,ad_]at h;omega
       .simp at h
    .simp at h
def dv:List UInt8->Nat
 | []=>0
 |c::r=>(c.toNat-48)*10 ^ r.length+dv r
def kQ(l:List UInt8):Prop:=∀c∈l,48<=c.toNat/\c.toNat<=57
def kQ.tail{c:UInt8}(h:kQ (c::r)):kQ r:=λx hx=>h x (List.mem_cons_of_mem _ hx)
def em:∀{l:List UInt8},kQ l->dv l<10 ^ l.length
 | [],_=>by simp[dv]
 |c::r,h=>by
  have h1:=em h.tail;have a:=h c (b0_ ..);have a:(c.toNat-48)*10 ^ r.length<=9*10 ^ r.length:=b6_ _ M_;simp only[dv,a6_,Nat.pow_succ];omega
def Gw{c:UInt8}(hc:49<=c.toNat):10 ^ r.length<=dv (c::r):=by
 have a:1*10 ^ r.length<=(c.toNat-48)*10 ^ r.length:=b6_ _ M_;simp only[dv];omega
def Qr:∀{a b:List UInt8},a.length=b.length->kQ a->kQ b->(Op.bytesLess a b=true↔dv a<dv b)/\(a=b↔dv a=dv b)
 | [],[],_,_,_=>by simp[Op.bytesLess,dv]
 | [],_::_,h,_,_=>by simp at h
 | _::_,[],h,_,_=>by simp at h
 |x::a,y::b,h,ha,hb=>by
  have hl:a.length=b.length:=by simpa using h
  obtain⟨o,q⟩:=Qr hl ha.tail hb.tail;have hx:=ha x (b0_ ..);have hy:=hb y (b0_ ..);have la:=em ha.tail;have d:=em hb.tail;rw[hl]at la;have g:(x<y)↔x.toNat<y.toNat:=UInt8.lt_iff_toNat_lt;have f:(x=y)↔x.toNat=y.toNat:=UInt8.toNat_inj.symm;simp only[Op.bytesLess,dv,hl,au_,ax_,decide_eq_true_eq,beq_iff_eq,List.cons.injEq];rw[g,f,o,q];generalize 10 ^ b.length=p at la d⊢;generalize dv a=u at la⊢;generalize dv b=v at d⊢;generalize x.toNat=m at hx⊢;generalize y.toNat=n at hy⊢;rcases Nat.lt_trichotomy m n with h|h|h
  .have d:(m-48+1)*p<=(n-48)*p:=b6_ _ M_;rw[Nat.add_mul,Nat.one_mul]at d;exact⟨⟨λ_=>M_,λ_=>.inl h⟩,⟨λe=>M_,λe=>M_⟩⟩
  .subst h;exact⟨⟨λe=>M_,λe=>.inr ⟨rfl,M_⟩⟩,⟨λe=>M_,λe=>⟨rfl,M_⟩⟩⟩
  .have d:(n-48+1)*p<=(m-48)*p:=b6_ _ M_;rw[Nat.add_mul,Nat.one_mul]at d;exact⟨⟨λe=>M_,λe=>M_⟩,⟨λe=>M_,λe=>M_⟩⟩
def Gk{t T:List UInt8}{c d:UInt8}{R:List UInt8}(b:t=c::r)(a:T=d::R)(dt:kQ t)(dT:kQ T)(hc:¬(c.toNat=48/\1<t.length))(hd:49<=d.toNat):(t.length<=T.length/\(t.length=T.length->(!Op.bytesLess t T && !(t==T))=false))↔dv t<=dv T:=by
 have lt:=em dt;have f:=em dT;have f:10 ^ R.length<=dv T:=by rw[a];exact Gw hd
 rcases Nat.lt_trichotomy t.length T.length with h|h|h
 .have h1:10 ^ t.length<=10 ^ R.length:=Nat.pow_le_pow_right D_ (by rw[a]at h;simp at h;omega);exact⟨λ_=>M_,λ_=>⟨M_,λe=>M_⟩⟩
 .obtain⟨o1,o2⟩:=Qr h dt dT;constructor
  .rintro⟨_,f⟩;have g:=f h;by_cases hb:Op.bytesLess t T=true
   .have:=o1.1 hb;omega
   .by_cases he:t=T
    .have:=o2.1 he;omega
    .simp[hb,he]at g
  .intro m;refine⟨M_,λ_=>?_⟩;by_cases hb:Op.bytesLess t T=true
   .simp[hb]
   .have m:¬dv t<dv T:=λe=>hb (o1.2 e);have he:t=T:=o2.2 M_;simp[he]
 .have h1:49<=c.toNat:=by
   have:=dt c (by rw[b];exact b0_ ..);have m:0<T.length:=by rw[a];simp
   omega
  have f:10 ^ r.length<=dv t:=by rw[b];exact Gw h1
  have g:10 ^ T.length<=10 ^ r.length:=Nat.pow_le_pow_right D_ (by rw[b]at h;simp at h;omega);exact⟨λ⟨e,_⟩=>M_,λe=>M_⟩
def uB:∀{l:List UInt8}{acc:Nat},kQ l->acc<=2 ^ 64-1->
 Lib.parseUintM (2 ^ 64-1) acc l=if acc*10 ^ l.length+dv l<=2 ^ 64-1 then .ok (acc*10 ^ l.length+dv l) else .range
 | [],acc,_,h=>by simp only[Lib.parseUintM,dv,a7_,Nat.pow_zero,Nat.mul_one,Nat.add_zero];rw[i_ h]
 |c::r,acc,hd,h=>by
  have hc:=hd c (b0_ ..);have e:acc*10 ^ (c::r).length+dv (c::r)=(acc*10+(c.toNat-48))*10 ^ r.length+dv r:=by
   simp only[dv,a6_,Nat.pow_succ,Nat.add_mul];rw[Nat.mul_assoc acc 10,bc_ 10 (10 ^ r.length)];omega
  have hp:1<=10 ^ r.length:=Nat.one_le_pow _ _ D_;have a:acc*10+(c.toNat-48)<=(acc*10+(c.toNat-48))*10 ^ r.length:=by
   have:=Nat.mul_le_mul_left (acc*10+(c.toNat-48)) hp;omega
  rw[e];unfold Lib.parseUintM;rw[i_ hc];by_cases h1:1844674407370955162<=acc
  .rw[i_ h1,n_ M_]
  .rw[n_ h1];by_cases a:2 ^ 64-1<acc*10+(c.toNat-48)
   .rw[i_ a,n_ M_]
   .rw[n_ a];exact uB hd.tail M_
def lP(hl:l≠[])(hd:kQ l):Lib.parseUintB 64 l=if dv l<=2 ^ 64-1 then .ok (dv l) else .range:=by
 unfold Lib.parseUintB;rw[n_ hl,uB hd M_];simp
def ZR(hl:l≠[])(hd:kQ l):Lib.parseIntB 64 l=if dv l<2 ^ 63 then .ok (dv l:Int) else .range:=by
 cases l with
 |nil=>exact absurd rfl hl
 |cons c r=>
  have hc:=hd c (b0_ ..);unfold Lib.parseIntB;simp only;rw[n_ M_,lP (by simp) hd];by_cases h1:dv (c::r)<2 ^ 63
  .rw[i_ h1,i_ M_];simp only;rw[n_ M_,n_ M_,n_ M_]
  .rw[n_ h1];by_cases a:dv (c::r)<=2 ^ 64-1
   .rw[i_ a];simp only;rw[i_ M_]
   .rw[n_ a]
def ZD(hl:l≠[])(hd:kQ l):Lib.parseIntB 64 (45::l)=if dv l<=2 ^ 63 then .ok (-(dv l:Int)) else .range:=by
 unfold Lib.parseIntB;simp only;rw[i_ D_,lP hl hd];by_cases h1:dv l<=2 ^ 63
 .rw[i_ h1,i_ M_];simp only;rw[n_ (λh=>h.1 D_),n_ M_,i_ D_]
 .rw[n_ h1];by_cases a:dv l<=2 ^ 64-1
  .rw[i_ a];simp only;rw[n_ (λh=>h.1 D_),i_ ⟨D_,M_⟩]
  .rw[n_ a]
def VL(kd:Nat)(neg:Bool):Nat:=if kd=105 then (if neg=true then 2147483648 else 2147483647) else (if neg=true then 9223372036854775808 else 9223372036854775807)
def Yn(kd:Nat)(neg:Bool):∃d R,(qt kd neg).data.toList=d::R/\kQ (qt kd neg).data.toList/\49<=d.toNat/\dv (qt kd neg).data.toList=VL kd neg:=by
 unfold qt VL;by_cases h:kd=105<;>cases neg<;>simp only[h,if_true,if_false,bs_]
 all_goals exact⟨_,_,rfl,(by unfold kQ;decide),D_,D_⟩
def Yv{t:BA}{c:UInt8}(h:t.data.toList=c::r):bt t 0=c.toNat:=by
 obtain⟨⟨l⟩⟩:=t;simp only at h;subst h;rfl
def YD{neg:Bool}{t:BA}(hd:kQ t.data.toList):qo kd neg t↔0<t.size/\¬(bt t 0=48/\(1<t.size\/neg=true))/\dv t.data.toList<=VL kd neg:=by
 obtain⟨d,R,h1,h,m,a⟩:=Yn kd neg;have hz:∀x:BA,x.size=x.data.toList.length:=λx=>Array.length_toList.symm;unfold qo;rw[ByteArray.toList_eq,ByteArray.toList_eq,<- a];constructor
 .rintro⟨b,a,f⟩;refine⟨b,a,?_⟩;cases hl:t.data.toList with
  |nil=>have g:=hz t;rw[hl,a7_]at g;omega
  |cons c r=>
   rw[<- hl];have hb:=Yv hl;exact(Gk hl h1 hd h (by rw[<- hb,<- hz];exact λe=>a ⟨e.1,.inl e.2⟩) m).1 (by rw[<- hz,<- hz];exact f)
 .rintro⟨b,a,f⟩;refine⟨b,a,?_⟩;cases hl:t.data.toList with
  |nil=>have g:=hz t;rw[hl,a7_]at g;omega
  |cons c r=>
   rw[<- hl];have hb:=Yv hl;have:=(Gk hl h1 hd h (by rw[<- hb,<- hz];exact λe=>a ⟨e.1,.inl e.2⟩) m).2 f;rw[<- hz,<- hz]at this;exact this
def YY(lo hi:Nat)(s:BA):∀n i,s.size-i<=n->∀k,i<=k->k<zV lo hi s i->lo<=bt s k/\bt s k<=hi:=by
 intro n;induction n with
 |zero=>
  intro i hn k h1 a;by_cases hb:lo<=bt s i/\bt s i<=hi
  .by_cases hk:k=i
   .subst hk;exact hb
   .unfold zV at a;simp only[dif_neg (show ¬i<s.size by omega)]at a;omega
  .rw[jb hb]at a;omega
 |succ n ih=>
  intro i hn k h1 a;by_cases hb:lo<=bt s i/\bt s i<=hi
  .by_cases b:i<s.size
   .rw[pV b hb]at a;by_cases hk:k=i
    .subst hk;exact hb
    .exact ih (i+1) M_ k M_ a
   .exact ih i M_ k h1 a
  .rw[jb hb]at a;omega
def ez{s:BA}{a b:Nat}{c:UInt8}(h:c∈(s.extract a b).data.toList):∃k,a<=k/\k<b/\bt s k=c.toNat:=by
 rw[Array.mem_toList_iff,Array.mem_iff_getElem]at h;obtain⟨q,d,he⟩:=h;have e:q<(s.extract a b).size:=d;rw[bl_]at e;refine⟨a+q,M_,M_,?_⟩;unfold bt;rw[dif_pos M_,<- he]
 congr 1
 exact(ByteArray.getElem_extract ..).symm
def ed(s:BA)(i:Nat):kQ (s.extract i (zV 48 57 s i)).data.toList:=by
 intro c hc;obtain⟨k,h1,a,b⟩:=ez hc;have:=YY 48 57 s _ i l_ k h1 a;omega
end Go.Proofs.YtjkiencmjggakaaGreatDoor
