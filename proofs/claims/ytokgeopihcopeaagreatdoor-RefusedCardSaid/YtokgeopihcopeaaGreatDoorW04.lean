import Derived.Test.YtokgeopihcopeaaGreatDoorW03
set_option linter.unusedVariables false
set_option maxHeartbeats 16000000
set_option maxRecDepth 100000
set_option linter.defProp false
set_option linter.unusedSimpArgs false
open Go.Proofs.Tryz
namespace Go.Proofs.YtokgeopihcopeaaGreatDoor
open Go.RowKit
variable {wg MX:Int}{TS:Ap}{US:As}{W':Aw}{j':Nat}
structure WM(w:Aw)(X:Az)(br bz B:Nat)(s:BA)(tv0 u0:Ax)(ds:Ar)(j:Nat)(bad:Aq)(wg MX:Int)(TS:Ap)(US:As)(Xk:Az)(zs:Ay)(tv u:Ax)(W:Aw):Prop where
 R:Rep W Xk br bz B s j bad wg MX TS US zs tv u
 D:xC W Xk B s zs ds
 XX:∀g,X g->Xk g
 st:zT w W br bz tv0 u0 tv u
def Mj(w:Aw)(X:Az)(br bz B:Nat)(s:BA)(wr mx:Int)(tv0 u0:Ax)(m:Nat)(nv:Ax)(W:Aw):Prop:=
 ∃n:Nat,nv=I_ n/\n<=6/\7-n<=m/\
  ((∃ds j Xk zs tv u,ds.length=n/\WM w X br bz B s tv0 u0 ds j false (qy [] ds wr) (qp ds mx) (xI 0 ds) (jm ds) Xk zs tv u W/\yi s 6 0=jM ds (yi s (6-n) j))\/
   (∃k Xk zs tv u wg MX TS US,Rep W Xk br bz B s k true wg MX TS US zs tv u/\zT w W br bz tv0 u0 tv u/\(∀g,X g->Xk g)/\ze s=.error k))
def jb(w:Aw)(X:Az)(br bz B:Nat)(s:BA)(wr mx:Int)(tv0 u0:Ax)(W:Aw):Prop:=
 match ze s with
 | .error k=>∃Xk zs tv u wg MX TS US,Rep W Xk br bz B s k true wg MX TS US zs tv u/\zT w W br bz tv0 u0 tv u/\(∀g,X g->Xk g)
 | .ok (ds,t)=>∃Xk zs tv u,WM w X br bz B s tv0 u0 ds s.size false (qy [] ds wr) (mix t (qp ds mx)) (xI 0 ds++flat (xI 0 ds).length t) (jm ds++zZ t) Xk zs tv u W/\
  zs[30]?=some (Z_ (((xI 0 ds).length+(flat (xI 0 ds).length t).length-1:Nat):Int))
def WM.si{w:Aw}{X Xk:Az}{br bz B:Nat}{s:BA}{tv0 u0 tv u:Ax}{ds:Ar}{j:Nat}{bad:Aq}{zs:Ay}{W:Aw}(M:WM w X br bz B s tv0 u0 ds j bad wg MX TS US Xk zs tv u W)(h:zq W W'):WM w X br bz B s tv0 u0 ds j bad wg MX TS US Xk zs tv u W':=
 ⟨M.R.si h,M.D.step M.R (zT.oS h),M.XX,M.st.si h⟩
def qo{w W:Aw}{X Xk:Az}{br bz B:Nat}{s:BA}{wr mx:Int}{tv0 u0 tv u:Ax}{k:Nat}{zs:Ay}(h:ze s=.error k)(R:Rep W Xk br bz B s k true wg MX TS US zs tv u)(st:zT w W br bz tv0 u0 tv u)(hX:∀g,X g->Xk g):jb w X br bz B s wr mx tv0 u0 W:=by
 unfold jb;rw[h];exact⟨_,_,_,_,_,_,_,_,R,st,hX⟩
def aY{s:BA}{ds:Ar}{i:Nat}(h:yi s 6 0=.ok (ds,i)):ze s=match pT s i with | .error k=>.error k | .ok (t,j)=>if j<s.size then .error j else .ok (ds,t):=by
 unfold ze;rw[h];rfl
def wE{s:BA}{k:Nat}(h:yi s 6 0=.error k):ze s=.error k:=by unfold ze;rw[h]
def QP{w W:Aw}{X Xk:Az}{br bz B:Nat}{s:BA}{wr mx:Int}{tv0 u0 tv u:Ax}{zs:Ay}{ds:Ar}{t:PT}(h:ze s=if j'<s.size then .error j' else .ok (ds,t))(a:¬j'<s.size)(b:j'<=s.size)(M:WM w X br bz B s tv0 u0 ds j' false (qy [] ds wr) (mix t (qp ds mx)) (xI 0 ds++flat (xI 0 ds).length t) (jm ds++zZ t) Xk zs tv u W)(hz:zs[30]?=some (Z_ (((xI 0 ds).length+(flat (xI 0 ds).length t).length-1:Nat):Int))):jb w X br bz B s wr mx tv0 u0 W:=by
 have e:j'=s.size:=M_;subst e;unfold jb;rw[h,n_ a];exact⟨_,_,_,_,M,hz⟩
def WM.call{w:Aw}{X Xk:Az}{br bz B:Nat}{s:BA}{tv0 u0 tv u tv' u':Ax}{ds:Ar}{j:Nat}{bad e:Aq}{f a:Int}{b:Ap}{d:As}{zs:Ay}{W:Aw}(M:WM w X br bz B s tv0 u0 ds j bad wg MX TS US Xk zs tv u W)(g:Rep W' Xk br bz B s j' e f a b d zs tv' u')(st:zT W W' br bz tv u tv' u'):WM w X br bz B s tv0 u0 ds j' e f a b d Xk zs tv' u' W':=
 ⟨g,M.D.step M.R st,M.XX,M.st.trans st⟩
def xC.wider{W:Aw}{X Y:Az}{B:Nat}{s:BA}{zs:Ay}{ds:Ar}(h:xC W X B s zs ds)(f:∀g,X g->Y g):xC W Y B s zs ds:=by
 refine⟨h.1,λk hk=>?_⟩;obtain⟨so,fv,sb,o,n,a,xs,h1,b,d,e⟩:=h.2 k hk;exact⟨so,fv,sb,o,n,a,xs,h1,b,λg hg=>f g (d g hg),e⟩
def held(W:Aw)(v0 v1 v2 v3 v4:Ax):World:=W.alloc (.cells #[v0,v1,v2,v3,v4] 62)
def cN(W:Aw)(a b d e f:Ax)(S:Az):Fr W (held W a b d e f) S:=(A_ W S).alloc _
def rg(W:Aw)(a b d e f:Ax):Blk (held W a b d e f) W.heap.size [a,b,d,e,f] 62:=
 B_ W #[a,b,d,e,f] 62
def JG(W:Aw)(a b d e f:Ax):W.heap.size<(held W a b d e f).heap.size:=(rg W a b d e f).lt
def WM.held{w:Aw}{X Xk:Az}{br bz B:Nat}{s:BA}{tv0 u0 tv u tv' u':Ax}{ds:Ar}{j:Nat}{bad v:Aq}{x m:Int}{r:Ap}{t:As}{zs:Ay}{W:Aw}{fv:Ax}(M:WM w X br bz B s tv0 u0 ds j bad wg MX TS US Xk zs tv u W)(st:zT W W' br bz tv u tv' u')(p:Rep W' (λg=>Xk g\/fv.ownBlock=some g) br bz B s j' v x m r t zs tv' u')(a b d f l:Ax):WM w X br bz B s tv0 u0 ds j' v x m r t (λg=>(Xk g\/fv.ownBlock=some g)\/g=W'.heap.size) zs tv' u' (held W' a b d f l):=by
 have hs:=JG W' a b d f l;have y:=(p.o (cN W' a b d f l _)).fe (Y:=λg=>(Xk g\/fv.ownBlock=some g)\/g=W'.heap.size) (λg hg=>by
  rcases hg with e|e
  .exact .inl e
  .exact .inr ⟨M_,M_⟩)
 have q:zT W' (Go.Proofs.YtokgeopihcopeaaGreatDoor.held W' a b d f l) br bz tv' u' tv' u':=⟨cN W' a b d f l _,.inl rfl,.inl rfl⟩;have a:=M.D.step M.R st;exact⟨y,(a.wider (λg h=>.inl h)).step p q |>.wider (λg h=>.inl h),λg h=>.inl (.inl (M.XX g h)),(M.st.trans st).trans q⟩
def JR{s:BA}{ds:Ar}{n j c:Nat}(h:yi s 6 0=jM ds (yi s (6-n) j))(hn:n<6)(hc:bt s j=c)(a:(65<=c/\c<=70)/\j+1<s.size):yi s 6 0=if bt s (j+1)=61 then (match yG s (j+2) with | .error k=>.error k | .ok (pb,e)=>if bt s e=59 then jM (ds++[⟨c,j,pb⟩]) (yi s (6-(n+1)) (e+1)) else .error e) else .error (j+1):=by
 rw[h,show 6-n=(6-(n+1))+1 by omega,wy,hc,i_ ⟨by simp only[zY,a3_,decide_eq_true_eq];exact a.1,a.2⟩];rfl
def Cd(s:BA)(e j:Nat)(bad:Aq):Prop:=(bad=false/\bt s e=59/\j=e+1)\/(bad=true/\bt s e≠59/\j=e)
def WV{w W:Aw}{X:Az}{br bz B:Nat}{s:BA}{i:Nat}{wr mx:Int}{ts:Ap}{us:As}{zs:Ay}{tv u:Ax}(h:eo w X br bz B s i wr mx ts us zs tv u 59 W):∃j bad,Rep W X br bz B s j bad wr mx ts us zs tv u/\zT w W br bz tv u tv u/\Cd s i j bad:=by
 obtain⟨h,st⟩:=h;by_cases e:bt s i=59
 .rw[i_ e]at h;exact⟨_,_,h,st,.inl ⟨rfl,e,rfl⟩⟩
 .rw[n_ e]at h;exact⟨_,_,h,st,.inr ⟨rfl,e,rfl⟩⟩
def laid(W:Aw)(bz k:Nat)(v0 v1 v2 v3 v4:Ax):World:=
 ((((W.setCell ⟨bz,1+k*5,none⟩ v0).setCell ⟨bz,1+k*5+1,none⟩ v1).setCell ⟨bz,1+k*5+2,none⟩ v2).setCell ⟨bz,1+k*5+3,none⟩ v3).setCell ⟨bz,1+k*5+4,none⟩ v4
def Rep.laid{w:Aw}{X:Az}{br bz B:Nat}{s:BA}{i:Nat}{bad:Aq}{wr mx:Int}{ts:Ap}{us:As}{zs:Ay}{tv u:Ax}(R:Rep w X br bz B s i bad wr mx ts us zs tv u)(k:Nat)(a b d e f:Ax):Rep (laid w bz k a b d e f) X br bz B s i bad wr mx ts us (dX zs (5*k) a b d e f) tv u/\zT w (Go.Proofs.YtokgeopihcopeaaGreatDoor.laid w bz k a b d e f) br bz tv u tv u:=by
 have h:=R.setDef (5*k) a b d e f;unfold Go.Proofs.YtokgeopihcopeaaGreatDoor.laid;rw[show 1+k*5=5*k+1 by omega,show 5*k+1+2=5*k+2+1 by omega,show 5*k+1+3=5*k+3+1 by omega,show 5*k+1+4=5*k+4+1 by omega];exact h
section
variable {w W:Aw} {X Xk:Az} {br bz B:Nat} {s:BA} {wr mx:Int} {tv0 u0 tv u:Ax} {ds:Ar} {j j6 e2 c k n:Nat} {bad6:Aq} {pb:PB} {zs:Ay}
def mc(a:yi s 6 0=if bt s e2=59 then jM (ds++[⟨c,j,pb⟩]) (yi s (6-(n+1)) (e2+1)) else .error e2)(d:Cd s e2 j6 bad6)(e:ds.length=n)(hn:n<6)(M:WM w X br bz B s tv0 u0 (ds++[⟨c,j,pb⟩]) j6 bad6 (qy [] (ds++[⟨c,j,pb⟩]) wr) (qp (ds++[⟨c,j,pb⟩]) mx) (xI 0 (ds++[⟨c,j,pb⟩])) (jm (ds++[⟨c,j,pb⟩])) Xk zs tv u W):Mj w X br bz B s wr mx tv0 u0 (6-n) (Z_ ((n:Int)+1)) W:=by
 refine⟨n+1,by simp,M_,M_,?_⟩;rcases d with⟨rfl,b,rfl⟩|⟨rfl,b,rfl⟩
 .rw[i_ b]at a;exact .inl ⟨_,_,_,_,_,_,by simp[e],M,a⟩
 .rw[n_ b]at a;exact .inr ⟨_,_,_,_,_,_,_,_,_,M.R,M.st,M.XX,wE a⟩
def eF{x:PB×Nat}(hc:c=65+k)(a:vh 0 (65+k) ds=some x)(M:WM w X br bz B s tv0 u0 ds j6 bad6 (zF j (pb.wr (qy [] ds wr))) (pb.mx (qp ds mx)) (xI 0 ds++pb.ts (xI 0 ds).length) (jm ds++pb.us) Xk zs tv u W):WM w X br bz B s tv0 u0 (ds++[⟨c,j,pb⟩]) j6 bad6 (qy [] (ds++[⟨c,j,pb⟩]) wr) (qp (ds++[⟨c,j,pb⟩]) mx) (xI 0 (ds++[⟨c,j,pb⟩])) (jm (ds++[⟨c,j,pb⟩])) Xk zs tv u W:=by
 have hm:c∈[]++ds.map PD.letter:=by
  by_cases h:c∈ds.map PD.letter
  .simpa using h
  .rw[hc,<- uR 0,a]at h;cases h
 refine⟨?_,M.D.again (d:=⟨c,j,pb⟩) hc a (λ_ h=>h),M.XX,M.st⟩;rw[nT,i_ hm,nA,nI,nN,be_];exact M.R
def Vd{so o nn:Int}{fv:Ax}{sb:BA}{a:Nat}{xs:Ay}(l:k<6)(hc:c=65+k)(e:vh 0 (65+k) ds=none)(M:WM w X br bz B s tv0 u0 ds j6 bad6 (pb.wr (qy [] ds wr)) (pb.mx (qp ds mx)) (xI 0 ds++pb.ts (xI 0 ds).length) (jm ds++pb.us) Xk zs tv u W)(own:W.ownsRow B 110 10 fv a xs)(b:∀g,fv.ownBlock=some g->Xk g)(f:sg s (xI 0 ds).length pb so a xs sb o nn):WM w X br bz B s tv0 u0 (ds++[⟨c,j,pb⟩]) j6 bad6 (qy [] (ds++[⟨c,j,pb⟩]) wr) (qp (ds++[⟨c,j,pb⟩]) mx) (xI 0 (ds++[⟨c,j,pb⟩])) (jm (ds++[⟨c,j,pb⟩])) Xk (dX zs (5*k) (.int .u8 so) fv (.string sb) (Z_ o) (Z_ nn)) tv u (laid W bz k (.int .u8 so) fv (.string sb) (Z_ o) (Z_ nn)):=by
 have hm:c∉[]++ds.map PD.letter:=by
  rw[hc,bq_];exact(uR 0 _ _).1 e
 obtain⟨R,st⟩:=M.R.laid k (.int .u8 so) fv (.string sb) (Z_ o) (Z_ nn);refine⟨?_,xC.add (d:=⟨c,j,pb⟩) (M.D.step M.R st) l hc e (λ_ h=>h) (zj own st.fr (λg hg=>M.R.offS (b g hg))) b f,M.XX,M.st.trans st⟩;rw[nT,n_ hm,nA,nI,nN,be_];exact R
end
def cwtQ1_{p:Prop}(h:p:=by
 (try have:=cc1;obtain⟨t,j'⟩:=q)
 rw[hp]at hsc;replace hp:=zy hp;refine tr_ 8 (λW=>z_ W br 3 (P_ bz)) ?_;refine tb_ 0 rfl K_ (λ_ _ _ h=>h) xo_ x8_ ?_;refine tb_ 1 rfl K_ (λ_ _ _ h=>h) xo_ x8_ ?_;refine tb_ 2 rfl K_ (λ_ _ _ h=>h) xo_ x8_ ?_;refine tb_ 3 rfl K_ (λ_ _ _ h=>h) xo_ x8_ ?_;refine tb_ 4 rfl K_ (λ_ _ _ h=>h) xo_ x8_ ?_;refine zh 5 rfl K_ (λ_=>c3) (λK hK=>?_);go_simp;apply hT.o.mono;intro e w8 hh;unfold yp at hh;rw[hp.o]at hh;(first|(have:=cc1;obtain⟨rfl,tv8,u8,R8,st8⟩:=hh)|(obtain⟨⟨v,rfl⟩,mx8,ts8,us8,tv8,u8,R8,hl8,st8⟩:=hh));refine hK _ _ ?_;clear hK K;have c38:=R8.here.c3;have z38:w8.cell? ⟨bz,31,none⟩=some rt:=by rw[R8.z.cell];exact hrt
 have g38:=R8.z.th 31;(first|(have:=cc1;obtain⟨v,hv⟩:∃v:Nat,v=(xI 0 ds).length+(flat (xI 0 ds).length t).length-1:=⟨_,rfl⟩;rw[<- hv];replace hv:=zy hv;have S8:=(M1.st.si (zq.drew W1)).trans st8;have D8:=(M1.D.step M1.R (zT.oS (zq.drew W1))).step (M1.R.si (zq.drew W1)) st8;have S9:=zy (S8.trans (R8.setZ 30 (I_ v)).2);have D9:=zy ((D8.step R8 (R8.setZ 30 (I_ v)).2).root (I_ v)))|(have S9:=zy ((M1.st.si (zq.drew W1)).trans (st8.trans (R8.setZ 30 (I_ v)).2))));have R9:=(R8.setZ 30 (I_ v)).1;have hXX:=M1.XX;(try have:=cc1;have hr9:=zy (show(zs'.set 30 (I_ v))[30]?=some (I_ v) by simp[b1_];omega));refine t1_ 6 c38 ?_;refine t1_ 7 c38 ?_;refine t1_ 8 c38 ?_;refine td_ ?_ _;obtain⟨c09,c19,c29⟩:=R9.here.d3;have f29:=R9.here.th 2;(first|(have:=cc1;by_cases hlt:j'<s.size)|(by_cases hlt:k<s.size))
 ·(first|(have:=cc1;have hlt':(j':Int)<(s.size:Int):=M_)|(have hlt':(k:Int)<(s.size:Int):=M_));go_wp2;go_quiet (fail);go_wp2;first|go_end0|refine bodyPost_ret (results_none rfl _ _ _) rfl ?_
  rw[Q_.o];refine⟨rfl,?_⟩;(first|(have:=cc1;have key:=λ(W:World) (hW:zq (w8.setCell ⟨bz,30+1,none⟩ (I_ v)) W)=>qo (wr:=wg) (mx:=mx) (by rw[hsc.o,i_ hlt]) (R9.si hW).sp.1 ((S9.o.si hW).trans (R9.si hW).sp.2) hXX)|(have key:=λ(W:World) (hW:zq (w8.setCell ⟨bz,30+1,none⟩ (I_ v)) W)=>qo (wr:=wg) (mx:=mx) hsc.o (R9.si hW).sp.1 ((S9.o.si hW).trans (R9.si hW).sp.2) hXX));exact key _ x0_
 ·(first|(have:=cc1;have hlt':¬(j':Int)<(s.size:Int):=M_)|(have hlt':¬(k:Int)<(s.size:Int):=M_));go_wp2;go_quiet (fail);go_wp2;first|go_end0|refine bodyPost_ret (results_none rfl _ _ _) rfl ?_
  rw[Q_.o];refine⟨rfl,?_⟩;(first|(have:=cc1;have key:=λ(W:World) (hW:zq (w8.setCell ⟨bz,30+1,none⟩ (I_ v)) W)=>QP (wr:=wg) (mx:=mx) (j':=j') hsc.o hlt R9.il ⟨R9.si hW,D9.o.step R9 (zT.oS hW),hXX,S9.o.si hW⟩ (hv.o▸hr9.o))|(have key:=λ(W:World) (hW:zq (w8.setCell ⟨bz,30+1,none⟩ (I_ v)) W)=>qo (wr:=wg) (mx:=mx) hsc.o (R9.si hW) (S9.o.si hW) hXX));exact key _ x0_):p:=h
def tQ{w:Aw}{X:Az}{br bz B:Nat}{s:BA}{mx:Int}{zs:Ay}{tv u:Ax}(R:Rep w X br bz B s 0 false wg mx [] [] zs tv u)(Z:xC w X B s zs []):Calls prog 20 #[P_ br] w λe w'=>e=.returned (.tuple #[])/\jb w X br bz B s wg mx tv u w':=by
 have e3:=R.sl;have start:Mj w X br bz B s wg mx tv u 7 (O_) w:=⟨0,rfl,M_,M_,.inl ⟨[],0,X,zs,tv,u,rfl,⟨R,Z,λ_ h=>h,zT.refl _ _ _ _ _⟩,(rD _).symm⟩⟩;replace start:=zy start;obtain⟨d8,Q_⟩:=y_ (λ(e:Ending) (w':World)=>e=.returned (.tuple #[])/\jb w X br bz B s wg mx tv u w');rw[<- Q_.o];go_in;go_wp2_with fail;go_loopg [2] 7 (λm nv W=>Mj w X br bz B s wg mx tv u m nv W);case atStart=>exact start
 case round=>
  obtain⟨n,rfl,e1,d6,hA|hC⟩:=hrel
  .obtain⟨ds,j,Xk,zs',tv',u',b5,M,a0⟩:=hA;obtain⟨c0,c1,c2⟩:=M.R.here.d3;have e0:=M.R.il;obtain⟨c,hc⟩:=x_ (bt s j);have d9:c<256:=by rw[<- hc];exact rG _ _
   by_cases a1:n<6/\(65<=c/\c<=70)/\j+1<s.size
   .obtain⟨hn,b9,d2⟩:=a1;have C:=zy (JR a0 hn hc ⟨b9,d2⟩);replace M:=zy M;replace hc:=zy hc;have a2:H_ (∀q,Calls prog 35 #[P_ br] (wr.drewN q) λe w'=>e=.returned (U_ c)/\∃m,w'=(wr.drewN q).drewN m):=λq=>zC (M.o.R.si (zq.drewN wr q)) hc;have a3:H_ (∀(q:Nat) (b:Bool),(decide ((65:Int)<=(c:Int))&&decide ((c:Int)<=70))=b->Calls prog 34 #[U_ c,.int .u8 65,.int .u8 70] (wr.drewN q) λe w'=>e=.returned (.bool b)/\w'=wr.drewN q):=λq b hb=>by rw[<- hb];exact xf _ _ _ _
    have G:=zy (show(decide ((65:Int)<=(c:Int))&&decide ((c:Int)<=70))=true by simp;omega);have h1:(n:Int)<6:=M_;have h3:(j:Int)+1<(s.size:Int):=M_;have I:j<s.size:=M_;go_wp2_with fail;go_quiet (first|(go_at_call 35;exact Calls.quiet_of (a2.o _))|(go_at_call 34;exact Calls.quiet_of_same (a3.o _ _ G)));go_wp2_with fail;have M1:=M.o.si (zq.drewN wr nq);generalize wr.drewN nq=W1 at M1⊢;replace M1:=zy M1;by_cases Y:bt s (j+1)=61
    .rw[i_ Y]at C;go_wp2_with (first
      |(go_at_call 35;apply(zC M1.o.R hc).mono;rintro e w2 ⟨rfl,a7⟩;have a:=M1.o.si a7;have b6:=a.R.here.c1;have b8:=a.R.here.th 1;replace a:=zy a)
      |(go_at_call 36;apply(yL 61 (a.o.R.inc I).1 rfl D_).mono;rintro e w3 ⟨rfl,r,O⟩;rw[i_ Y]at r;have l:=(a.o.call (a.o.R.inc I).1 (a.o.R.inc I).2).call r O;have a5:=l.R.here.c2;replace l:=zy l))
     have Z:=zy (rX l.o.R);cases A:yG s (j+2) with
     |error k=>
      rw[A]at C;replace A:=zy A;go_wp2_with (go_at_call 37;apply Z.o.mono;rintro e J ⟨so,fv,sb,o,nn,b7,xs,d7,u4,rfl,Q,H,a4,N⟩;simp only[pg];rw[A.o]at N;obtain⟨E,sn,F,rfl⟩:=yE H;obtain⟨f,f,f,f,L⟩:=N;have d:=l.o.held Q L (.int .u8 so) (.slice E sn F) (.string sb) (Z_ o) (Z_ nn);have U:=d.R.here.c2;unfold held at U;have a8:=zy (zj H (cN J (.int .u8 so) (.slice E sn F) (.string sb) (Z_ o) (Z_ nn) N_) (λ_ _ h=>h));have B5:=zy (rg J (.int .u8 so) (.slice E sn F) (.string sb) (Z_ o) (Z_ nn));replace d:=zy d);first|go_end0|refine bodyPost_ret (results_none rfl _ _ _) rfl ?_
      rw[Q_.o];exact⟨rfl,qo (wE C) d.o.R d.o.st d.o.XX⟩
     |ok q=>
      obtain⟨pb,e2⟩:=q;rw[A]at C;replace A:=zy A;go_wp2_with (go_at_call 37;apply Z.o.mono;rintro e J ⟨so,fv,sb,o,nn,b7,xs,d7,u4,rfl,Q,H,a4,N⟩;simp only[pg];rw[A.o]at N;obtain⟨E,sn,F,rfl⟩:=yE H;obtain⟨a6,L⟩:=N;have d:=l.o.held Q L (.int .u8 so) (.slice E sn F) (.string sb) (Z_ o) (Z_ nn);have U:=d.R.here.c2;unfold held at U;have a8:=zy (zj H (cN J (.int .u8 so) (.slice E sn F) (.string sb) (Z_ o) (Z_ nn) N_) (λ_ _ h=>h));have B5:=zy (rg J (.int .u8 so) (.slice E sn F) (.string sb) (Z_ o) (Z_ nn));replace d:=zy d;replace a6:=zy a6);apply(yL 59 d.o.R rfl D_).mono;rintro e S ⟨rfl,r⟩;obtain⟨j6,bad6,r,A,hO⟩:=WV r;have f:=d.o.call r A;have B6:=A.fr.bl B5 (d.o.R.offS (.inr rfl));have a9:=zj a8 A.fr (λg hg=>d.o.R.offS (.inl (.inr hg)));obtain⟨k,hk⟩:∃k:Nat,c=65+k:=⟨c-65,M_⟩;have d:(c:Int)-65=(k:Int):=M_;have b4:k<6:=M_;have d:(k:Int)<6:=M_;obtain⟨d,A,A,A,A,A,xs',hz,_,_,hl⟩:=f.D.2 k b4;have A:S.cell? ⟨bz,1+k*5,none⟩=some (.int .u8 d):=by
       rw[f.R.z.cell,show 1+k*5=(5*k+0)+1 by omega,ab_];exact hz 0 M_
      have V:=f.R.here.c3;obtain⟨b0,b1,b2,b3,T⟩:=B6.d5;generalize J.heap.size=bd at *;replace f:=zy f;replace B6:=zy B6;replace a9:=zy a9;replace hO:=zy hO;replace hk:=zy hk;cases y:vh 0 (65+k) ds with
      |none=>
       rw[y]at hl;obtain⟨hl,_⟩:=hl;subst hl;replace y:=zy y;have d:∀p,p<5->∃v,S.cell? ⟨bz,1+k*5+p,none⟩=some v:=λp hp=>by
        have A:=f.o.D.1;rw[f.o.R.z.cell,show 1+k*5+p=(5*k+p)+1 by omega,ab_];exact⟨_,aj_ M_⟩
       obtain⟨A,A⟩:=d 1 M_;obtain⟨A,A⟩:=d 2 M_;obtain⟨A,A⟩:=d 3 M_;obtain⟨A,A⟩:=d 4 M_;have A:=f.o.R.z.th (1+k*5);have A:=f.o.R.z.th (1+k*5+1);have A:=f.o.R.z.th (1+k*5+2);have t3:=f.o.R.z.th (1+k*5+3);have t4:=f.o.R.z.th (1+k*5+4);go_wp2_with fail;refine tr_ 9 (λW=>z_ W br 3 (P_ bz)/\z_ W bd 0 (.int .u8 so)/\z_ W bd 1 (.slice E sn F)/\z_ W bd 2 (.string sb)/\z_ W bd 3 (Z_ o)/\z_ W bd 4 (Z_ nn)) ?_;refine tb_ 0 rfl K_ (λ_ _ _ h=>h) xo_ xa_ ?_;refine tb_ 1 rfl K_ (λ_ _ _ h=>h) xo_ xa_ ?_;refine tb_ 2 rfl K_ (λ_ _ _ h=>h) xo_ xa_ ?_;refine tb_ 3 rfl K_ (λ_ _ _ h=>h) xo_ xa_ ?_;refine tb_ 4 rfl K_ (λ_ _ _ h=>h) xo_ xa_ ?_;refine tb_ 5 rfl K_ (λ_ _ _ h=>h) xo_ xa_ ?_;refine t1_ 6 ⟨V,b0,b1,b2,b3,T⟩ ?_;refine t1_ 7 ⟨V,b0,b1,b2,b3,T⟩ ?_;refine t1_ 8 ⟨V,b0,b1,b2,b3,T⟩ ?_;refine t1_ 9 ⟨V,b0,b1,b2,b3,T⟩ ?_;refine td_ ?_ _;go_wp2_with fail;go_roundg (6-n);case measure=>omega
       case rel=>exact mc C hO b5 hn (Vd b4 hk y (f.o.si (zq.drew S)) (zj a9 ((A_ S N_).si (zq.drew S)) (λ_ _ h=>h)) (λg hg=>.inl (.inr hg)) a6)
      |some x=>
       rw[y]at hl;have d:=hl.sort;replace hl:=zy hl;replace y:=zy y;go_wp2_with (go_at_call 21;apply(qa f.o.R).mono;rintro e d ⟨rfl,hW,d⟩);go_roundg (6-n);case measure=>omega
       case rel=>exact mc C hO b5 hn (eF hk y (f.o.call hW d))
    .rw[n_ Y]at C;go_wp2_with (first
      |(go_at_call 35;apply(zC M1.o.R hc).mono;rintro e w2 ⟨rfl,a7⟩;have a:=M1.o.si a7;have b6:=a.R.here.c1;have b8:=a.R.here.th 1;replace a:=zy a)
      |(go_at_call 36;apply(yL 61 (a.o.R.inc I).1 rfl D_).mono;rintro e w3 ⟨rfl,r,O⟩;rw[n_ Y]at r;have l:=(a.o.call (a.o.R.inc I).1 (a.o.R.inc I).2).call r O;have a5:=l.R.here.c2;replace l:=zy l))
     first|go_end0|refine bodyPost_ret (results_none rfl _ _ _) rfl ?_
     rw[Q_.o];exact⟨rfl,qo (wE C) l.o.R l.o.st l.o.XX⟩
   .have d:yi s 6 0=.ok (ds,j):=by
     rw[a0];by_cases hn:n=6
     .subst hn;simp[yi,jM]
     .rw[show 6-n=(5-n)+1 by omega,wy,n_ (λh=>a1 ⟨M_,by have:=h.1;rw[hc]at this;simp only[zY,a3_,decide_eq_true_eq]at this;exact this,h.2⟩)]
    replace d:=zy d;replace M:=zy M;replace hc:=zy hc;have a2:H_ (∀q,Calls prog 35 #[P_ br] (wr.drewN q) λe w'=>e=.returned (U_ c)/\∃m,w'=(wr.drewN q).drewN m):=λq=>zC (M.o.R.si (zq.drewN wr q)) hc;have a3:H_ (∀(q:Nat) (b:Bool),(decide ((65:Int)<=(c:Int))&&decide ((c:Int)<=70))=b->Calls prog 34 #[U_ c,.int .u8 65,.int .u8 70] (wr.drewN q) λe w'=>e=.returned (.bool b)/\w'=wr.drewN q):=λq b hb=>by rw[<- hb];exact xf _ _ _ _
    obtain⟨f,G⟩:∃b,(decide ((65:Int)<=(c:Int))&&decide ((c:Int)<=70))=b:=⟨_,rfl⟩;have l:decide ((n:Int)<6)=false\/((n:Int)<6/\f=false)\/((n:Int)<6/\f=true/\decide ((j:Int)+1<(s.size:Int))=false):=by
     by_cases h1:n<6
     .by_cases a:65<=c/\c<=70
      .exact .inr (.inr ⟨M_,by rw[<- G];simp;omega,decide_eq_false M_⟩)
      .exact .inr (.inl ⟨M_,by rw[<- G];simp;omega⟩)
     .exact .inl (decide_eq_false M_)
    have hsc:=zy (aY d);have d:=M.o.D.1;obtain⟨rt,hrt⟩:∃v,zs'[30]?=some v:=⟨_,aj_ M_⟩;replace G:=zy G;replace a1:=zy a1;have c2:=M.o.R.here.c2;rcases l with h1|⟨h1,a⟩|⟨h1,a,h3⟩;all_goals try subst a
    all_goals
     go_wp2_with fail;go_quiet (first|(go_at_call 35;exact Calls.quiet_of (a2.o _))|(go_at_call 34;exact Calls.quiet_of_same (a3.o _ _ G)));go_wp2_with fail;have M1:=M.o.si (zq.drewN wr nq);generalize wr.drewN nq=W1 at M1⊢;have c3:=M1.R.here.c3;have hT:=zy (QE M1.R.il _ _ _ _ _ _ _ _ _ _ _ _ (M1.R.si (zq.drew W1)));cases hp:pT s j with
     |error k=>
      exact cwtQ1_
     |ok q=>
      have cc1:=Nat;exact cwtQ1_
  .obtain⟨k,Xk,zs',tv',u',a,MX,TS,US,a,f,l,d⟩:=hC;have c2:=a.here.c2;revert a f d;refine h_ λa f d=>?_;have key:=zy (λ(W:World) (hW:zq wr W)=>qo (wr:=wg) (mx:=mx) d (a.o.si hW) (f.o.si hW) l);by_cases hn:n<6
   .have r:(n:Int)<6:=M_;go_wp2_with fail;go_quiet (fail);go_wp2_with fail;first|go_end0|refine bodyPost_ret (results_none rfl _ _ _) rfl ?_
    rw[Q_.o];exact⟨rfl,key.o _ x0_⟩
   .have r:decide ((n:Int)<6)=false:=decide_eq_false M_;go_wp2_with fail;go_quiet (fail);go_wp2_with fail;first|go_end0|refine bodyPost_ret (results_none rfl _ _ _) rfl ?_
    rw[Q_.o];exact⟨rfl,key.o _ x0_⟩
def LAt(w:Aw)(bl:Nat)(s:BA)(bz:Nat)(pl:Aq)(i:Nat)(bad:Aq):Prop:=
 Blk w bl [.string s,I_ i,.bool bad,P_ bz,.bool pl] 173
section
variable {w w':Aw} {bl:Nat} {s:BA} {bz:Nat} {pl:Aq} {i:Nat} {bad:Aq}
def LAt.c0(h:LAt w bl s bz pl i bad):w.cell? ⟨bl,0,none⟩=some (.string s):=by rw[F_ h];rfl
def LAt.c1(h:LAt w bl s bz pl i bad):w.cell? ⟨bl,1,none⟩=some (I_ i):=by rw[F_ h];rfl
def LAt.c2(h:LAt w bl s bz pl i bad):w.cell? ⟨bl,2,none⟩=some (.bool bad):=by rw[F_ h];rfl
def LAt.c3(h:LAt w bl s bz pl i bad):w.cell? ⟨bl,3,none⟩=some (P_ bz):=by rw[F_ h];rfl
def LAt.c4(h:LAt w bl s bz pl i bad):w.cell? ⟨bl,4,none⟩=some (.bool pl):=by rw[F_ h];rfl
def LAt.th(h:LAt w bl s bz pl i bad)(o:Nat):w.frozen? ⟨bl,o,none⟩=false:=Blk.th h o
def LAt.si(h:LAt w bl s bz pl i bad)(hw:zq w w'):LAt w' bl s bz pl i bad:=by obtain⟨n,rfl⟩:=hw;exact h
def LAt.inc(h:LAt w bl s bz pl i bad):LAt (w.setCell ⟨bl,1,none⟩ (Z_ ((i:Int)+1))) bl s bz pl (i+1) bad:=G_ h 1 _
def LAt.sp(h:LAt w bl s bz pl i bad):LAt (w.setCell ⟨bl,2,none⟩ (.bool true)) bl s bz pl i true:=G_ h 2 _
end
def lk(s:BA)(i:Nat)(bad:Aq):Nat:=if bad=true then 0 else bt s i
def yA{w:Aw}{bl:Nat}{s:BA}{bz:Nat}{pl:Aq}{i:Nat}{bad:Aq}(h:LAt w bl s bz pl i bad)(_hs:s.size<=4000)(hi:i<=s.size):Calls prog 100 #[P_ bl] w λe w'=>e=.returned (.int .u8 (lk s i bad:Int))/\zq w w':=by
 obtain⟨c0,c1,c2⟩:=h.d3;cases bad with
 |true=>
  go_in;go_wp2;go_quiet (fail);go_wp2;go_ret;exact⟨by simp[lk],_,rfl⟩
 |false=>
  by_cases hl:i<s.size
  .have a:(i:Int)<(s.size:Int):=M_;go_in;go_wp2;go_quiet (fail);go_wp2;go_quiet (fail);go_wp2;go_ret;exact⟨by simp[lk,xO s i hl],(zq.drewN _ _).trans (zq.drewN _ _)⟩
  .go_in;go_wp2;go_quiet (fail);go_wp2;go_ret;refine⟨?_,⟨_,rfl⟩⟩;have:bt s i=0:=by
    by_cases h0:bt s i=0
    .exact h0
    .exact absurd (zp M_) hl
   simp[lk,this]
def kY(w:Aw)(bl:Nat)(s:BA)(bz:Nat)(pl:Aq)(i:Nat)(bad:Aq)(d:Nat)(w':Aw):Prop:=
 (if lk s i bad=d then LAt w' bl s bz pl (i+1) bad/\i<s.size else LAt w' bl s bz pl i true)/\Fr w w' (· = bl)
def xQ{w:Aw}{bl:Nat}{s:BA}{bz:Nat}{pl:Aq}{i:Nat}{bad:Aq}{c:Int}(d:Nat)(h:LAt w bl s bz pl i bad)(hs:s.size<=4000)(hi:i<=s.size)(hd:c=(d:Int))(l:0<d):Calls prog 99 #[P_ bl,.int .u8 c] w λe w'=>e=.returned (.tuple #[])/\kY w bl s bz pl i bad d w':=by
 subst hd;go_in;go_wp2_with (go_at_call 100;apply(yA h hs hi).mono;rintro e w' ⟨rfl,hw⟩;have a:=h.si hw;have c1:=a.c1;have c2:=a.c2;have f:=a.th 1;have g:=a.th 2)
 .go_end0;rename_i hc;have b:lk s i bad=d:=zc_
  refine⟨rfl,?_,((A_ w _).si hw).setCell _ _ (λ_=>rfl)⟩;rw[i_ b];refine⟨a.inc,?_⟩;unfold lk at b;split at b
  .omega
  .exact zp M_
 .go_end0;rename_i hc;refine⟨rfl,?_,((A_ w _).si hw).setCell _ _ (λ_=>rfl)⟩;rw[n_ zc_];exact a.sp
def zt(lo hi:Nat)(s:BA)(i:Nat):Nat:=
 if h:i<s.size then (if lo<=bt s i/\bt s i<=hi then zt lo hi s (i+1) else i) else i
 termination_by s.size-i
def kX{lo hi:Nat}{s:BA}{i:Nat}(h:i<s.size)(hb:lo<=bt s i/\bt s i<=hi):zt lo hi s i=zt lo hi s (i+1):=by
 conv=>lhs;unfold zt
 rw[dif_pos h,i_ hb]
def vO{lo hi:Nat}{s:BA}{i:Nat}(hb:¬(lo<=bt s i/\bt s i<=hi)):zt lo hi s i=i:=by
 unfold zt;simp[hb]
def GY(w:Aw)(bl:Nat)(s:BA)(bz:Nat)(pl:Aq)(i e:Nat)(m:Nat)(W:Aw):Prop:=
 ∃k,LAt W bl s bz pl k false/\Fr w W (· = bl)/\i<=k/\k<=s.size/\zt 97 122 s k=e/\s.size-k<=m
def kz(w:Aw)(bl:Nat)(s:BA)(bz:Nat)(pl:Aq)(i:Nat)(bad:Aq)(e:Ak)(w':Aw):Prop:=
 ∃k,k=(if bad=true then i else zt 97 122 s i)/\i<=k/\k<=s.size/\e=.returned (.string (s.extract i k))/\LAt w' bl s bz pl k bad/\Fr w w' (· = bl)
def Ym{w W:Aw}{bl:Nat}{s:BA}{bz:Nat}{pl:Aq}{i k:Nat}(h:LAt W bl s bz pl k false)(hf:Fr w W (· = bl))(a:i<=k)(b:k<=s.size)(he:zt 97 122 s k=zt 97 122 s i)(ho:¬(97<=bt s k/\bt s k<=122)):kz w bl s bz pl i false (.returned (.string (s.extract i k))) W:=
 ⟨k,by rw[n_ D_,<- he,vO ho],a,b,rfl,h,hf⟩
def cwqE1_{p:Prop}(h:p:=by
 (first|(have:=cc1;have n9:(decide ((48:Int)<=(d:Int))&&decide ((d:Int)<=57))=true:=x1_)|(have n9:(decide ((97:Int)<=(c:Int))&&decide ((c:Int)<=122))=true:=x1_))
 have hk:k<s.size:=zp M_;(first|(have:=cc1;have ho:=zy (he.o.symm.trans (kX hk (by rw[hd];exact hin))))|(have hlk:=zy (show lk s k false=c by simp[lk,hc]);have ho:=zy (he.o.symm.trans (kX hk (by rw[hc];exact hin)))));replace h1:=zy h1;replace hf:=zy hf;(first|(have:=cc1)|(replace hc:=zy hc));replace n9:=zy n9;go_wp2_with (first
  |(go_at_call 100;apply(yA h1.o hs hks).mono;rintro e w2 ⟨rfl,hw2⟩;(first|(have:=cc1;rw[hlk1.o])|(rw[hlk.o]));have h2:=h1.o.si hw2;have c1:=h2.c1;have f1:=h2.th 1;replace h2:=zy h2)
  |(go_at_call 34;apply(xf _ _ _ _).mono;rintro e w' ⟨rfl,hw'⟩;rw[hw',n9.o]))
 go_roundg (s.size-(k+1));case measure=>omega
 case rel=>exact⟨k+1,h2.o.inc,(hf.o.si hw2).setCell _ _ (λ_=>rfl),M_,M_,ho.o.symm,l_⟩):p:=h
def qE{w:Aw}{bl:Nat}{s:BA}{bz:Nat}{pl:Aq}{i:Nat}{bad:Aq}(h:LAt w bl s bz pl i bad)(hs:s.size<=4000)(hi:i<=s.size):Calls prog 102 #[P_ bl] w (kz w bl s bz pl i bad):=by
 obtain⟨g,a⟩:=y_ (kz w bl s bz pl i bad);rw[<- a.o];have c1:=h.c1;cases bad with
 |true=>
  replace h:=zy h;go_in;go_wp2;go_loopg [] 0 (λ_ W=>zq w W);case atStart=>exact zq.refl w
  case round=>
   have h1:=zy (h.o.si hrel);have n9:=zy (show(decide ((97:Int)<=((lk s i true:Nat):Int))&&decide (((lk s i true:Nat):Int)<=122))=false by simp[lk]);have hs':(i:Int)<=(s.size:Int):=M_;replace hrel:=zy hrel;go_wp2_with (first
    |(go_at_call 100;apply(yA h1 hs hi).mono;rintro e w2 ⟨rfl,hw2⟩;have h2:=h1.o.si hw2;have c0:=h2.c0;have c1:=h2.c1;replace h2:=zy h2)
    |(go_at_call 34;apply(xf _ _ _ _).mono;rintro e w' ⟨rfl,hw'⟩;rw[hw',n9.o]))
   go_quiet (fail);go_wp2;try go_ret
   rw[a.o];exact⟨i,by simp,l_,hi,by simp,h2.o.si (zq.drewN _ _),(((A_ w _).si hrel).si hw2).si (zq.drewN _ _)⟩
 |false=>
  have start:=zy (⟨i,h,A_ _ _,l_,hi,rfl,l_⟩:GY w bl s bz pl i (zt 97 122 s i) (s.size-i) w);replace h:=zy h;go_in;go_wp2;go_loopg [] (s.size-i) (λn W=>GY w bl s bz pl i (zt 97 122 s i) n W);case atStart=>exact start
  case round=>
   obtain⟨k,h1,hf,b,hks,he,hm⟩:=hrel;obtain⟨c,hc⟩:=x_ (bt s k);replace he:=zy he;by_cases hin:97<=c/\c<=122
   .exact cwqE1_
   .have n9:(decide ((97:Int)<=(c:Int))&&decide ((c:Int)<=122))=false:=x1_
    have hlk:=zy (show lk s k false=c by simp[lk,hc]);have f:=zy (show ¬(97<=bt s k/\bt s k<=122) by rw[hc];exact hin);replace h1:=zy h1;replace hf:=zy hf;replace hc:=zy hc;replace n9:=zy n9;have g:(i:Int)<=(k:Int):=M_;have g:(k:Int)<=(s.size:Int):=M_;go_wp2_with (first
     |(go_at_call 100;apply(yA h1 hs hks).mono;rintro e w2 ⟨rfl,hw2⟩;rw[hlk.o];have h2:=h1.o.si hw2;have c0:=h2.c0;have c1:=h2.c1;replace h2:=zy h2)
     |(go_at_call 34;apply(xf _ _ _ _).mono;rintro e w' ⟨rfl,hw'⟩;rw[hw',n9.o]))
    go_quiet (fail);go_wp2;try go_ret
    rw[a.o];exact Ym (h2.o.si (zq.drewN _ _)) ((hf.o.si hw2).si (zq.drewN _ _)) b hks he f
def qR(c:Nat)(neg:Aq):BA:=
 if c=105 then (if neg=true then ⟨#[50,49,52,55,52,56,51,54,52,56]⟩ else ⟨#[50,49,52,55,52,56,51,54,52,55]⟩)
 else (if neg=true then ⟨#[57,50,50,51,51,55,50,48,51,54,56,53,52,55,55,53,56,48,56]⟩ else ⟨#[57,50,50,51,51,55,50,48,51,54,56,53,52,55,55,53,56,48,55]⟩)
def Ji(c:Nat)(neg:Aq)(w:Aw):Calls prog 164 #[U_ c,.bool neg] w λe w'=>e=.returned (.string (qR c neg))/\w'=w:=by
 obtain⟨T,a⟩:=y_ (qR c neg);rw[<- a.o];by_cases hc:c=105
 .subst hc;cases neg;all_goals
   go_in;go_wp2;go_ret;exact⟨by rw[a.o];rfl,rfl⟩
 .have b:((c:Int)==105)=false:=x1_
  have hd:=zy (show qR c neg=(if neg=true then ⟨#[57,50,50,51,51,55,50,48,51,54,56,53,52,55,55,53,56,48,56]⟩ else ⟨#[57,50,50,51,51,55,50,48,51,54,56,53,52,55,55,53,56,48,55]⟩) by unfold qR;rw[n_ hc]);cases neg;all_goals
   go_in;go_wp2;go_ret;exact⟨by rw[a.o,hd.o];rfl,rfl⟩
def sgn(s:BA)(i:Nat):Nat:=if bt s i=45 then i+1 else i
def Gi(w:Aw)(bl:Nat)(s:BA)(bz:Nat)(pl:Aq)(i e:Nat)(m:Nat)(W:Aw):Prop:=
 ∃k,LAt W bl s bz pl k false/\Fr w W (· = bl)/\i<=k/\k<=s.size/\zt 48 57 s k=e/\s.size-k<=m
def qI(kd:Nat)(neg:Aq)(t:BA):Prop:=
 0<t.size/\¬(bt t 0=48/\(1<t.size\/neg=true))/\t.size<=(qR kd neg).size/\(t.size=(qR kd neg).size->(!Op.bytesLess t.toList (qR kd neg).toList && !(t.toList==(qR kd neg).toList))=false)
def cC(neg:Aq)(x:Int)(d:Nat):Int:=if neg=true then wrap64 (wrap64 (10*x)-wrap64 (wrap64 (d:Int)-48)) else wrap64 (wrap64 (10*x)+wrap64 (wrap64 (d:Int)-48))
def lC(neg:Aq)(t:BA):Nat->Int
 | 0=>0
 |a+1=>cC neg (lC neg t a) (bt t a)
def fY(w:Aw)(bl:Nat)(s:BA)(bz:Nat)(pl:Aq)(i kd:Nat)(e:Ak)(w':Aw):Prop:=
 ∃k neg t,neg=((bt s i:Int)==45)/\t=s.extract (sgn s i) k/\k=zt 48 57 s (sgn s i)/\i<=k/\k<=s.size/\Fr w w' (· = bl)/\
  ((qI kd neg t/\i<k/\LAt w' bl s bz pl k false/\e=.returned (Z_ (lC neg t t.size)))\/(¬qI kd neg t/\LAt w' bl s bz pl k true/\e=.returned (O_)))
def lM{w:Aw}{bl:Nat}{s:BA}{bz:Nat}{pl:Aq}{i kd:Nat}(h:LAt w bl s bz pl i false)(hs:s.size<=4000)(hi:i<=s.size):Calls prog 101 #[.pointer (some ⟨bl,0,none⟩),.int .u8 (kd:Int)] w (fY w bl s bz pl i kd):=by
 obtain⟨b7,p⟩:∃P,H_ (P=fY w bl s bz pl i kd):=⟨_,rfl⟩;rw[<- p.o];obtain⟨c,hc⟩:∃c,bt s i=c:=⟨_,rfl⟩;have hlk:=zy (show lk s i false=c by simp[lk,hc]);obtain⟨neg,hneg⟩:∃b,((c:Int)==45)=b:=⟨_,rfl⟩;obtain⟨g,l⟩:∃k,k=sgn s i:=⟨_,rfl⟩;have a9:g<=s.size/\i<=g/\g<=i+1:=by
  rw[l];unfold sgn;split
  .rename_i d2;have:=zp (s:=s) (i:=i) M_;omega
  .omega
 replace h:=zy h;replace hc:=zy hc;replace hneg:=zy hneg;have b5:=hneg.o;replace l:=zy l;go_in;go_upto_if 15 with(go_at_call 100;refine(yA h.o hs hi).mono ?_;rintro e w2 ⟨rfl,hw2⟩;rw[hlk.o];have h2:=h.o.si hw2;have c1:=h2.c1;have f1:=h2.th 1;replace h2:=zy h2);go_cut [] (λW=>LAt W bl s bz pl g false/\Fr w W (· = bl));case first=>
  cases hb:neg
  .subst hb;go_wp2_with fail;go_meet;case rel=>
    refine⟨?_,(A_ w _).si hw2⟩;have K:g=i:=by rw[l.o];unfold sgn;rw[if_neg yz_]
    rw[K];exact h2.o
  .subst hb;go_wp2_with fail;go_meet;case rel=>
    refine⟨?_,((A_ w _).si hw2).setCell _ _ (λ_=>rfl)⟩;have K:g=i+1:=by rw[l.o];unfold sgn;rw[if_pos yz_]
    rw[K];exact h2.o.inc
 case rest=>
  clear c1 f1 h2 hw2;obtain⟨G,N⟩:=hcut;have c1:=G.c1;have start:=zy (show Gi w bl s bz pl g (zt 48 57 s g) (s.size-g) wc from⟨g,G,N,l_,a9.1,rfl,l_⟩);replace G:=zy G;replace N:=zy N;go_wp2_with fail;clear c1;go_loopg [] (s.size-g) (λn W=>Gi w bl s bz pl g (zt 48 57 s g) n W);case atStart=>exact start.o
  case round=>
   clear start;obtain⟨k,h1,hf,e0,hks,he,hm⟩:=hrel;obtain⟨d,hd⟩:∃c,bt s k=c:=⟨_,rfl⟩;replace he:=zy he;have hlk1:=zy (show lk s k false=d by simp[lk,hd]);by_cases hin:48<=d/\d<=57
   .have cc1:=Nat;exact cwqE1_
   .have n9:(decide ((48:Int)<=(d:Int))&&decide ((d:Int)<=57))=false:=x1_
    have O:=zy (show ¬(48<=bt s k/\bt s k<=57) by rw[hd];exact hin);replace h1:=zy h1;replace hf:=zy hf;replace n9:=zy n9;have e1:(g:Int)<=(k:Int):=M_;have e3:(k:Int)<=(s.size:Int):=M_;go_wp2_with (first
     |(go_at_call 100;refine(yA h1.o hs hks).mono ?_;rintro e w2 ⟨rfl,hw2⟩;rw[hlk1.o];have h2:=h1.o.si hw2;have c0:=h2.c0;have c1:=h2.c1;have f2:=h2.th 2;have c2:=h2.c2;replace h2:=zy h2)
     |(go_at_call 34;refine(xf _ _ _ _).mono ?_;rintro e w' ⟨rfl,hw'⟩;rw[hw',n9.o]))
    go_quiet (fail);obtain⟨t,q⟩:∃t,s.extract g k=t:=⟨_,rfl⟩;obtain⟨f,D⟩:∃t,qR kd neg=t:=⟨_,rfl⟩;go_wp2_with fail;have e6:t.size<=4000:=by rw[<- q];simp;omega
    have e7:=zy (show f.size=10\/f.size=19 by rw[<- D];unfold qR;split<;>split<;>simp[ByteArray.size]);have r:H_ (∀W:World,Calls prog 164 #[.int .u8 (kd:Int),.bool neg] W λe w'=>e=.returned (.string f)/\w'=W):=λW=>by rw[<- D];exact Ji _ _ _
    rw[q];replace q:=zy q;replace D:=zy D;have y:=zy (λ(hn:¬qI kd neg t) (W:World) (C:zq w2 W)=>show fY w bl s bz pl i kd (.returned (Z_ 0)) (W.setCell ⟨bl,2,none⟩ (.bool true)) from
     ⟨k,neg,t,by rw[hc.o];exact hneg.o.symm,by rw[<- l.o];exact q.o.symm,by rw[<- l.o,<- he.o];exact(vO O.o).symm,M_,hks,((hf.o.si hw2).si C).setCell _ _ (λ_=>rfl),.inr ⟨hn,(h2.o.si C).sp,rfl⟩⟩)
    have T:=zy (λ(hn:qI kd neg t) (W:World) (C:zq w2 W)=>show fY w bl s bz pl i kd (.returned (Z_ (lC neg t t.size))) W from
     ⟨k,neg,t,by rw[hc.o];exact hneg.o.symm,by rw[<- l.o];exact q.o.symm,by rw[<- l.o,<- he.o];exact(vO O.o).symm,M_,hks,(hf.o.si hw2).si C,.inl ⟨hn,by have S:=hn.1;rw[<- q.o]at S;simp at S;omega,h2.o.si C,rfl⟩⟩)
    have z:=zy (show qI kd neg t↔(0<t.size/\¬(bt t 0=48/\(1<t.size\/neg=true))/\t.size<=f.size/\(t.size=f.size->(!Op.bytesLess t.toList f.toList && !(t.toList==f.toList))=false)) by rw[<- D.o];rfl);by_cases h0:t.size=0
    .have F:(t.size:Int)=0:=M_;have m:=zy (y.o (λh=>o1_ h.1));go_wp2_with (go_at_call 164;refine(r.o _).mono ?_;rintro e w' ⟨rfl,hw'⟩;rw[hw']);try go_ret
     rw[p.o];exact m.o _ (zq.drewN _ _)
    .have F:0<t.size:=M_;have b9:(0:Int)<(t.size:Int):=M_;have b8:((t.size:Int)==0)=false:=xg_
     obtain⟨b,hb⟩:∃b:Nat,((t[0]'F).toNat:Int)=(b:Int):=⟨_,rfl⟩;have M:=zy (show bt t 0=b by rw[xO t 0 F];exact Int.ofNat_inj.1 hb);obtain⟨lt,Y⟩:∃x,Op.bytesLess t.toList f.toList=x:=⟨_,rfl⟩;obtain⟨A,U⟩:∃x,(t.toList==f.toList)=x:=⟨_,rfl⟩;by_cases hz:b=48/\(1<t.size\/neg=true)
     .obtain⟨rfl,hz⟩:=hz;by_cases h1:1<t.size
      .have a3:(1:Int)<(t.size:Int):=M_;have m:=zy (y.o (λh=>by have:=z.o.1 h;exact this.2.1 ⟨M.o,.inl h1⟩));go_wp2_with (go_at_call 164;refine(r.o _).mono ?_;rintro e w' ⟨rfl,hw'⟩;rw[hw']);try go_ret
       rw[p.o];exact m.o _ (zq.drewN _ _)
      .have a3:¬(1:Int)<(t.size:Int):=M_;have Z:neg=true:=by rcases hz with h|h;exact absurd h h1;exact h
       have m:=zy (y.o (λh=>by have:=z.o.1 h;exact this.2.1 ⟨M.o,.inr Z⟩));subst Z;go_wp2_with (go_at_call 164;refine(r.o _).mono ?_;rintro e w' ⟨rfl,hw'⟩;rw[hw']);try go_ret
       rw[p.o];exact m.o _ (zq.drewN _ _)
     .have Q:((b:Int)==48)=false\/(((b:Int)==48)=true/\(t.size:Int)<=1/\neg=false):=by
       by_cases R:b=48
       .refine .inr ⟨by simp;omega,?_,?_⟩
        .by_cases h1:1<t.size
         .exact absurd ⟨R,.inl h1⟩ hz
         .omega
        .cases hn:neg
         .rfl
         .exact absurd ⟨R,.inr hn⟩ hz
       .exact .inl x1_
      have a2:=zy (show ¬(bt t 0=48/\(1<t.size\/neg=true)) by rw[M.o];exact hz);clear hz;by_cases d9:f.size<t.size
      .have a8:(f.size:Int)<(t.size:Int):=M_;have m:=zy (y.o (λh=>o1_ (z.o.1 h)));rcases Q with E|⟨E,a0,rfl⟩;all_goals
        go_wp2_with (go_at_call 164;refine(r.o _).mono ?_;rintro e w' ⟨rfl,hw'⟩;rw[hw']);try go_ret
        rw[p.o];exact m.o _ (zq.drewN _ _)
      .have a8:¬(f.size:Int)<(t.size:Int):=M_;by_cases I:t.size=f.size/\(!lt && !A)=true
       .obtain⟨a7,L⟩:=I;have d8:(f.size:Int)=(t.size:Int):=M_;have m:=zy (y.o (λh=>by have:=(z.o.1 h).2.2.2 a7;rw[Y,U,L]at this;cases this));have hl:lt=false/\A=false:=by revert L;cases lt<;>cases A<;>simp
        obtain⟨rfl,rfl⟩:=hl;clear L;rcases Q with E|⟨E,a0,rfl⟩;all_goals
         go_wp2_with (go_at_call 164;refine(r.o _).mono ?_;rintro e w' ⟨rfl,hw'⟩;rw[hw']);try go_ret
         rw[p.o];exact m.o _ (zq.drewN _ _)
       .have a1:=zy (T.o (z.o.2 ⟨F,a2.o,M_,λhe=>by
         cases hx:(!Op.bytesLess t.toList f.toList && !(t.toList==f.toList))
         .rfl
         .exact absurd ⟨he,by rw[<- Y,<- U];exact hx⟩ I⟩))
        have b6:(((t.size:Int)==(f.size:Int))=false)\/((f.size:Int)=(t.size:Int)/\lt=true)\/((f.size:Int)=(t.size:Int)/\lt=false/\A=true):=by
         by_cases he:t.size=f.size
         .cases lt
          .cases A
           .exact absurd ⟨he,rfl⟩ I
           .exact .inr (.inr ⟨M_,rfl,rfl⟩)
          .exact .inr (.inl ⟨M_,rfl⟩)
         .exact .inl xg_
        clear I y T;obtain⟨V,H⟩:∃V:Nat->Int,V=lC neg t:=⟨_,rfl⟩;have a4:=zy (show V 0=0 by rw[H];rfl);have a5:=zy (show ∀a,V (a+1)=cC neg (V a) (bt t a) by rw[H];intro a;rfl);rw[<- H]at a1;clear H;clear z a2 b5 hneg l O he hlk hlk1;cases neg<;>rcases b6 with q1|⟨q1,rfl⟩|⟨q1,rfl,rfl⟩<;>rcases Q with E|⟨E,a0,b4⟩
        all_goals try(cases b4;done)
        all_goals
         go_wp2_with (go_at_call 164;refine(r.o _).mono ?_;rintro e w' ⟨rfl,hw'⟩;rw[hw']);go_loopg [9,10] t.size (λn v iv W=>zq w2 W/\∃a:Nat,iv=Z_ (a:Int)/\v=Z_ (V a)/\a<=t.size/\t.size-a<=n);case atStart=>exact⟨zq.drewN _ _,0,rfl,by rw[a4.o],M_,M_⟩
         case round=>
          obtain⟨J,a,rfl,rfl,d7,e4⟩:=hrel;replace J:=zy J;by_cases ha:a<t.size
          .have a6:(a:Int)<(t.size:Int):=M_;have e5:((t[a]'ha).toNat:Int)=(bt t a:Int):=by rw[xO t a ha]
           go_wp2_with fail;go_roundg (t.size-(a+1));case measure=>omega
           case rel=>exact⟨J.o,a+1,by simp,by rw[a5.o];rfl,M_,l_⟩
          .have a6:¬(a:Int)<(t.size:Int):=M_;have d6:a=t.size:=M_;go_wp2_with fail;try go_ret
           rw[p.o];exact a1.o _ J.o
inductive DT where
 |mk (k:Nat) (n:Int) (tx:BA) (ks:List BA) (ds:List DT)
 deriving Inhabited
abbrev Al:=Nat->Option (DT×Nat)
abbrev Aj:=PT->Nat->Option (DT×Nat)
abbrev Ag:=List (BA×DT)
abbrev Ae:=List DT
abbrev Du:=Option (List (BA×DT)×Nat)
abbrev Dp:=PT->PT->DT->Option DT
abbrev Dm:=PF->Option DT
abbrev Dh:=Option (DT×Nat)
abbrev Dg:=DT->Prop
abbrev Eo:=Option (List DT×Nat)
abbrev Em:=DT×Nat×Nat
def noB:BA:=⟨#[]⟩
instance (kd:Nat) (neg:Bool) (t:BA):Decidable (qI kd neg t):=by unfold qI;infer_instance
def zI(s:BA)(i:Nat):Nat:=zt 48 57 s (sgn s i)
def xm(s:BA)(i:Nat):Bool:=((bt s i:Int)==45)
def zM(s:BA)(i:Nat):BA:=s.extract (sgn s i) (zI s i)
def vp(s:BA)(kd i:Nat):Option (Int×Nat):=
 if qI kd (xm s i) (zM s i) then some (lC (xm s i) (zM s i) (zM s i).size,zI s i) else none
def zo(s:BA)(i:Nat):Nat:=zt 97 122 s i
def kV(last:Ew)(k:BA):Bool:=match last with|none=>true|some l=>Op.bytesLess l.toList k.toList
def kJ(s:BA)(keyed:Aq)(last:Ew)(i:Nat):Option (BA×Nat):=
 if keyed=true then
  if bt s (zo s i)=58/\kV last (s.extract i (zo s i))=true then some (s.extract i (zo s i),zo s i+1) else none
 else some (noB,i)
def yc(R:Al)(s:BA)(fin:Nat)(keyed:Aq):Nat->Option BA->Nat->Option (List (BA×DT)×Nat)
 | 0,_,_=>none
 |n+1,last,i=>
  match kJ s keyed last i with
  |none=>none
  |some (k,i1)=>
   match R i1 with
   |none=>none
   |some (d,j)=>
    if bt s j=fin then some ([(k,d)],j+1)
    else if bt s j=44 then
     match yc R s fin keyed n (some k) (j+1) with
     |none=>none
     |some (l,e)=>some ((k,d)::l,e)
    else none
def jQ(R:Al)(s:BA)(fin:Nat)(keyed:Aq)(i:Nat):Option (List (BA×DT)×Nat):=
 if bt s i=fin then some ([],i+1) else yc R s fin keyed (s.size+2) none i
def zQ(R:Aj)(s:BA):Bool->List PT->Nat->Option (List DT×Nat)
 | _,[],i=>some ([],i)
 |first,t::r,i=>
  if first=true then
   match R t i with
   |none=>none
   |some (d,j)=>match zQ R s false r j with|none=>none|some (ds,e)=>some (d::ds,e)
  else if bt s i=44 then
   match R t (i+1) with
   |none=>none
   |some (d,j)=>match zQ R s false r j with|none=>none|some (ds,e)=>some (d::ds,e)
  else none
def yv(R:Aj)(s:BA)(pb:PB)(i:Nat):Option (DT×Nat):=
 match pb with
 | .recd fs=>
  if bt s i=40 then
   match zQ R s true (fs.map PF.ty) (i+1) with
   |none=>none
   |some (ds,j)=>if bt s j=41 then some (.mk 114 0 noB [] ds,j+1) else none
  else none
 | .enum l _=>
  if i<s.size then
   match (l.map Prod.fst).findIdx? (λc=>c==bt s i) with
   |none=>none
   |some q=>some (.mk 101 q noB [] [],i+1)
  else none
 | .bytes n=>
  if bt s i=39/\zo s (i+1)-(i+1)=n/\bt s (zo s (i+1))=39 then some (.mk 102 0 (s.extract (i+1) (zo s (i+1))) [] [],zo s (i+1)+1) else none
def yY(s:BA)(i:Nat):Nat:=min (zt 48 57 s i) (i+3)
def wV(s:BA)(i:Nat):Nat->Nat
 | 0=>0
 |n+1=>10*wV s i n+(bt s (i+n)-48)
def yQ(R:Aj)(s:BA)(pl:Aq)(ts:Af)(i:Nat):Option (DT×Nat):=
 if pl=true then
  match ts with
  | []=>none
  |t::_=>match R t i with|none=>none|some (d,j)=>some (.mk 40 0 noB [] [d],j)
 else if bt s i=60/\yY s (i+1)≠i+1/\¬(bt s (i+1)=48/\yY s (i+1)-(i+1) > 1)/\bt s (yY s (i+1))=58 then
  match ts[wV s (i+1) (yY s (i+1)-(i+1))]? with
  |none=>none
  |some t=>
   match R t (yY s (i+1)+1) with
   |none=>none
   |some (d,j)=>if bt s j=62 then some (.mk 40 (wV s (i+1) (yY s (i+1)-(i+1)):Nat) noB [] [d],j+1) else none
 else none
def xz(R:Aj)(s:BA)(env:Au)(c i:Nat):Option (DT×Nat):=
 if c=110 then (if bt s i=78 then some (.mk 110 0 noB [] [],i+1) else none)
 else if c=116 then (if bt s i=84 then some (.mk 116 1 noB [] [],i+1) else if bt s i=70 then some (.mk 116 0 noB [] [],i+1) else none)
 else if c=105\/c=108 then (match vp s c i with|none=>none|some (n,j)=>some (.mk c n noB [] [],j))
 else if c=115 then (if bt s i=34/\bt s (zo s (i+1))=34 then some (.mk 115 0 (s.extract (i+1) (zo s (i+1))) [] [],zo s (i+1)+1) else none)
 else match env c with|none=>none|some pb=>yv R s pb i
def xH(R:Al)(s:BA)(c i:Nat):Option (DT×Nat):=
 if bt s i=c then
  match jQ R s (xw c) (c==123) (i+1) with
  |none=>none
  |some (l,j)=>some (.mk c 0 noB (if (c==123)=true then l.map Prod.fst else []) (l.map Prod.snd),j)
 else none
def rdT(s:BA)(env:Au)(pl:Aq):Nat->PT->Nat->Option (DT×Nat)
 | 0,_,_=>none
 |f+1,.leaf c _,i=>xz (rdT s env pl f) s env c i
 |f+1,.wrap c _ t,i=>xH (rdT s env pl f t) s c i
 |f+1,.alts _ ts,i=>yQ (rdT s env pl f) s pl ts i
def Qe(s:BA)(R:Al):Prop:=∀i d j,R i=some (d,j)->i<j/\j<=s.size
def yh(lo hi:Nat)(s:BA):∀n i,s.size-i<=n->i<=zt lo hi s i/\(i<=s.size->zt lo hi s i<=s.size):=by
 intro n;induction n with
 |zero=>intro i h;rw[zt,dif_neg M_];exact⟨l_,λh=>h⟩
 |succ n ih=>
  intro i h;rw[zt];split
  .split
   .have:=ih (i+1) M_;exact⟨M_,λ_=>this.2 M_⟩
   .exact⟨l_,λh=>h⟩
  .exact⟨l_,λh=>h⟩
def vU(s:BA)(i:Nat):i<=zo s i:=(yh 97 122 s _ i l_).1
def fC{s:BA}{keyed:Aq}{last:Ew}{i:Nat}{k:BA}{j:Nat}(h:kJ s keyed last i=some (k,j)):i<=j:=by
 unfold kJ at h;split at h
 .split at h
  .simp only[af_,ad_]at h;have:=vU s i;omega
  .simp at h
 .simp only[af_,ad_]at h;omega
def sR{s:BA}{R:Al}(a:Qe s R){fin:Nat}(hf:0<fin){keyed:Aq}:∀(n:Nat) (last:Option BA) (i:Nat) (l:List (BA×DT)) (j:Nat),yc R s fin keyed n last i=some (l,j)->i<j/\j<=s.size:=by
 intro n;induction n with
 |zero=>intro last i l j h;simp[yc]at h
 |succ n ih=>
  intro last i l j h;unfold yc at h;split at h
  .simp at h
  .rename_i k g hk;have h1:=fC hk;split at h
   .simp at h
   .rename_i d b hd;have f:=a _ _ _ hd;split at h
    .rename_i hb;have:=zp (s:=s) (i:=b) M_;simp only[af_,ad_]at h;omega
    .split at h
     .split at h
      .simp at h
      .rename_i m e he;have:=ih _ _ _ _ he;simp only[af_,ad_]at h;omega
     .simp at h
def dK{s:BA}{R:Aj}(b:∀t,Qe s (R t)):∀(ts:List PT) (first:Bool) (i:Nat) (l:List DT) (j:Nat),i<=s.size->zQ R s first ts i=some (l,j)->i<=j/\j<=s.size:=by
 intro ts;induction ts with
 |nil=>intro first i l j hi h;simp[zQ]at h;omega
 |cons t r ih=>
  intro first i l j hi h
  unfold zQ at h;split at h
  .split at h
   .simp at h
   .rename_i d f hd;have a:=b _ _ _ _ hd;split at h
    .simp at h
    .rename_i g e he;have:=ih _ _ _ _ a.2 he;simp only[af_,ad_]at h;omega
  .split at h
   .split at h
    .simp at h
    .rename_i d f hd;have a:=b _ _ _ _ hd;split at h
     .simp at h
     .rename_i g e he;have:=ih _ _ _ _ a.2 he;simp only[af_,ad_]at h;omega
   .simp at h
def sL{s:BA}{R:Aj}(a:∀t,Qe s (R t))(pb:PB):Qe s (yv R s pb):=by
 intro i d j h;unfold yv at h;split at h
 .split at h
  .rename_i hb;have h0:=zp (s:=s) (i:=i) M_;split at h
   .simp at h
   .rename_i ds b hd;have h1:=dK a _ _ _ _ _ M_ hd;split at h
    .rename_i hc;have:=zp (s:=s) (i:=b) M_;simp only[af_,ad_]at h;omega
    .simp at h
  .simp at h
 .split at h
  .split at h
   .simp at h
   .simp only[af_,ad_]at h;omega
  .simp at h
 .split at h
  .rename_i hb;have:=zp (s:=s) (i:=zo s (i+1)) M_;have:=vU s (i+1);simp only[af_,ad_]at h;omega
  .simp at h
def oI(c:Nat):0<xw c:=by unfold xw;split<;>omega
def fM{s:BA}{kd i:Nat}{n:Int}{j:Nat}(h:vp s kd i=some (n,j)):i<j/\j<=s.size:=by
 unfold vp at h;split at h
 .rename_i hn;simp only[af_,ad_]at h;have h0:=hn.1;have hs:i<=sgn s i:=by unfold sgn;split<;>omega
  unfold zM at h0;rw[a6_]at h0;have hg:=yh 48 57 s _ (sgn s i) l_;unfold zI at *;rw[<- h.2];refine⟨M_,hg.2 M_⟩
 .simp at h
def vD(s:BA)(env:Au)(pl:Aq)(f:Nat):∀t,Qe s (rdT s env pl f t):=by
 induction f with
 |zero=>intro t i d j h;simp[rdT]at h
 |succ f ih=>
  intro t i d j h;cases t with
  |leaf c p=>
   simp only[rdT]at h;unfold xz at h;have one:∀{k x},bt s i=k->0<k->some (x,i+1)=some (d,j)->i<j/\j<=s.size:=λhb h0 h=>by
    have:=zp (s:=s) (i:=i) M_;simp only[af_,ad_]at h;omega
   split at h
   .split at h
    .rename_i hb;exact one hb M_ h
    .simp at h
   .split at h
    .split at h
     .rename_i hb;exact one hb M_ h
     .split at h
      .rename_i hb;exact one hb M_ h
      .simp at h
    .split at h
     .split at h
      .simp at h
      .rename_i n a hn;have:=fM hn;simp only[af_,ad_]at h;omega
     .split at h
      .split at h
       .rename_i hb;have:=zp (s:=s) (i:=zo s (i+1)) M_;have:=vU s (i+1);simp only[af_,ad_]at h;omega
       .simp at h
      .split at h
       .simp at h
       .exact sL ih _ _ _ _ h
  |wrap c p t=>
   simp only[rdT]at h;unfold xH at h;split at h
   .split at h
    .simp at h
    .rename_i l a hl;simp only[af_,ad_]at h;unfold jQ at hl;have hc:=oI c;split at hl
     .rename_i hb;have:=zp (s:=s) (i:=i+1) M_;simp only[af_,ad_]at hl;omega
     .have:=sR (ih t) hc _ _ _ _ _ hl;omega
   .simp at h
  |alts p ts=>
   simp only[rdT]at h;unfold yQ at h;split at h
   .split at h
    .simp at h
    .split at h
     .simp at h
     .rename_i d1 a hd;have:=ih _ _ _ _ hd;simp only[af_,ad_]at h;omega
   .split at h
    .rename_i hb;have hg:=(yh 48 57 s _ (i+1) l_).1;have b:i+1<=yY s (i+1):=yp_
     split at h
     .simp at h
     .split at h
      .simp at h
      .rename_i d1 a hd;have h1:=ih _ _ _ _ hd;split at h
       .rename_i hc;have:=zp (s:=s) (i:=a) M_;simp only[af_,ad_]at h;omega
       .simp at h
    .simp at h
end Go.Proofs.YtokgeopihcopeaaGreatDoor
