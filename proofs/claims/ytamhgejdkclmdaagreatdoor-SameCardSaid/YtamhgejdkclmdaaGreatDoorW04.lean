import Derived.Test.YtamhgejdkclmdaaGreatDoorW03
set_option maxHeartbeats 16000000
set_option maxRecDepth 100000
set_option linter.defProp false
set_option linter.unusedSimpArgs false
open Go.Proofs.Tryz
namespace Go.Proofs.YtamhgejdkclmdaaGreatDoor
open Go.RowKit
variable {wg MX:Int}{TS:Ap}{US:As}{W':Aw}{j':Nat}
structure WM(w:Aw)(X:Az)(br bz B:Nat)(s:BA)(tv0 u0:Ax)(ds:Aq)(j:Nat)(bad:Ar)(wg MX:Int)(TS:Ap)(US:As)(Xk:Az)(zs:Ay)(tv u:Ax)(W:Aw):Prop where
 R:Rep W Xk br bz B s j bad wg MX TS US zs tv u
 D:xF W Xk B s zs ds
 XX:∀g,X g->Xk g
 st:zR w W br bz tv0 u0 tv u
def UE(w:Aw)(X:Az)(br bz B:Nat)(s:BA)(wr mx:Int)(tv0 u0:Ax)(m:Nat)(nv:Ax)(W:Aw):Prop:=
 ∃n:Nat,nv=I_ n/\n<=6/\7-n<=m/\
  ((∃ds j Xk zs tv u,ds.length=n/\WM w X br bz B s tv0 u0 ds j false (jO [] ds wr) (qb ds mx) (xH 0 ds) (jb ds) Xk zs tv u W/\yl s 6 0=jM ds (yl s (6-n) j))\/
   (∃k Xk zs tv u wg MX TS US,Rep W Xk br bz B s k true wg MX TS US zs tv u/\zR w W br bz tv0 u0 tv u/\(∀g,X g->Xk g)/\zi s=.error k))
def jf(w:Aw)(X:Az)(br bz B:Nat)(s:BA)(wr mx:Int)(tv0 u0:Ax)(W:Aw):Prop:=
 match zi s with
 | .error k=>∃Xk zs tv u wg MX TS US,Rep W Xk br bz B s k true wg MX TS US zs tv u/\zR w W br bz tv0 u0 tv u/\(∀g,X g->Xk g)
 | .ok (ds,t)=>∃Xk zs tv u,WM w X br bz B s tv0 u0 ds s.size false (jO [] ds wr) (mix t (qb ds mx)) (xH 0 ds++flat (xH 0 ds).length t) (jb ds++za t) Xk zs tv u W/\
  zs[30]?=some (Z_ (((xH 0 ds).length+(flat (xH 0 ds).length t).length-1:Nat):Int))
def WM.si{w:Aw}{X Xk:Az}{br bz B:Nat}{s:BA}{tv0 u0 tv u:Ax}{ds:Aq}{j:Nat}{bad:Ar}{zs:Ay}{W:Aw}(M:WM w X br bz B s tv0 u0 ds j bad wg MX TS US Xk zs tv u W)(h:zq W W'):WM w X br bz B s tv0 u0 ds j bad wg MX TS US Xk zs tv u W':=
 ⟨M.R.si h,M.D.step M.R (zR.oS h),M.XX,M.st.si h⟩
def qa{w W:Aw}{X Xk:Az}{br bz B:Nat}{s:BA}{wr mx:Int}{tv0 u0 tv u:Ax}{k:Nat}{zs:Ay}(h:zi s=.error k)(R:Rep W Xk br bz B s k true wg MX TS US zs tv u)(st:zR w W br bz tv0 u0 tv u)(hX:∀g,X g->Xk g):jf w X br bz B s wr mx tv0 u0 W:=by
 unfold jf;rw[h];exact⟨_,_,_,_,_,_,_,_,R,st,hX⟩
def aQ{s:BA}{ds:Aq}{i:Nat}(h:yl s 6 0=.ok (ds,i)):zi s=match pT s i with | .error k=>.error k | .ok (t,j)=>if j<s.size then .error j else .ok (ds,t):=by
 unfold zi;rw[h];rfl
def wO{s:BA}{k:Nat}(h:yl s 6 0=.error k):zi s=.error k:=by unfold zi;rw[h]
def QU{w W:Aw}{X Xk:Az}{br bz B:Nat}{s:BA}{wr mx:Int}{tv0 u0 tv u:Ax}{zs:Ay}{ds:Aq}{t:PT}(h:zi s=if j'<s.size then .error j' else .ok (ds,t))(a:¬j'<s.size)(b:j'<=s.size)(M:WM w X br bz B s tv0 u0 ds j' false (jO [] ds wr) (mix t (qb ds mx)) (xH 0 ds++flat (xH 0 ds).length t) (jb ds++za t) Xk zs tv u W)(hz:zs[30]?=some (Z_ (((xH 0 ds).length+(flat (xH 0 ds).length t).length-1:Nat):Int))):jf w X br bz B s wr mx tv0 u0 W:=by
 have e:j'=s.size:=M_;subst e;unfold jf;rw[h,n_ a];exact⟨_,_,_,_,M,hz⟩
def WM.call{w:Aw}{X Xk:Az}{br bz B:Nat}{s:BA}{tv0 u0 tv u tv' u':Ax}{ds:Aq}{j:Nat}{bad e:Ar}{f a:Int}{b:Ap}{d:As}{zs:Ay}{W:Aw}(M:WM w X br bz B s tv0 u0 ds j bad wg MX TS US Xk zs tv u W)(g:Rep W' Xk br bz B s j' e f a b d zs tv' u')(st:zR W W' br bz tv u tv' u'):WM w X br bz B s tv0 u0 ds j' e f a b d Xk zs tv' u' W':=
 ⟨g,M.D.step M.R st,M.XX,M.st.trans st⟩
def xF.wider{W:Aw}{X Y:Az}{B:Nat}{s:BA}{zs:Ay}{ds:Aq}(h:xF W X B s zs ds)(f:∀g,X g->Y g):xF W Y B s zs ds:=by
 refine⟨h.1,λk hk=>?_⟩;obtain⟨so,fv,sb,o,n,a,xs,h1,b,d,e⟩:=h.2 k hk;exact⟨so,fv,sb,o,n,a,xs,h1,b,λg hg=>f g (d g hg),e⟩
def held(W:Aw)(v0 v1 v2 v3 v4:Ax):World:=W.alloc (.cells #[v0,v1,v2,v3,v4] 42)
def cC(W:Aw)(a b d e f:Ax)(S:Az):Fr W (held W a b d e f) S:=(A_ W S).alloc _
def rl(W:Aw)(a b d e f:Ax):Blk (held W a b d e f) W.heap.size [a,b,d,e,f] 42:=
 B_ W #[a,b,d,e,f] 42
def JM(W:Aw)(a b d e f:Ax):W.heap.size<(held W a b d e f).heap.size:=(rl W a b d e f).lt
def WM.held{w:Aw}{X Xk:Az}{br bz B:Nat}{s:BA}{tv0 u0 tv u tv' u':Ax}{ds:Aq}{j:Nat}{bad v:Ar}{x m:Int}{r:Ap}{t:As}{zs:Ay}{W:Aw}{fv:Ax}(M:WM w X br bz B s tv0 u0 ds j bad wg MX TS US Xk zs tv u W)(st:zR W W' br bz tv u tv' u')(p:Rep W' (λg=>Xk g\/fv.ownBlock=some g) br bz B s j' v x m r t zs tv' u')(a b d f l:Ax):WM w X br bz B s tv0 u0 ds j' v x m r t (λg=>(Xk g\/fv.ownBlock=some g)\/g=W'.heap.size) zs tv' u' (held W' a b d f l):=by
 have hs:=JM W' a b d f l;have y:=(p.o (cC W' a b d f l _)).fe (Y:=λg=>(Xk g\/fv.ownBlock=some g)\/g=W'.heap.size) (λg hg=>by
  rcases hg with e|e
  .exact .inl e
  .exact .inr ⟨M_,M_⟩)
 have q:zR W' (Go.Proofs.YtamhgejdkclmdaaGreatDoor.held W' a b d f l) br bz tv' u' tv' u':=⟨cC W' a b d f l _,.inl rfl,.inl rfl⟩;have a:=M.D.step M.R st;exact⟨y,(a.wider (λg h=>.inl h)).step p q |>.wider (λg h=>.inl h),λg h=>.inl (.inl (M.XX g h)),(M.st.trans st).trans q⟩
def JI{s:BA}{ds:Aq}{n j c:Nat}(h:yl s 6 0=jM ds (yl s (6-n) j))(hn:n<6)(hc:bt s j=c)(a:(65<=c/\c<=70)/\j+1<s.size):yl s 6 0=if bt s (j+1)=61 then (match yK s (j+2) with | .error k=>.error k | .ok (pb,e)=>if bt s e=59 then jM (ds++[⟨c,j,pb⟩]) (yl s (6-(n+1)) (e+1)) else .error e) else .error (j+1):=by
 rw[h,show 6-n=(6-(n+1))+1 by omega,wy,hc,i_ ⟨by simp only[zo,a0_,decide_eq_true_eq];exact a.1,a.2⟩];rfl
def Cp(s:BA)(e j:Nat)(bad:Ar):Prop:=(bad=false/\bt s e=59/\j=e+1)\/(bad=true/\bt s e≠59/\j=e)
def WJ{w W:Aw}{X:Az}{br bz B:Nat}{s:BA}{i:Nat}{wr mx:Int}{ts:Ap}{us:As}{zs:Ay}{tv u:Ax}(h:eZ w X br bz B s i wr mx ts us zs tv u 59 W):∃j bad,Rep W X br bz B s j bad wr mx ts us zs tv u/\zR w W br bz tv u tv u/\Cp s i j bad:=by
 obtain⟨h,st⟩:=h;by_cases e:bt s i=59
 .rw[i_ e]at h;exact⟨_,_,h,st,.inl ⟨rfl,e,rfl⟩⟩
 .rw[n_ e]at h;exact⟨_,_,h,st,.inr ⟨rfl,e,rfl⟩⟩
def laid(W:Aw)(bz k:Nat)(v0 v1 v2 v3 v4:Ax):World:=
 ((((W.setCell ⟨bz,1+k*5,none⟩ v0).setCell ⟨bz,1+k*5+1,none⟩ v1).setCell ⟨bz,1+k*5+2,none⟩ v2).setCell ⟨bz,1+k*5+3,none⟩ v3).setCell ⟨bz,1+k*5+4,none⟩ v4
def Rep.laid{w:Aw}{X:Az}{br bz B:Nat}{s:BA}{i:Nat}{bad:Ar}{wr mx:Int}{ts:Ap}{us:As}{zs:Ay}{tv u:Ax}(R:Rep w X br bz B s i bad wr mx ts us zs tv u)(k:Nat)(a b d e f:Ax):Rep (laid w bz k a b d e f) X br bz B s i bad wr mx ts us (dK zs (5*k) a b d e f) tv u/\zR w (Go.Proofs.YtamhgejdkclmdaaGreatDoor.laid w bz k a b d e f) br bz tv u tv u:=by
 have h:=R.setDef (5*k) a b d e f;unfold Go.Proofs.YtamhgejdkclmdaaGreatDoor.laid;rw[show 1+k*5=5*k+1 by omega,show 5*k+1+2=5*k+2+1 by omega,show 5*k+1+3=5*k+3+1 by omega,show 5*k+1+4=5*k+4+1 by omega];exact h
section
variable {w W:Aw} {X Xk:Az} {br bz B:Nat} {s:BA} {wr mx:Int} {tv0 u0 tv u:Ax} {ds:Aq} {j j6 e2 c k n:Nat} {bad6:Ar} {pb:PB} {zs:Ay}
def mf(a:yl s 6 0=if bt s e2=59 then jM (ds++[⟨c,j,pb⟩]) (yl s (6-(n+1)) (e2+1)) else .error e2)(d:Cp s e2 j6 bad6)(e:ds.length=n)(hn:n<6)(M:WM w X br bz B s tv0 u0 (ds++[⟨c,j,pb⟩]) j6 bad6 (jO [] (ds++[⟨c,j,pb⟩]) wr) (qb (ds++[⟨c,j,pb⟩]) mx) (xH 0 (ds++[⟨c,j,pb⟩])) (jb (ds++[⟨c,j,pb⟩])) Xk zs tv u W):UE w X br bz B s wr mx tv0 u0 (6-n) (Z_ ((n:Int)+1)) W:=by
 refine⟨n+1,by simp,M_,M_,?_⟩;rcases d with⟨rfl,b,rfl⟩|⟨rfl,b,rfl⟩
 .rw[i_ b]at a;exact .inl ⟨_,_,_,_,_,_,by simp[e],M,a⟩
 .rw[n_ b]at a;exact .inr ⟨_,_,_,_,_,_,_,_,_,M.R,M.st,M.XX,wO a⟩
def eF{x:PB×Nat}(hc:c=65+k)(a:vf 0 (65+k) ds=some x)(M:WM w X br bz B s tv0 u0 ds j6 bad6 (zK j (pb.wr (jO [] ds wr))) (pb.mx (qb ds mx)) (xH 0 ds++pb.ts (xH 0 ds).length) (jb ds++pb.us) Xk zs tv u W):WM w X br bz B s tv0 u0 (ds++[⟨c,j,pb⟩]) j6 bad6 (jO [] (ds++[⟨c,j,pb⟩]) wr) (qb (ds++[⟨c,j,pb⟩]) mx) (xH 0 (ds++[⟨c,j,pb⟩])) (jb (ds++[⟨c,j,pb⟩])) Xk zs tv u W:=by
 have hm:c∈[]++ds.map PD.letter:=by
  by_cases h:c∈ds.map PD.letter
  .simpa using h
  .rw[hc,<- uC 0,a]at h;cases h
 refine⟨?_,M.D.again (d:=⟨c,j,pb⟩) hc a (λ_ h=>h),M.XX,M.st⟩;rw[nN,i_ hm,nO,nA,nS,bx_];exact M.R
def Vt{so o nn:Int}{fv:Ax}{sb:BA}{a:Nat}{xs:Ay}(l:k<6)(hc:c=65+k)(e:vf 0 (65+k) ds=none)(M:WM w X br bz B s tv0 u0 ds j6 bad6 (pb.wr (jO [] ds wr)) (pb.mx (qb ds mx)) (xH 0 ds++pb.ts (xH 0 ds).length) (jb ds++pb.us) Xk zs tv u W)(own:W.ownsRow B 79 10 fv a xs)(b:∀g,fv.ownBlock=some g->Xk g)(f:sf s (xH 0 ds).length pb so a xs sb o nn):WM w X br bz B s tv0 u0 (ds++[⟨c,j,pb⟩]) j6 bad6 (jO [] (ds++[⟨c,j,pb⟩]) wr) (qb (ds++[⟨c,j,pb⟩]) mx) (xH 0 (ds++[⟨c,j,pb⟩])) (jb (ds++[⟨c,j,pb⟩])) Xk (dK zs (5*k) (.int .u8 so) fv (.string sb) (Z_ o) (Z_ nn)) tv u (laid W bz k (.int .u8 so) fv (.string sb) (Z_ o) (Z_ nn)):=by
 have hm:c∉[]++ds.map PD.letter:=by
  rw[hc,bm_];exact(uC 0 _ _).1 e
 obtain⟨R,st⟩:=M.R.laid k (.int .u8 so) fv (.string sb) (Z_ o) (Z_ nn);refine⟨?_,xF.add (d:=⟨c,j,pb⟩) (M.D.step M.R st) l hc e (λ_ h=>h) (zj own st.fr (λg hg=>M.R.offS (b g hg))) b f,M.XX,M.st.trans st⟩;rw[nN,n_ hm,nO,nA,nS,bx_];exact R
end
def cwtK1_{p:Prop}(h:p:=by
 (try have:=cc1;obtain⟨t,j'⟩:=q)
 rw[hp]at hsc;replace hp:=zy hp;refine tr_ 8 (λW=>z_ W br 3 (P_ bz)) ?_;refine tb_ 0 rfl K_ (λ_ _ _ h=>h) xq_ x9_ ?_;refine tb_ 1 rfl K_ (λ_ _ _ h=>h) xq_ x9_ ?_;refine tb_ 2 rfl K_ (λ_ _ _ h=>h) xq_ x9_ ?_;refine tb_ 3 rfl K_ (λ_ _ _ h=>h) xq_ x9_ ?_;refine tb_ 4 rfl K_ (λ_ _ _ h=>h) xq_ x9_ ?_;refine zh 5 rfl K_ (λ_=>c3) (λK hK=>?_);go_simp;apply hT.o.mono;intro e w8 hh;unfold yp at hh;rw[hp.o]at hh;(first|(have:=cc1;obtain⟨rfl,tv8,u8,R8,st8⟩:=hh)|(obtain⟨⟨v,rfl⟩,mx8,ts8,us8,tv8,u8,R8,hl8,st8⟩:=hh));refine hK _ _ ?_;clear hK K;have c38:=R8.here.c3;have z38:w8.cell? ⟨bz,31,none⟩=some rt:=by rw[R8.z.cell];exact hrt
 have g38:=R8.z.th 31;(first|(have:=cc1;obtain⟨v,hv⟩:∃v:Nat,v=(xH 0 ds).length+(flat (xH 0 ds).length t).length-1:=⟨_,rfl⟩;rw[<- hv];replace hv:=zy hv;have S8:=(M1.st.si (zq.drew W1)).trans st8;have D8:=(M1.D.step M1.R (zR.oS (zq.drew W1))).step (M1.R.si (zq.drew W1)) st8;have S9:=zy (S8.trans (R8.setZ 30 (I_ v)).2);have D9:=zy ((D8.step R8 (R8.setZ 30 (I_ v)).2).root (I_ v)))|(have S9:=zy ((M1.st.si (zq.drew W1)).trans (st8.trans (R8.setZ 30 (I_ v)).2))));have R9:=(R8.setZ 30 (I_ v)).1;have hXX:=M1.XX;(try have:=cc1;have hr9:=zy (show(zs'.set 30 (I_ v))[30]?=some (I_ v) by simp[bz_];omega));refine t1_ 6 c38 ?_;refine t1_ 7 c38 ?_;refine t1_ 8 c38 ?_;refine td_ ?_ _;obtain⟨c09,c19,c29⟩:=R9.here.d3;have f29:=R9.here.th 2;(first|(have:=cc1;by_cases hlt:j'<s.size)|(by_cases hlt:k<s.size))
 ·(first|(have:=cc1;have hlt':(j':Int)<(s.size:Int):=M_)|(have hlt':(k:Int)<(s.size:Int):=M_));go_wp2;go_quiet (fail);go_wp2;first|go_end0|refine bodyPost_ret (results_none rfl _ _ _) rfl ?_
  rw[Q_.o];refine⟨rfl,?_⟩;(first|(have:=cc1;have key:=λ(W:World) (hW:zq (w8.setCell ⟨bz,30+1,none⟩ (I_ v)) W)=>qa (wr:=wg) (mx:=mx) (by rw[hsc.o,i_ hlt]) (R9.si hW).sp.1 ((S9.o.si hW).trans (R9.si hW).sp.2) hXX)|(have key:=λ(W:World) (hW:zq (w8.setCell ⟨bz,30+1,none⟩ (I_ v)) W)=>qa (wr:=wg) (mx:=mx) hsc.o (R9.si hW).sp.1 ((S9.o.si hW).trans (R9.si hW).sp.2) hXX));exact key _ x0_
 ·(first|(have:=cc1;have hlt':¬(j':Int)<(s.size:Int):=M_)|(have hlt':¬(k:Int)<(s.size:Int):=M_));go_wp2;go_quiet (fail);go_wp2;first|go_end0|refine bodyPost_ret (results_none rfl _ _ _) rfl ?_
  rw[Q_.o];refine⟨rfl,?_⟩;(first|(have:=cc1;have key:=λ(W:World) (hW:zq (w8.setCell ⟨bz,30+1,none⟩ (I_ v)) W)=>QU (wr:=wg) (mx:=mx) (j':=j') hsc.o hlt R9.il ⟨R9.si hW,D9.o.step R9 (zR.oS hW),hXX,S9.o.si hW⟩ (hv.o▸hr9.o))|(have key:=λ(W:World) (hW:zq (w8.setCell ⟨bz,30+1,none⟩ (I_ v)) W)=>qa (wr:=wg) (mx:=mx) hsc.o (R9.si hW) (S9.o.si hW) hXX));exact key _ x0_):p:=h
def tK{w:Aw}{X:Az}{br bz B:Nat}{s:BA}{mx:Int}{zs:Ay}{tv u:Ax}(R:Rep w X br bz B s 0 false wg mx [] [] zs tv u)(hD:xF w X B s zs []):Calls prog 11 #[P_ br] w λe w'=>e=.returned (.tuple #[])/\jf w X br bz B s wg mx tv u w':=by
 have f7:=R.sl;have start:UE w X br bz B s wg mx tv u 7 (O_) w:=⟨0,rfl,M_,M_,.inl ⟨[],0,X,zs,tv,u,rfl,⟨R,hD,λ_ h=>h,zR.refl _ _ _ _ _⟩,(rA _).symm⟩⟩;replace start:=zy start;obtain⟨e3,Q_⟩:=y_ (λ(e:Ending) (w':World)=>e=.returned (.tuple #[])/\jf w X br bz B s wg mx tv u w');rw[<- Q_.o];go_in;go_wp2_with fail;go_loopg [2] 7 (λm nv W=>UE w X br bz B s wg mx tv u m nv W);case atStart=>exact start
 case round=>
  obtain⟨n,rfl,f6,d7,hA|hC⟩:=hrel
  .obtain⟨ds,j,Xk,zs',tv',u',b6,M,a0⟩:=hA;obtain⟨c0,c1,c2⟩:=M.R.here.d3;have f0:=M.R.il;obtain⟨c,hc⟩:=x_ (bt s j);have e9:c<256:=by rw[<- hc];exact fC _ _
   by_cases a1:n<6/\(65<=c/\c<=70)/\j+1<s.size
   .obtain⟨hn,d2,d6⟩:=a1;have C:=zy (JI a0 hn hc ⟨d2,d6⟩);replace M:=zy M;replace hc:=zy hc;have a2:H_ (∀q,Calls prog 22 #[P_ br] (wr.drewN q) λe w'=>e=.returned (U_ c)/\∃m,w'=(wr.drewN q).drewN m):=λq=>zM (M.o.R.si (zq.drewN wr q)) hc;have a3:H_ (∀(q:Nat) (b:Bool),(decide ((65:Int)<=(c:Int))&&decide ((c:Int)<=70))=b->Calls prog 21 #[U_ c,.int .u8 65,.int .u8 70] (wr.drewN q) λe w'=>e=.returned (.bool b)/\w'=wr.drewN q):=λq b hb=>by rw[<- hb];exact xk _ _ _ _
    have G:=zy (show(decide ((65:Int)<=(c:Int))&&decide ((c:Int)<=70))=true by simp;omega);have h1:(n:Int)<6:=M_;have h3:(j:Int)+1<(s.size:Int):=M_;have I:j<s.size:=M_;go_wp2_with fail;go_quiet (first|(go_at_call 22;exact Calls.quiet_of (a2.o _))|(go_at_call 21;exact Calls.quiet_of_same (a3.o _ _ G)));go_wp2_with fail;have M1:=M.o.si (zq.drewN wr nq);generalize wr.drewN nq=W1 at M1⊢;replace M1:=zy M1;by_cases Z:bt s (j+1)=61
    .rw[i_ Z]at C;go_wp2_with (first
      |(go_at_call 22;apply(zM M1.o.R hc).mono;rintro e w2 ⟨rfl,a8⟩;have a:=M1.o.si a8;have b7:=a.R.here.c1;have b9:=a.R.here.th 1;replace a:=zy a)
      |(go_at_call 23;apply(yU 61 (a.o.R.inc I).1 rfl D_).mono;rintro e w3 ⟨rfl,r,O⟩;rw[i_ Z]at r;have l:=(a.o.call (a.o.R.inc I).1 (a.o.R.inc I).2).call r O;have a6:=l.R.here.c2;replace l:=zy l))
     have hD:=zy (rG l.o.R);cases A:yK s (j+2) with
     |error k=>
      rw[A]at C;replace A:=zy A;go_wp2_with (go_at_call 24;apply hD.o.mono;rintro e J ⟨so,fv,sb,o,nn,b8,xs,e0,u4,rfl,Q,H,a5,N⟩;simp only[pi];rw[A.o]at N;obtain⟨E,sn,F,rfl⟩:=yD H;obtain⟨g0,e1,e4,e5,L⟩:=N;have d:=l.o.held Q L (.int .u8 so) (.slice E sn F) (.string sb) (Z_ o) (Z_ nn);have V:=d.R.here.c2;unfold held at V;have a9:=zy (zj H (cC J (.int .u8 so) (.slice E sn F) (.string sb) (Z_ o) (Z_ nn) N_) (λ_ _ h=>h));have B5:=zy (rl J (.int .u8 so) (.slice E sn F) (.string sb) (Z_ o) (Z_ nn));replace d:=zy d);first|go_end0|refine bodyPost_ret (results_none rfl _ _ _) rfl ?_
      rw[Q_.o];exact⟨rfl,qa (wO C) d.o.R d.o.st d.o.XX⟩
     |ok q=>
      obtain⟨pb,e2⟩:=q;rw[A]at C;replace A:=zy A;go_wp2_with (go_at_call 24;apply hD.o.mono;rintro e J ⟨so,fv,sb,o,nn,b8,xs,e0,u4,rfl,Q,H,a5,N⟩;simp only[pi];rw[A.o]at N;obtain⟨E,sn,F,rfl⟩:=yD H;obtain⟨a7,L⟩:=N;have d:=l.o.held Q L (.int .u8 so) (.slice E sn F) (.string sb) (Z_ o) (Z_ nn);have V:=d.R.here.c2;unfold held at V;have a9:=zy (zj H (cC J (.int .u8 so) (.slice E sn F) (.string sb) (Z_ o) (Z_ nn) N_) (λ_ _ h=>h));have B5:=zy (rl J (.int .u8 so) (.slice E sn F) (.string sb) (Z_ o) (Z_ nn));replace d:=zy d;replace a7:=zy a7);apply(yU 59 d.o.R rfl D_).mono;rintro e S ⟨rfl,r⟩;obtain⟨j6,bad6,r,a4,hO⟩:=WJ r;have f:=d.o.call r a4;have B6:=a4.fr.bl B5 (d.o.R.offS (.inr rfl));have b4:=zj a9 a4.fr (λg hg=>d.o.R.offS (.inl (.inr hg)));obtain⟨k,hk⟩:∃k:Nat,c=65+k:=⟨c-65,M_⟩;have f1:(c:Int)-65=(k:Int):=M_;have b5:k<6:=M_;have f2:(k:Int)<6:=M_;obtain⟨d8,e7,f9,o',n',e6,xs',hz,_,_,hl⟩:=f.D.2 k b5;have z6:S.cell? ⟨bz,1+k*5,none⟩=some (.int .u8 d8):=by
       rw[f.R.z.cell,show 1+k*5=(5*k+0)+1 by omega,ab_];exact hz 0 M_
      have Y:=f.R.here.c3;obtain⟨b0,b1,b2,b3,U⟩:=B6.d5;generalize J.heap.size=bd at *;replace f:=zy f;replace B6:=zy B6;replace b4:=zy b4;replace hO:=zy hO;replace hk:=zy hk;cases y:vf 0 (65+k) ds with
      |none=>
       rw[y]at hl;obtain⟨hl,_⟩:=hl;subst hl;replace y:=zy y;have T:∀p,p<5->∃v,S.cell? ⟨bz,1+k*5+p,none⟩=some v:=λp hp=>by
        have e8:=f.o.D.1;rw[f.o.R.z.cell,show 1+k*5+p=(5*k+p)+1 by omega,ab_];exact⟨_,ak_ M_⟩
       obtain⟨y1,g1⟩:=T 1 M_;obtain⟨y2,g2⟩:=T 2 M_;obtain⟨y3,g3⟩:=T 3 M_;obtain⟨y4,g4⟩:=T 4 M_;have t0:=f.o.R.z.th (1+k*5);have t1:=f.o.R.z.th (1+k*5+1);have t2:=f.o.R.z.th (1+k*5+2);have t3:=f.o.R.z.th (1+k*5+3);have t4:=f.o.R.z.th (1+k*5+4);go_wp2_with fail;refine tr_ 9 (λW=>z_ W br 3 (P_ bz)/\z_ W bd 0 (.int .u8 so)/\z_ W bd 1 (.slice E sn F)/\z_ W bd 2 (.string sb)/\z_ W bd 3 (Z_ o)/\z_ W bd 4 (Z_ nn)) ?_;refine tb_ 0 rfl K_ (λ_ _ _ h=>h) xq_ xc_ ?_;refine tb_ 1 rfl K_ (λ_ _ _ h=>h) xq_ xc_ ?_;refine tb_ 2 rfl K_ (λ_ _ _ h=>h) xq_ xc_ ?_;refine tb_ 3 rfl K_ (λ_ _ _ h=>h) xq_ xc_ ?_;refine tb_ 4 rfl K_ (λ_ _ _ h=>h) xq_ xc_ ?_;refine tb_ 5 rfl K_ (λ_ _ _ h=>h) xq_ xc_ ?_;refine t1_ 6 ⟨Y,b0,b1,b2,b3,U⟩ ?_;refine t1_ 7 ⟨Y,b0,b1,b2,b3,U⟩ ?_;refine t1_ 8 ⟨Y,b0,b1,b2,b3,U⟩ ?_;refine t1_ 9 ⟨Y,b0,b1,b2,b3,U⟩ ?_;refine td_ ?_ _;go_wp2_with fail;go_roundg (6-n);case measure=>omega
       case rel=>exact mf C hO b6 hn (Vt b5 hk y (f.o.si (zq.drew S)) (zj b4 ((A_ S N_).si (zq.drew S)) (λ_ _ h=>h)) (λg hg=>.inl (.inr hg)) a7)
      |some x=>
       rw[y]at hl;have f8:=hl.sort;replace hl:=zy hl;replace y:=zy y;go_wp2_with (go_at_call 12;apply(qe f.o.R).mono;rintro e w7 ⟨rfl,hW,d9⟩);go_roundg (6-n);case measure=>omega
       case rel=>exact mf C hO b6 hn (eF hk y (f.o.call hW d9))
    .rw[n_ Z]at C;go_wp2_with (first
      |(go_at_call 22;apply(zM M1.o.R hc).mono;rintro e w2 ⟨rfl,a8⟩;have a:=M1.o.si a8;have b7:=a.R.here.c1;have b9:=a.R.here.th 1;replace a:=zy a)
      |(go_at_call 23;apply(yU 61 (a.o.R.inc I).1 rfl D_).mono;rintro e w3 ⟨rfl,r,O⟩;rw[n_ Z]at r;have l:=(a.o.call (a.o.R.inc I).1 (a.o.R.inc I).2).call r O;have a6:=l.R.here.c2;replace l:=zy l))
     first|go_end0|refine bodyPost_ret (results_none rfl _ _ _) rfl ?_
     rw[Q_.o];exact⟨rfl,qa (wO C) l.o.R l.o.st l.o.XX⟩
   .have f:yl s 6 0=.ok (ds,j):=by
     rw[a0];by_cases hn:n=6
     .subst hn;simp[yl,jM]
     .rw[show 6-n=(5-n)+1 by omega,wy,n_ (λh=>a1 ⟨M_,by have:=h.1;rw[hc]at this;simp only[zo,a0_,decide_eq_true_eq]at this;exact this,h.2⟩)]
    replace f:=zy f;replace M:=zy M;replace hc:=zy hc;have a2:H_ (∀q,Calls prog 22 #[P_ br] (wr.drewN q) λe w'=>e=.returned (U_ c)/\∃m,w'=(wr.drewN q).drewN m):=λq=>zM (M.o.R.si (zq.drewN wr q)) hc;have a3:H_ (∀(q:Nat) (b:Bool),(decide ((65:Int)<=(c:Int))&&decide ((c:Int)<=70))=b->Calls prog 21 #[U_ c,.int .u8 65,.int .u8 70] (wr.drewN q) λe w'=>e=.returned (.bool b)/\w'=wr.drewN q):=λq b hb=>by rw[<- hb];exact xk _ _ _ _
    obtain⟨y,G⟩:∃b,(decide ((65:Int)<=(c:Int))&&decide ((c:Int)<=70))=b:=⟨_,rfl⟩;have E:decide ((n:Int)<6)=false\/((n:Int)<6/\y=false)\/((n:Int)<6/\y=true/\decide ((j:Int)+1<(s.size:Int))=false):=by
     by_cases h1:n<6
     .by_cases d:65<=c/\c<=70
      .exact .inr (.inr ⟨M_,by rw[<- G];simp;omega,decide_eq_false M_⟩)
      .exact .inr (.inl ⟨M_,by rw[<- G];simp;omega⟩)
     .exact .inl (decide_eq_false M_)
    have hsc:=zy (aQ f);have F:=M.o.D.1;obtain⟨rt,hrt⟩:∃v,zs'[30]?=some v:=⟨_,ak_ M_⟩;replace G:=zy G;replace a1:=zy a1;have c2:=M.o.R.here.c2;rcases E with h1|⟨h1,d⟩|⟨h1,d,h3⟩;all_goals try subst d
    all_goals
     go_wp2_with fail;go_quiet (first|(go_at_call 22;exact Calls.quiet_of (a2.o _))|(go_at_call 21;exact Calls.quiet_of_same (a3.o _ _ G)));go_wp2_with fail;have M1:=M.o.si (zq.drewN wr nq);generalize wr.drewN nq=W1 at M1⊢;have c3:=M1.R.here.c3;have hT:=zy (QA M1.R.il _ _ _ _ _ _ _ _ _ _ _ _ (M1.R.si (zq.drew W1)));cases hp:pT s j with
     |error k=>
      exact cwtK1_
     |ok q=>
      have cc1:=Nat;exact cwtK1_
  .obtain⟨k,Xk,zs',tv',u',H,MX,TS,US,a,r,A,l⟩:=hC;have c2:=a.here.c2;revert a r l;refine h_ λa r l=>?_;have key:=zy (λ(W:World) (hW:zq wr W)=>qa (wr:=wg) (mx:=mx) l (a.o.si hW) (r.o.si hW) A);by_cases hn:n<6
   .have C:(n:Int)<6:=M_;go_wp2_with fail;go_quiet (fail);go_wp2_with fail;first|go_end0|refine bodyPost_ret (results_none rfl _ _ _) rfl ?_
    rw[Q_.o];exact⟨rfl,key.o _ x0_⟩
   .have C:decide ((n:Int)<6)=false:=decide_eq_false M_;go_wp2_with fail;go_quiet (fail);go_wp2_with fail;first|go_end0|refine bodyPost_ret (results_none rfl _ _ _) rfl ?_
    rw[Q_.o];exact⟨rfl,key.o _ x0_⟩
def LAt(w:Aw)(bl:Nat)(s:BA)(bz:Nat)(pl:Ar)(i:Nat)(bad:Ar):Prop:=
 Blk w bl [.string s,I_ i,.bool bad,P_ bz,.bool pl] 116
section
variable {w w':Aw} {bl:Nat} {s:BA} {bz:Nat} {pl:Ar} {i:Nat} {bad:Ar}
def LAt.c0(h:LAt w bl s bz pl i bad):w.cell? ⟨bl,0,none⟩=some (.string s):=by rw[F_ h];rfl
def LAt.c1(h:LAt w bl s bz pl i bad):w.cell? ⟨bl,1,none⟩=some (I_ i):=by rw[F_ h];rfl
def LAt.c2(h:LAt w bl s bz pl i bad):w.cell? ⟨bl,2,none⟩=some (.bool bad):=by rw[F_ h];rfl
def LAt.c3(h:LAt w bl s bz pl i bad):w.cell? ⟨bl,3,none⟩=some (P_ bz):=by rw[F_ h];rfl
def LAt.c4(h:LAt w bl s bz pl i bad):w.cell? ⟨bl,4,none⟩=some (.bool pl):=by rw[F_ h];rfl
def LAt.th(h:LAt w bl s bz pl i bad)(o:Nat):w.frozen? ⟨bl,o,none⟩=false:=Blk.th h o
def LAt.si(h:LAt w bl s bz pl i bad)(hw:zq w w'):LAt w' bl s bz pl i bad:=by obtain⟨n,rfl⟩:=hw;exact h
def LAt.inc(h:LAt w bl s bz pl i bad):LAt (w.setCell ⟨bl,1,none⟩ (Z_ ((i:Int)+1))) bl s bz pl (i+1) bad:=G_ h 1 _
def LAt.sp(h:LAt w bl s bz pl i bad):LAt (w.setCell ⟨bl,2,none⟩ (.bool true)) bl s bz pl i true:=G_ h 2 _
end
def lk(s:BA)(i:Nat)(bad:Ar):Nat:=if bad=true then 0 else bt s i
def yN{w:Aw}{bl:Nat}{s:BA}{bz:Nat}{pl:Ar}{i:Nat}{bad:Ar}(h:LAt w bl s bz pl i bad)(_hs:s.size<=4000)(hi:i<=s.size):Calls prog 66 #[P_ bl] w λe w'=>e=.returned (.int .u8 (lk s i bad:Int))/\zq w w':=by
 obtain⟨c0,c1,c2⟩:=h.d3;cases bad with
 |true=>
  go_in;go_wp2;go_quiet (fail);go_wp2;go_ret;exact⟨by simp[lk],_,rfl⟩
 |false=>
  by_cases hl:i<s.size
  .have a:(i:Int)<(s.size:Int):=M_;go_in;go_wp2;go_quiet (fail);go_wp2;go_quiet (fail);go_wp2;go_ret;exact⟨by simp[lk,vH s i hl],(zq.drewN _ _).trans (zq.drewN _ _)⟩
  .go_in;go_wp2;go_quiet (fail);go_wp2;go_ret;refine⟨?_,⟨_,rfl⟩⟩;have:bt s i=0:=by
    by_cases h0:bt s i=0
    .exact h0
    .exact absurd (zm M_) hl
   simp[lk,this]
def kZ(w:Aw)(bl:Nat)(s:BA)(bz:Nat)(pl:Ar)(i:Nat)(bad:Ar)(d:Nat)(w':Aw):Prop:=
 (if lk s i bad=d then LAt w' bl s bz pl (i+1) bad/\i<s.size else LAt w' bl s bz pl i true)/\Fr w w' (· = bl)
def xZ{w:Aw}{bl:Nat}{s:BA}{bz:Nat}{pl:Ar}{i:Nat}{bad:Ar}{c:Int}(d:Nat)(h:LAt w bl s bz pl i bad)(hs:s.size<=4000)(hi:i<=s.size)(hd:c=(d:Int))(l:0<d):Calls prog 65 #[P_ bl,.int .u8 c] w λe w'=>e=.returned (.tuple #[])/\kZ w bl s bz pl i bad d w':=by
 subst hd;go_in;go_wp2_with (go_at_call 66;apply(yN h hs hi).mono;rintro e w' ⟨rfl,hw⟩;have a:=h.si hw;have c1:=a.c1;have c2:=a.c2;have f:=a.th 1;have g:=a.th 2)
 .go_end0;rename_i hc;have b:lk s i bad=d:=zf_
  refine⟨rfl,?_,((A_ w _).si hw).setCell _ _ (λ_=>rfl)⟩;rw[i_ b];refine⟨a.inc,?_⟩;unfold lk at b;split at b
  .omega
  .exact zm M_
 .go_end0;rename_i hc;refine⟨rfl,?_,((A_ w _).si hw).setCell _ _ (λ_=>rfl)⟩;rw[n_ zf_];exact a.sp
def zJ(lo hi:Nat)(s:BA)(i:Nat):Nat:=
 if h:i<s.size then (if lo<=bt s i/\bt s i<=hi then zJ lo hi s (i+1) else i) else i
 termination_by s.size-i
def gS{lo hi:Nat}{s:BA}{i:Nat}(h:i<s.size)(hb:lo<=bt s i/\bt s i<=hi):zJ lo hi s i=zJ lo hi s (i+1):=by
 conv=>lhs;unfold zJ
 rw[dif_pos h,i_ hb]
def vN{lo hi:Nat}{s:BA}{i:Nat}(hb:¬(lo<=bt s i/\bt s i<=hi)):zJ lo hi s i=i:=by
 unfold zJ;simp[hb]
def GY(w:Aw)(bl:Nat)(s:BA)(bz:Nat)(pl:Ar)(i e:Nat)(m:Nat)(W:Aw):Prop:=
 ∃k,LAt W bl s bz pl k false/\Fr w W (· = bl)/\i<=k/\k<=s.size/\zJ 97 122 s k=e/\s.size-k<=m
def kx(w:Aw)(bl:Nat)(s:BA)(bz:Nat)(pl:Ar)(i:Nat)(bad:Ar)(e:Ak)(w':Aw):Prop:=
 ∃k,k=(if bad=true then i else zJ 97 122 s i)/\i<=k/\k<=s.size/\e=.returned (.string (s.extract i k))/\LAt w' bl s bz pl k bad/\Fr w w' (· = bl)
def Yc{w W:Aw}{bl:Nat}{s:BA}{bz:Nat}{pl:Ar}{i k:Nat}(h:LAt W bl s bz pl k false)(hf:Fr w W (· = bl))(a:i<=k)(b:k<=s.size)(he:zJ 97 122 s k=zJ 97 122 s i)(ho:¬(97<=bt s k/\bt s k<=122)):kx w bl s bz pl i false (.returned (.string (s.extract i k))) W:=
 ⟨k,by rw[n_ D_,<- he,vN ho],a,b,rfl,h,hf⟩
def cwqA1_{p:Prop}(h:p:=by
 (first|(have:=cc1;have n9:(decide ((48:Int)<=(d:Int))&&decide ((d:Int)<=57))=true:=x1_)|(have n9:(decide ((97:Int)<=(c:Int))&&decide ((c:Int)<=122))=true:=x1_))
 have hk:k<s.size:=zm M_;(first|(have:=cc1;have ho:=zy (he.o.symm.trans (gS hk (by rw[hd];exact hin))))|(have hlk:=zy (show lk s k false=c by simp[lk,hc]);have ho:=zy (he.o.symm.trans (gS hk (by rw[hc];exact hin)))));replace h1:=zy h1;replace hf:=zy hf;(first|(have:=cc1)|(replace hc:=zy hc));replace n9:=zy n9;go_wp2_with (first
  |(go_at_call 66;apply(yN h1.o hs hks).mono;rintro e w2 ⟨rfl,hw2⟩;(first|(have:=cc1;rw[hlk1.o])|(rw[hlk.o]));have h2:=h1.o.si hw2;have c1:=h2.c1;have f1:=h2.th 1;replace h2:=zy h2)
  |(go_at_call 21;apply(xk _ _ _ _).mono;rintro e w' ⟨rfl,hw'⟩;rw[hw',n9.o]))
 go_roundg (s.size-(k+1));case measure=>omega
 case rel=>exact⟨k+1,h2.o.inc,(hf.o.si hw2).setCell _ _ (λ_=>rfl),M_,M_,ho.o.symm,l_⟩):p:=h
def qA{w:Aw}{bl:Nat}{s:BA}{bz:Nat}{pl:Ar}{i:Nat}{bad:Ar}(h:LAt w bl s bz pl i bad)(hs:s.size<=4000)(hi:i<=s.size):Calls prog 68 #[P_ bl] w (kx w bl s bz pl i bad):=by
 obtain⟨g,a⟩:=y_ (kx w bl s bz pl i bad);rw[<- a.o];have c1:=h.c1;cases bad with
 |true=>
  replace h:=zy h;go_in;go_wp2;go_loopg [] 0 (λ_ W=>zq w W);case atStart=>exact zq.refl w
  case round=>
   have h1:=zy (h.o.si hrel);have n9:=zy (show(decide ((97:Int)<=((lk s i true:Nat):Int))&&decide (((lk s i true:Nat):Int)<=122))=false by simp[lk]);have hs':(i:Int)<=(s.size:Int):=M_;replace hrel:=zy hrel;go_wp2_with (first
    |(go_at_call 66;apply(yN h1 hs hi).mono;rintro e w2 ⟨rfl,hw2⟩;have h2:=h1.o.si hw2;have c0:=h2.c0;have c1:=h2.c1;replace h2:=zy h2)
    |(go_at_call 21;apply(xk _ _ _ _).mono;rintro e w' ⟨rfl,hw'⟩;rw[hw',n9.o]))
   go_quiet (fail);go_wp2;try go_ret
   rw[a.o];exact⟨i,by simp,l_,hi,by simp,h2.o.si (zq.drewN _ _),(((A_ w _).si hrel).si hw2).si (zq.drewN _ _)⟩
 |false=>
  have start:=zy (⟨i,h,A_ _ _,l_,hi,rfl,l_⟩:GY w bl s bz pl i (zJ 97 122 s i) (s.size-i) w);replace h:=zy h;go_in;go_wp2;go_loopg [] (s.size-i) (λn W=>GY w bl s bz pl i (zJ 97 122 s i) n W);case atStart=>exact start
  case round=>
   obtain⟨k,h1,hf,b,hks,he,hm⟩:=hrel;obtain⟨c,hc⟩:=x_ (bt s k);replace he:=zy he;by_cases hin:97<=c/\c<=122
   .exact cwqA1_
   .have n9:(decide ((97:Int)<=(c:Int))&&decide ((c:Int)<=122))=false:=x1_
    have hlk:=zy (show lk s k false=c by simp[lk,hc]);have f:=zy (show ¬(97<=bt s k/\bt s k<=122) by rw[hc];exact hin);replace h1:=zy h1;replace hf:=zy hf;replace hc:=zy hc;replace n9:=zy n9;have g:(i:Int)<=(k:Int):=M_;have g:(k:Int)<=(s.size:Int):=M_;go_wp2_with (first
     |(go_at_call 66;apply(yN h1 hs hks).mono;rintro e w2 ⟨rfl,hw2⟩;rw[hlk.o];have h2:=h1.o.si hw2;have c0:=h2.c0;have c1:=h2.c1;replace h2:=zy h2)
     |(go_at_call 21;apply(xk _ _ _ _).mono;rintro e w' ⟨rfl,hw'⟩;rw[hw',n9.o]))
    go_quiet (fail);go_wp2;try go_ret
    rw[a.o];exact Yc (h2.o.si (zq.drewN _ _)) ((hf.o.si hw2).si (zq.drewN _ _)) b hks he f
def qD(c:Nat)(neg:Ar):BA:=
 if c=105 then (if neg=true then ⟨#[50,49,52,55,52,56,51,54,52,56]⟩ else ⟨#[50,49,52,55,52,56,51,54,52,55]⟩)
 else (if neg=true then ⟨#[57,50,50,51,51,55,50,48,51,54,56,53,52,55,55,53,56,48,56]⟩ else ⟨#[57,50,50,51,51,55,50,48,51,54,56,53,52,55,55,53,56,48,55]⟩)
def JY(c:Nat)(neg:Ar)(w:Aw):Calls prog 94 #[U_ c,.bool neg] w λe w'=>e=.returned (.string (qD c neg))/\w'=w:=by
 obtain⟨T,a⟩:=y_ (qD c neg);rw[<- a.o];by_cases hc:c=105
 .subst hc;cases neg;all_goals
   go_in;go_wp2;go_ret;exact⟨by rw[a.o];rfl,rfl⟩
 .have b:((c:Int)==105)=false:=x1_
  have hd:=zy (show qD c neg=(if neg=true then ⟨#[57,50,50,51,51,55,50,48,51,54,56,53,52,55,55,53,56,48,56]⟩ else ⟨#[57,50,50,51,51,55,50,48,51,54,56,53,52,55,55,53,56,48,55]⟩) by unfold qD;rw[n_ hc]);cases neg;all_goals
   go_in;go_wp2;go_ret;exact⟨by rw[a.o,hd.o];rfl,rfl⟩
def sgn(s:BA)(i:Nat):Nat:=if bt s i=45 then i+1 else i
def Gi(w:Aw)(bl:Nat)(s:BA)(bz:Nat)(pl:Ar)(i e:Nat)(m:Nat)(W:Aw):Prop:=
 ∃k,LAt W bl s bz pl k false/\Fr w W (· = bl)/\i<=k/\k<=s.size/\zJ 48 57 s k=e/\s.size-k<=m
def qE(kd:Nat)(neg:Ar)(t:BA):Prop:=
 0<t.size/\¬(bt t 0=48/\(1<t.size\/neg=true))/\t.size<=(qD kd neg).size/\(t.size=(qD kd neg).size->(!Op.bytesLess t.toList (qD kd neg).toList && !(t.toList==(qD kd neg).toList))=false)
def cG(neg:Ar)(x:Int)(d:Nat):Int:=if neg=true then wrap64 (wrap64 (10*x)-wrap64 (wrap64 (d:Int)-48)) else wrap64 (wrap64 (10*x)+wrap64 (wrap64 (d:Int)-48))
def lH(neg:Ar)(t:BA):Nat->Int
 | 0=>0
 |a+1=>cG neg (lH neg t a) (bt t a)
def fQ(w:Aw)(bl:Nat)(s:BA)(bz:Nat)(pl:Ar)(i kd:Nat)(e:Ak)(w':Aw):Prop:=
 ∃k neg t,neg=((bt s i:Int)==45)/\t=s.extract (sgn s i) k/\k=zJ 48 57 s (sgn s i)/\i<=k/\k<=s.size/\Fr w w' (· = bl)/\
  ((qE kd neg t/\i<k/\LAt w' bl s bz pl k false/\e=.returned (Z_ (lH neg t t.size)))\/(¬qE kd neg t/\LAt w' bl s bz pl k true/\e=.returned (O_)))
def lC{w:Aw}{bl:Nat}{s:BA}{bz:Nat}{pl:Ar}{i kd:Nat}(h:LAt w bl s bz pl i false)(hs:s.size<=4000)(hi:i<=s.size):Calls prog 67 #[.pointer (some ⟨bl,0,none⟩),.int .u8 (kd:Int)] w (fQ w bl s bz pl i kd):=by
 obtain⟨b7,p⟩:∃P,H_ (P=fQ w bl s bz pl i kd):=⟨_,rfl⟩;rw[<- p.o];obtain⟨c,hc⟩:∃c,bt s i=c:=⟨_,rfl⟩;have hlk:=zy (show lk s i false=c by simp[lk,hc]);obtain⟨neg,hneg⟩:∃b,((c:Int)==45)=b:=⟨_,rfl⟩;obtain⟨g,l⟩:∃k,k=sgn s i:=⟨_,rfl⟩;have a9:g<=s.size/\i<=g/\g<=i+1:=by
  rw[l];unfold sgn;split
  .rename_i d2;have:=zm (s:=s) (i:=i) M_;omega
  .omega
 replace h:=zy h;replace hc:=zy hc;replace hneg:=zy hneg;have b5:=hneg.o;replace l:=zy l;go_in;go_upto_if 15 with(go_at_call 66;refine(yN h.o hs hi).mono ?_;rintro e w2 ⟨rfl,hw2⟩;rw[hlk.o];have h2:=h.o.si hw2;have c1:=h2.c1;have f1:=h2.th 1;replace h2:=zy h2);go_cut [] (λW=>LAt W bl s bz pl g false/\Fr w W (· = bl));case first=>
  cases hb:neg
  .subst hb;go_wp2_with fail;go_meet;case rel=>
    refine⟨?_,(A_ w _).si hw2⟩;have K:g=i:=by rw[l.o];unfold sgn;rw[if_neg z0_]
    rw[K];exact h2.o
  .subst hb;go_wp2_with fail;go_meet;case rel=>
    refine⟨?_,((A_ w _).si hw2).setCell _ _ (λ_=>rfl)⟩;have K:g=i+1:=by rw[l.o];unfold sgn;rw[if_pos z0_]
    rw[K];exact h2.o.inc
 case rest=>
  clear c1 f1 h2 hw2;obtain⟨G,N⟩:=hcut;have c1:=G.c1;have start:=zy (show Gi w bl s bz pl g (zJ 48 57 s g) (s.size-g) wc from⟨g,G,N,l_,a9.1,rfl,l_⟩);replace G:=zy G;replace N:=zy N;go_wp2_with fail;clear c1;go_loopg [] (s.size-g) (λn W=>Gi w bl s bz pl g (zJ 48 57 s g) n W);case atStart=>exact start.o
  case round=>
   clear start;obtain⟨k,h1,hf,e0,hks,he,hm⟩:=hrel;obtain⟨d,hd⟩:∃c,bt s k=c:=⟨_,rfl⟩;replace he:=zy he;have hlk1:=zy (show lk s k false=d by simp[lk,hd]);by_cases hin:48<=d/\d<=57
   .have cc1:=Nat;exact cwqA1_
   .have n9:(decide ((48:Int)<=(d:Int))&&decide ((d:Int)<=57))=false:=x1_
    have O:=zy (show ¬(48<=bt s k/\bt s k<=57) by rw[hd];exact hin);replace h1:=zy h1;replace hf:=zy hf;replace n9:=zy n9;have e1:(g:Int)<=(k:Int):=M_;have e3:(k:Int)<=(s.size:Int):=M_;go_wp2_with (first
     |(go_at_call 66;refine(yN h1.o hs hks).mono ?_;rintro e w2 ⟨rfl,hw2⟩;rw[hlk1.o];have h2:=h1.o.si hw2;have c0:=h2.c0;have c1:=h2.c1;have f2:=h2.th 2;have c2:=h2.c2;replace h2:=zy h2)
     |(go_at_call 21;refine(xk _ _ _ _).mono ?_;rintro e w' ⟨rfl,hw'⟩;rw[hw',n9.o]))
    go_quiet (fail);obtain⟨t,q⟩:∃t,s.extract g k=t:=⟨_,rfl⟩;obtain⟨f,D⟩:∃t,qD kd neg=t:=⟨_,rfl⟩;go_wp2_with fail;have e6:t.size<=4000:=by rw[<- q];simp;omega
    have e7:=zy (show f.size=10\/f.size=19 by rw[<- D];unfold qD;split<;>split<;>simp[ByteArray.size]);have r:H_ (∀W:World,Calls prog 94 #[.int .u8 (kd:Int),.bool neg] W λe w'=>e=.returned (.string f)/\w'=W):=λW=>by rw[<- D];exact JY _ _ _
    rw[q];replace q:=zy q;replace D:=zy D;have y:=zy (λ(hn:¬qE kd neg t) (W:World) (C:zq w2 W)=>show fQ w bl s bz pl i kd (.returned (Z_ 0)) (W.setCell ⟨bl,2,none⟩ (.bool true)) from
     ⟨k,neg,t,by rw[hc.o];exact hneg.o.symm,by rw[<- l.o];exact q.o.symm,by rw[<- l.o,<- he.o];exact(vN O.o).symm,M_,hks,((hf.o.si hw2).si C).setCell _ _ (λ_=>rfl),.inr ⟨hn,(h2.o.si C).sp,rfl⟩⟩)
    have T:=zy (λ(hn:qE kd neg t) (W:World) (C:zq w2 W)=>show fQ w bl s bz pl i kd (.returned (Z_ (lH neg t t.size))) W from
     ⟨k,neg,t,by rw[hc.o];exact hneg.o.symm,by rw[<- l.o];exact q.o.symm,by rw[<- l.o,<- he.o];exact(vN O.o).symm,M_,hks,(hf.o.si hw2).si C,.inl ⟨hn,by have S:=hn.1;rw[<- q.o]at S;simp at S;omega,h2.o.si C,rfl⟩⟩)
    have z:=zy (show qE kd neg t↔(0<t.size/\¬(bt t 0=48/\(1<t.size\/neg=true))/\t.size<=f.size/\(t.size=f.size->(!Op.bytesLess t.toList f.toList && !(t.toList==f.toList))=false)) by rw[<- D.o];rfl);by_cases h0:t.size=0
    .have F:(t.size:Int)=0:=M_;have m:=zy (y.o (λh=>by have:=h.1;omega));go_wp2_with (go_at_call 94;refine(r.o _).mono ?_;rintro e w' ⟨rfl,hw'⟩;rw[hw']);try go_ret
     rw[p.o];exact m.o _ (zq.drewN _ _)
    .have F:0<t.size:=M_;have b9:(0:Int)<(t.size:Int):=M_;have b8:((t.size:Int)==0)=false:=xg_
     obtain⟨b,hb⟩:∃b:Nat,((t[0]'F).toNat:Int)=(b:Int):=⟨_,rfl⟩;have M:=zy (show bt t 0=b by rw[vH t 0 F];exact Int.ofNat_inj.1 hb);obtain⟨lt,Y⟩:∃x,Op.bytesLess t.toList f.toList=x:=⟨_,rfl⟩;obtain⟨A,U⟩:∃x,(t.toList==f.toList)=x:=⟨_,rfl⟩;by_cases hz:b=48/\(1<t.size\/neg=true)
     .obtain⟨rfl,hz⟩:=hz;by_cases h1:1<t.size
      .have a3:(1:Int)<(t.size:Int):=M_;have m:=zy (y.o (λh=>by have:=z.o.1 h;exact this.2.1 ⟨M.o,.inl h1⟩));go_wp2_with (go_at_call 94;refine(r.o _).mono ?_;rintro e w' ⟨rfl,hw'⟩;rw[hw']);try go_ret
       rw[p.o];exact m.o _ (zq.drewN _ _)
      .have a3:¬(1:Int)<(t.size:Int):=M_;have Z:neg=true:=by rcases hz with h|h;exact absurd h h1;exact h
       have m:=zy (y.o (λh=>by have:=z.o.1 h;exact this.2.1 ⟨M.o,.inr Z⟩));subst Z;go_wp2_with (go_at_call 94;refine(r.o _).mono ?_;rintro e w' ⟨rfl,hw'⟩;rw[hw']);try go_ret
       rw[p.o];exact m.o _ (zq.drewN _ _)
     .have Q:((b:Int)==48)=false\/(((b:Int)==48)=true/\(t.size:Int)<=1/\neg=false):=by
       by_cases R:b=48
       .refine .inr ⟨by simp;omega,?_,?_⟩
        .by_cases h1:1<t.size
         .exact absurd ⟨R,.inl h1⟩ hz
         .omega
        .cases hn:neg
         .rfl
         .exact absurd ⟨R,.inr hn⟩ hz
       .exact .inl x1_
      have a2:=zy (show ¬(bt t 0=48/\(1<t.size\/neg=true)) by rw[M.o];exact hz);clear hz;by_cases d9:f.size<t.size
      .have a8:(f.size:Int)<(t.size:Int):=M_;have m:=zy (y.o (λh=>by have:=z.o.1 h;omega));rcases Q with E|⟨E,a0,rfl⟩;all_goals
        go_wp2_with (go_at_call 94;refine(r.o _).mono ?_;rintro e w' ⟨rfl,hw'⟩;rw[hw']);try go_ret
        rw[p.o];exact m.o _ (zq.drewN _ _)
      .have a8:¬(f.size:Int)<(t.size:Int):=M_;by_cases I:t.size=f.size/\(!lt && !A)=true
       .obtain⟨a7,L⟩:=I;have d8:(f.size:Int)=(t.size:Int):=M_;have m:=zy (y.o (λh=>by have:=(z.o.1 h).2.2.2 a7;rw[Y,U,L]at this;cases this));have hl:lt=false/\A=false:=by revert L;cases lt<;>cases A<;>simp
        obtain⟨rfl,rfl⟩:=hl;clear L;rcases Q with E|⟨E,a0,rfl⟩;all_goals
         go_wp2_with (go_at_call 94;refine(r.o _).mono ?_;rintro e w' ⟨rfl,hw'⟩;rw[hw']);try go_ret
         rw[p.o];exact m.o _ (zq.drewN _ _)
       .have a1:=zy (T.o (z.o.2 ⟨F,a2.o,M_,λhe=>by
         cases hx:(!Op.bytesLess t.toList f.toList && !(t.toList==f.toList))
         .rfl
         .exact absurd ⟨he,by rw[<- Y,<- U];exact hx⟩ I⟩))
        have b6:(((t.size:Int)==(f.size:Int))=false)\/((f.size:Int)=(t.size:Int)/\lt=true)\/((f.size:Int)=(t.size:Int)/\lt=false/\A=true):=by
         by_cases he:t.size=f.size
         .cases lt
          .cases A
           .exact absurd ⟨he,rfl⟩ I
           .exact .inr (.inr ⟨M_,rfl,rfl⟩)
          .exact .inr (.inl ⟨M_,rfl⟩)
         .exact .inl xg_
        clear I y T;obtain⟨V,H⟩:∃V:Nat->Int,V=lH neg t:=⟨_,rfl⟩;have a4:=zy (show V 0=0 by rw[H];rfl);have a5:=zy (show ∀a,V (a+1)=cG neg (V a) (bt t a) by rw[H];intro a;rfl);rw[<- H]at a1;clear H;clear z a2 b5 hneg l O he hlk hlk1;cases neg<;>rcases b6 with q1|⟨q1,rfl⟩|⟨q1,rfl,rfl⟩<;>rcases Q with E|⟨E,a0,b4⟩
        all_goals try(cases b4;done)
        all_goals
         go_wp2_with (go_at_call 94;refine(r.o _).mono ?_;rintro e w' ⟨rfl,hw'⟩;rw[hw']);go_loopg [9,10] t.size (λn v iv W=>zq w2 W/\∃a:Nat,iv=Z_ (a:Int)/\v=Z_ (V a)/\a<=t.size/\t.size-a<=n);case atStart=>exact⟨zq.drewN _ _,0,rfl,by rw[a4.o],M_,M_⟩
         case round=>
          obtain⟨J,a,rfl,rfl,d7,e4⟩:=hrel;replace J:=zy J;by_cases ha:a<t.size
          .have a6:(a:Int)<(t.size:Int):=M_;have e5:((t[a]'ha).toNat:Int)=(bt t a:Int):=by rw[vH t a ha]
           go_wp2_with fail;go_roundg (t.size-(a+1));case measure=>omega
           case rel=>exact⟨J.o,a+1,by simp,by rw[a5.o];rfl,M_,l_⟩
          .have a6:¬(a:Int)<(t.size:Int):=M_;have d6:a=t.size:=M_;go_wp2_with fail;try go_ret
           rw[p.o];exact a1.o _ J.o
inductive DT where
 |mk (k:Nat) (n:Int) (tx:BA) (ks:List BA) (ds:List DT)
 deriving Inhabited
abbrev Ab:=PT->Nat->Option (DT×Nat)
abbrev Ae:=List DT
abbrev Af:=List (BA×DT)
abbrev Dm:=Option (DT×Nat)
abbrev Aj:=Nat->Option (DT×Nat)
abbrev Dd:=PF->Option DT
abbrev Ex:=PT->PT->DT->Option DT
abbrev Df:=DT->Prop
abbrev Ep:=Option (List DT×Nat)
abbrev Dz:=Option (List (BA×DT)×Nat)
def noB:BA:=⟨#[]⟩
instance (kd:Nat) (neg:Bool) (t:BA):Decidable (qE kd neg t):=by unfold qE;infer_instance
def yo(s:BA)(i:Nat):Nat:=zJ 48 57 s (sgn s i)
def xK(s:BA)(i:Nat):Bool:=((bt s i:Int)==45)
def zS(s:BA)(i:Nat):BA:=s.extract (sgn s i) (yo s i)
def vj(s:BA)(kd i:Nat):Option (Int×Nat):=
 if qE kd (xK s i) (zS s i) then some (lH (xK s i) (zS s i) (zS s i).size,yo s i) else none
def ze(s:BA)(i:Nat):Nat:=zJ 97 122 s i
def kV(last:Ey)(k:BA):Bool:=match last with|none=>true|some l=>Op.bytesLess l.toList k.toList
def kJ(s:BA)(keyed:Ar)(last:Ey)(i:Nat):Option (BA×Nat):=
 if keyed=true then
  if bt s (ze s i)=58/\kV last (s.extract i (ze s i))=true then some (s.extract i (ze s i),ze s i+1) else none
 else some (noB,i)
def ye(R:Aj)(s:BA)(fin:Nat)(keyed:Ar):Nat->Option BA->Nat->Option (List (BA×DT)×Nat)
 | 0,_,_=>none
 |n+1,last,i=>
  match kJ s keyed last i with
  |none=>none
  |some (k,i1)=>
   match R i1 with
   |none=>none
   |some (d,j)=>
    if bt s j=fin then some ([(k,d)],j+1)
    else if bt s j=44 then
     match ye R s fin keyed n (some k) (j+1) with
     |none=>none
     |some (l,e)=>some ((k,d)::l,e)
    else none
def qj(R:Aj)(s:BA)(fin:Nat)(keyed:Ar)(i:Nat):Option (List (BA×DT)×Nat):=
 if bt s i=fin then some ([],i+1) else ye R s fin keyed (s.size+2) none i
def zG(R:Ab)(s:BA):Bool->List PT->Nat->Option (List DT×Nat)
 | _,[],i=>some ([],i)
 |first,t::r,i=>
  if first=true then
   match R t i with
   |none=>none
   |some (d,j)=>match zG R s false r j with|none=>none|some (ds,e)=>some (d::ds,e)
  else if bt s i=44 then
   match R t (i+1) with
   |none=>none
   |some (d,j)=>match zG R s false r j with|none=>none|some (ds,e)=>some (d::ds,e)
  else none
def yj(R:Ab)(s:BA)(pb:PB)(i:Nat):Option (DT×Nat):=
 match pb with
 | .recd fs=>
  if bt s i=40 then
   match zG R s true (fs.map PF.ty) (i+1) with
   |none=>none
   |some (ds,j)=>if bt s j=41 then some (.mk 114 0 noB [] ds,j+1) else none
  else none
 | .enum l _=>
  if i<s.size then
   match (l.map Prod.fst).findIdx? (λc=>c==bt s i) with
   |none=>none
   |some q=>some (.mk 101 q noB [] [],i+1)
  else none
 | .bytes n=>
  if bt s i=39/\ze s (i+1)-(i+1)=n/\bt s (ze s (i+1))=39 then some (.mk 102 0 (s.extract (i+1) (ze s (i+1))) [] [],ze s (i+1)+1) else none
def jw(s:BA)(i:Nat):Nat:=min (zJ 48 57 s i) (i+3)
def rL(s:BA)(i:Nat):Nat->Nat
 | 0=>0
 |n+1=>10*rL s i n+(bt s (i+n)-48)
def jc(R:Ab)(s:BA)(pl:Ar)(ts:Ad)(i:Nat):Option (DT×Nat):=
 if pl=true then
  match ts with
  | []=>none
  |t::_=>match R t i with|none=>none|some (d,j)=>some (.mk 40 0 noB [] [d],j)
 else if bt s i=60/\jw s (i+1)≠i+1/\¬(bt s (i+1)=48/\jw s (i+1)-(i+1) > 1)/\bt s (jw s (i+1))=58 then
  match ts[rL s (i+1) (jw s (i+1)-(i+1))]? with
  |none=>none
  |some t=>
   match R t (jw s (i+1)+1) with
   |none=>none
   |some (d,j)=>if bt s j=62 then some (.mk 40 (rL s (i+1) (jw s (i+1)-(i+1)):Nat) noB [] [d],j+1) else none
 else none
def xw(R:Ab)(s:BA)(env:Au)(c i:Nat):Option (DT×Nat):=
 if c=110 then (if bt s i=78 then some (.mk 110 0 noB [] [],i+1) else none)
 else if c=116 then (if bt s i=84 then some (.mk 116 1 noB [] [],i+1) else if bt s i=70 then some (.mk 116 0 noB [] [],i+1) else none)
 else if c=105\/c=108 then (match vj s c i with|none=>none|some (n,j)=>some (.mk c n noB [] [],j))
 else if c=115 then (if bt s i=34/\bt s (ze s (i+1))=34 then some (.mk 115 0 (s.extract (i+1) (ze s (i+1))) [] [],ze s (i+1)+1) else none)
 else match env c with|none=>none|some pb=>yj R s pb i
def xN(R:Aj)(s:BA)(c i:Nat):Option (DT×Nat):=
 if bt s i=c then
  match qj R s (xj c) (c==123) (i+1) with
  |none=>none
  |some (l,j)=>some (.mk c 0 noB (if (c==123)=true then l.map Prod.fst else []) (l.map Prod.snd),j)
 else none
def rdT(s:BA)(env:Au)(pl:Ar):Nat->PT->Nat->Option (DT×Nat)
 | 0,_,_=>none
 |f+1,.leaf c _,i=>xw (rdT s env pl f) s env c i
 |f+1,.wrap c _ t,i=>xN (rdT s env pl f t) s c i
 |f+1,.alts _ ts,i=>jc (rdT s env pl f) s pl ts i
def QY(s:BA)(R:Aj):Prop:=∀i d j,R i=some (d,j)->i<j/\j<=s.size
def yR(lo hi:Nat)(s:BA):∀n i,s.size-i<=n->i<=zJ lo hi s i/\(i<=s.size->zJ lo hi s i<=s.size):=by
 intro n;induction n with
 |zero=>intro i h;rw[zJ,dif_neg M_];exact⟨l_,λh=>h⟩
 |succ n ih=>
  intro i h;rw[zJ];split
  .split
   .have:=ih (i+1) M_;exact⟨M_,λ_=>this.2 M_⟩
   .exact⟨l_,λh=>h⟩
  .exact⟨l_,λh=>h⟩
def jG(s:BA)(i:Nat):i<=ze s i:=(yR 97 122 s _ i l_).1
def lY{s:BA}{keyed:Ar}{a:Ey}{i:Nat}{k:BA}{j:Nat}(h:kJ s keyed a i=some (k,j)):i<=j:=by
 unfold kJ at h;split at h
 .split at h
  .simp only[af_,ac_]at h;have:=jG s i;omega
  .simp at h
 .simp only[af_,ac_]at h;omega
def sN{s:BA}{R:Aj}(b:QY s R){fin:Nat}(hf:0<fin){keyed:Ar}:∀(n:Nat) (a:Option BA) (i:Nat) (l:List (BA×DT)) (j:Nat),ye R s fin keyed n a i=some (l,j)->i<j/\j<=s.size:=by
 intro n;induction n with
 |zero=>intro a i l j h;simp[ye]at h
 |succ n ih=>
  intro a i l j h;unfold ye at h;split at h
  .simp at h
  .rename_i k m hk;have h1:=lY hk;split at h
   .simp at h
   .rename_i d f hd;have g:=b _ _ _ hd;split at h
    .rename_i hb;have:=zm (s:=s) (i:=f) M_;simp only[af_,ac_]at h;omega
    .split at h
     .split at h
      .simp at h
      .rename_i o e he;have:=ih _ _ _ _ he;simp only[af_,ac_]at h;omega
     .simp at h
def dB{s:BA}{R:Ab}(b:∀t,QY s (R t)):∀(ts:List PT) (first:Bool) (i:Nat) (l:List DT) (j:Nat),i<=s.size->zG R s first ts i=some (l,j)->i<=j/\j<=s.size:=by
 intro ts;induction ts with
 |nil=>intro first i l j hi h;simp[zG]at h;omega
 |cons t r ih=>
  intro first i l j hi h
  unfold zG at h;split at h
  .split at h
   .simp at h
   .rename_i d f hd;have a:=b _ _ _ _ hd;split at h
    .simp at h
    .rename_i g e he;have:=ih _ _ _ _ a.2 he;simp only[af_,ac_]at h;omega
  .split at h
   .split at h
    .simp at h
    .rename_i d f hd;have a:=b _ _ _ _ hd;split at h
     .simp at h
     .rename_i g e he;have:=ih _ _ _ _ a.2 he;simp only[af_,ac_]at h;omega
   .simp at h
def sR{s:BA}{R:Ab}(a:∀t,QY s (R t))(pb:PB):QY s (yj R s pb):=by
 intro i d j h;unfold yj at h;split at h
 .split at h
  .rename_i hb;have h0:=zm (s:=s) (i:=i) M_;split at h
   .simp at h
   .rename_i ds b hd;have h1:=dB a _ _ _ _ _ M_ hd;split at h
    .rename_i hc;have:=zm (s:=s) (i:=b) M_;simp only[af_,ac_]at h;omega
    .simp at h
  .simp at h
 .split at h
  .split at h
   .simp at h
   .simp only[af_,ac_]at h;omega
  .simp at h
 .split at h
  .rename_i hb;have:=zm (s:=s) (i:=ze s (i+1)) M_;have:=jG s (i+1);simp only[af_,ac_]at h;omega
  .simp at h
def oI(c:Nat):0<xj c:=by unfold xj;split<;>omega
def lZ{s:BA}{kd i:Nat}{n:Int}{j:Nat}(h:vj s kd i=some (n,j)):i<j/\j<=s.size:=by
 unfold vj at h;split at h
 .rename_i hn;simp only[af_,ac_]at h;have h0:=hn.1;have hs:i<=sgn s i:=by unfold sgn;split<;>omega
  unfold zS at h0;rw[bk_]at h0;have hg:=yR 48 57 s _ (sgn s i) l_;unfold yo at *;rw[<- h.2];refine⟨M_,hg.2 M_⟩
 .simp at h
def jR(s:BA)(env:Au)(pl:Ar)(f:Nat):∀t,QY s (rdT s env pl f t):=by
 induction f with
 |zero=>intro t i d j h;simp[rdT]at h
 |succ f ih=>
  intro t i d j h;cases t with
  |leaf c p=>
   simp only[rdT]at h;unfold xw at h;have one:∀{k x},bt s i=k->0<k->some (x,i+1)=some (d,j)->i<j/\j<=s.size:=λhb h0 h=>by
    have:=zm (s:=s) (i:=i) M_;simp only[af_,ac_]at h;omega
   split at h
   .split at h
    .rename_i hb;exact one hb M_ h
    .simp at h
   .split at h
    .split at h
     .rename_i hb;exact one hb M_ h
     .split at h
      .rename_i hb;exact one hb M_ h
      .simp at h
    .split at h
     .split at h
      .simp at h
      .rename_i n a hn;have:=lZ hn;simp only[af_,ac_]at h;omega
     .split at h
      .split at h
       .rename_i hb;have:=zm (s:=s) (i:=ze s (i+1)) M_;have:=jG s (i+1);simp only[af_,ac_]at h;omega
       .simp at h
      .split at h
       .simp at h
       .exact sR ih _ _ _ _ h
  |wrap c p t=>
   simp only[rdT]at h;unfold xN at h;split at h
   .split at h
    .simp at h
    .rename_i l a hl;simp only[af_,ac_]at h;unfold qj at hl;have hc:=oI c;split at hl
     .rename_i hb;have:=zm (s:=s) (i:=i+1) M_;simp only[af_,ac_]at hl;omega
     .have:=sN (ih t) hc _ _ _ _ _ hl;omega
   .simp at h
  |alts p ts=>
   simp only[rdT]at h;unfold jc at h;split at h
   .split at h
    .simp at h
    .split at h
     .simp at h
     .rename_i d1 a hd;have:=ih _ _ _ _ hd;simp only[af_,ac_]at h;omega
   .split at h
    .rename_i hb;have hg:=(yR 48 57 s _ (i+1) l_).1;have b:i+1<=jw s (i+1):=by unfold jw;omega
     split at h
     .simp at h
     .split at h
      .simp at h
      .rename_i d1 a hd;have h1:=ih _ _ _ _ hd;split at h
       .rename_i hc;have:=zm (s:=s) (i:=a) M_;simp only[af_,ac_]at h;omega
       .simp at h
    .simp at h
end Go.Proofs.YtamhgejdkclmdaaGreatDoor
