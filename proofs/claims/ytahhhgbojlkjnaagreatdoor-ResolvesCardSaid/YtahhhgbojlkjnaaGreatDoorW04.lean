import Derived.Test.YtahhhgbojlkjnaaGreatDoorW03
set_option maxHeartbeats 16000000
set_option maxRecDepth 100000
set_option linter.defProp false
set_option linter.unusedSimpArgs false
open Go.Proofs.Tryz
namespace Go.Proofs.YtahhhgbojlkjnaaGreatDoor
open Go.RowKit
variable {wg:Int}{TS:Aq}{US:Av}{W':Aw}{j':Nat}
structure WM(w:Aw)(X:Au)(br bz B:Nat)(s:BA)(tv0 u0:Ax)(ds:Ar)(j:Nat)(bad:Ap)(wg MX:Int)(TS:Aq)(US:Av)(Xk:Au)(zs:Az)(tv u:Ax)(W:Aw):Prop where
 R:Rep W Xk br bz B s j bad wg MX TS US zs tv u
 D:xV W Xk B s zs ds
 XX:∀g,X g->Xk g
 st:zI w W br bz tv0 u0 tv u
def Pg(w:Aw)(X:Au)(br bz B:Nat)(s:BA)(wr mx:Int)(tv0 u0:Ax)(m:Nat)(nv:Ax)(W:Aw):Prop:=
 ∃n:Nat,nv=I_ n/\n<=6/\7-n<=m/\
  ((∃ds j Xk zs tv u,ds.length=n/\WM w X br bz B s tv0 u0 ds j false (qp [] ds wr) (qt ds mx) (vm 0 ds) (ja ds) Xk zs tv u W/\yd s 6 0=jT ds (yd s (6-n) j))\/
   (∃k Xk zs tv u wg MX TS US,Rep W Xk br bz B s k true wg MX TS US zs tv u/\zI w W br bz tv0 u0 tv u/\(∀g,X g->Xk g)/\zQ s=.error k))
def je(w:Aw)(X:Au)(br bz B:Nat)(s:BA)(wr mx:Int)(tv0 u0:Ax)(W:Aw):Prop:=
 match zQ s with
 | .error k=>∃Xk zs tv u wg MX TS US,Rep W Xk br bz B s k true wg MX TS US zs tv u/\zI w W br bz tv0 u0 tv u/\(∀g,X g->Xk g)
 | .ok (ds,t)=>∃Xk zs tv u,WM w X br bz B s tv0 u0 ds s.size false (qp [] ds wr) (mix t (qt ds mx)) (vm 0 ds++flat (vm 0 ds).length t) (ja ds++zK t) Xk zs tv u W/\
  zs[30]?=some (Z_ (((vm 0 ds).length+(flat (vm 0 ds).length t).length-1:Nat):Int))
def WM.si{w:Aw}{X Xk:Au}{br bz B:Nat}{s:BA}{tv0 u0 tv u:Ax}{ds:Ar}{j:Nat}{bad:Ap}{MX:Int}{zs:Az}{W:Aw}(M:WM w X br bz B s tv0 u0 ds j bad wg MX TS US Xk zs tv u W)(h:zw W W'):WM w X br bz B s tv0 u0 ds j bad wg MX TS US Xk zs tv u W':=
 ⟨M.R.si h,M.D.step M.R (zI.oS h),M.XX,M.st.si h⟩
def qG{w W:Aw}{X Xk:Au}{br bz B:Nat}{s:BA}{wr mx:Int}{tv0 u0 tv u:Ax}{k:Nat}{zs:Az}{MX:Int}(h:zQ s=.error k)(R:Rep W Xk br bz B s k true wg MX TS US zs tv u)(st:zI w W br bz tv0 u0 tv u)(hX:∀g,X g->Xk g):je w X br bz B s wr mx tv0 u0 W:=by
 unfold je;rw[h];exact⟨_,_,_,_,_,_,_,_,R,st,hX⟩
def eh{s:BA}{ds:Ar}{i:Nat}(h:yd s 6 0=.ok (ds,i)):zQ s=match pT s i with | .error k=>.error k | .ok (t,j)=>if j<s.size then .error j else .ok (ds,t):=by
 unfold zQ;rw[h];rfl
def gY{s:BA}{k:Nat}(h:yd s 6 0=.error k):zQ s=.error k:=by unfold zQ;rw[h]
def VP{w W:Aw}{X Xk:Au}{br bz B:Nat}{s:BA}{wr mx:Int}{tv0 u0 tv u:Ax}{zs:Az}{ds:Ar}{t:PT}(h:zQ s=if j'<s.size then .error j' else .ok (ds,t))(a:¬j'<s.size)(b:j'<=s.size)(M:WM w X br bz B s tv0 u0 ds j' false (qp [] ds wr) (mix t (qt ds mx)) (vm 0 ds++flat (vm 0 ds).length t) (ja ds++zK t) Xk zs tv u W)(hz:zs[30]?=some (Z_ (((vm 0 ds).length+(flat (vm 0 ds).length t).length-1:Nat):Int))):je w X br bz B s wr mx tv0 u0 W:=by
 have e:j'=s.size:=M_;subst e;unfold je;rw[h,n_ a];exact⟨_,_,_,_,M,hz⟩
def WM.call{w:Aw}{X Xk:Au}{br bz B:Nat}{s:BA}{tv0 u0 tv u tv' u':Ax}{ds:Ar}{j:Nat}{bad e:Ap}{MX f a:Int}{b:Aq}{d:Av}{zs:Az}{W:Aw}(M:WM w X br bz B s tv0 u0 ds j bad wg MX TS US Xk zs tv u W)(g:Rep W' Xk br bz B s j' e f a b d zs tv' u')(st:zI W W' br bz tv u tv' u'):WM w X br bz B s tv0 u0 ds j' e f a b d Xk zs tv' u' W':=
 ⟨g,M.D.step M.R st,M.XX,M.st.trans st⟩
def xV.wider{W:Aw}{X Y:Au}{B:Nat}{s:BA}{zs:Az}{ds:Ar}(h:xV W X B s zs ds)(f:∀g,X g->Y g):xV W Y B s zs ds:=by
 refine⟨h.1,λk hk=>?_⟩;obtain⟨so,fv,sb,o,n,a,xs,h1,b,d,e⟩:=h.2 k hk;exact⟨so,fv,sb,o,n,a,xs,h1,b,λg hg=>f g (d g hg),e⟩
def xV.lt{W:Aw}{X:Au}{B:Nat}{s:BA}{zs:Az}{ds:Ar}(h:xV W X B s zs ds){k g:Nat}{v:Ax}(hk:k<6)(e:zs[5*k+1]?=some v)(b:v.ownBlock=some g):g<W.heap.size:=by
 obtain⟨so,fv,sb,o,n,a,xs,h1,d,_⟩:=h.2 k hk;have a:=h1 1 M_;rw[e]at a;cases a;exact(d.lt g b).2
def held(W:Aw)(v0 v1 v2 v3 v4:Ax):World:=W.alloc (.cells #[v0,v1,v2,v3,v4] 39)
def cV(W:Aw)(v0 a b d e:Ax)(S:Au):Fr W (held W v0 a b d e) S:=(A_ W S).alloc _
def lS(W:Aw)(v0 a b d e:Ax):Blk (held W v0 a b d e) W.heap.size [v0,a,b,d,e] 39:=
 B_ W #[v0,a,b,d,e] 39
def XI(W:Aw)(v0 a b d e:Ax):W.heap.size<(held W v0 a b d e).heap.size:=(lS W v0 a b d e).lt
def WM.held{w:Aw}{X Xk:Au}{br bz B:Nat}{s:BA}{tv0 u0 tv u tv' u':Ax}{ds:Ar}{j:Nat}{bad t:Ap}{MX v l:Int}{q:Aq}{r:Av}{zs:Az}{W:Aw}{fv:Ax}(M:WM w X br bz B s tv0 u0 ds j bad wg MX TS US Xk zs tv u W)(st:zI W W' br bz tv u tv' u')(m:Rep W' (λg=>Xk g\/fv.ownBlock=some g) br bz B s j' t v l q r zs tv' u')(v0 a b d f:Ax):WM w X br bz B s tv0 u0 ds j' t v l q r (λg=>(Xk g\/fv.ownBlock=some g)\/g=W'.heap.size) zs tv' u' (held W' v0 a b d f):=by
 have hs:=XI W' v0 a b d f;have x:=(m.o (cV W' v0 a b d f _)).fe (Y:=λg=>(Xk g\/fv.ownBlock=some g)\/g=W'.heap.size) (λg hg=>by
  rcases hg with e|e
  .exact .inl e
  .exact .inr ⟨M_,M_⟩)
 have p:zI W' (Go.Proofs.YtahhhgbojlkjnaaGreatDoor.held W' v0 a b d f) br bz tv' u' tv' u':=⟨cV W' v0 a b d f _,.inl rfl,.inl rfl⟩;have a:=M.D.step M.R st;exact⟨x,(a.wider (λg h=>.inl h)).step m p |>.wider (λg h=>.inl h),λg h=>.inl (.inl (M.XX g h)),(M.st.trans st).trans p⟩
def Vj{s:BA}{ds:Ar}{n j c:Nat}(h:yd s 6 0=jT ds (yd s (6-n) j))(hn:n<6)(hc:bt s j=c)(a:(65<=c/\c<=70)/\j+1<s.size):yd s 6 0=if bt s (j+1)=61 then (match xu s (j+2) with | .error k=>.error k | .ok (pb,e)=>if bt s e=59 then jT (ds++[⟨c,j,pb⟩]) (yd s (6-(n+1)) (e+1)) else .error e) else .error (j+1):=by
 rw[h,show 6-n=(6-(n+1))+1 by omega,wV,hc,i_ ⟨by simp only[zZ,a0_,decide_eq_true_eq];exact a.1,a.2⟩];rfl
def Ba(s:BA)(e j:Nat)(bad:Ap):Prop:=(bad=false/\bt s e=59/\j=e+1)\/(bad=true/\bt s e≠59/\j=e)
def Qf{w W:Aw}{X:Au}{br bz B:Nat}{s:BA}{i:Nat}{wr mx:Int}{ts:Aq}{us:Av}{zs:Az}{tv u:Ax}(h:ia w X br bz B s i wr mx ts us zs tv u 59 W):∃j bad,Rep W X br bz B s j bad wr mx ts us zs tv u/\zI w W br bz tv u tv u/\Ba s i j bad:=by
 obtain⟨h,st⟩:=h;by_cases e:bt s i=59
 .rw[i_ e]at h;exact⟨_,_,h,st,.inl ⟨rfl,e,rfl⟩⟩
 .rw[n_ e]at h;exact⟨_,_,h,st,.inr ⟨rfl,e,rfl⟩⟩
def laid(W:Aw)(bz k:Nat)(v0 v1 v2 v3 v4:Ax):World:=
 ((((W.setCell ⟨bz,1+k*5,none⟩ v0).setCell ⟨bz,1+k*5+1,none⟩ v1).setCell ⟨bz,1+k*5+2,none⟩ v2).setCell ⟨bz,1+k*5+3,none⟩ v3).setCell ⟨bz,1+k*5+4,none⟩ v4
def Rep.laid{w:Aw}{X:Au}{br bz B:Nat}{s:BA}{i:Nat}{bad:Ap}{wr mx:Int}{ts:Aq}{us:Av}{zs:Az}{tv u:Ax}(R:Rep w X br bz B s i bad wr mx ts us zs tv u)(k:Nat)(v0 a b d e:Ax):Rep (laid w bz k v0 a b d e) X br bz B s i bad wr mx ts us (mS zs (5*k) v0 a b d e) tv u/\zI w (Go.Proofs.YtahhhgbojlkjnaaGreatDoor.laid w bz k v0 a b d e) br bz tv u tv u:=by
 have h:=R.setDef (5*k) v0 a b d e;unfold Go.Proofs.YtahhhgbojlkjnaaGreatDoor.laid;rw[show 1+k*5=5*k+1 by omega,show 5*k+1+2=5*k+2+1 by omega,show 5*k+1+3=5*k+3+1 by omega,show 5*k+1+4=5*k+4+1 by omega];exact h
section
variable {w W:Aw} {X Xk:Au} {br bz B:Nat} {s:BA} {wr mx:Int} {tv0 u0 tv u:Ax} {ds:Ar} {j j6 e2 c k n:Nat} {bad6:Ap} {pb:PB} {zs:Az}
def mj(a:yd s 6 0=if bt s e2=59 then jT (ds++[⟨c,j,pb⟩]) (yd s (6-(n+1)) (e2+1)) else .error e2)(d:Ba s e2 j6 bad6)(e:ds.length=n)(hn:n<6)(M:WM w X br bz B s tv0 u0 (ds++[⟨c,j,pb⟩]) j6 bad6 (qp [] (ds++[⟨c,j,pb⟩]) wr) (qt (ds++[⟨c,j,pb⟩]) mx) (vm 0 (ds++[⟨c,j,pb⟩])) (ja (ds++[⟨c,j,pb⟩])) Xk zs tv u W):Pg w X br bz B s wr mx tv0 u0 (6-n) (Z_ ((n:Int)+1)) W:=by
 refine⟨n+1,by simp,M_,M_,?_⟩;rcases d with⟨rfl,b,rfl⟩|⟨rfl,b,rfl⟩
 .rw[i_ b]at a;exact .inl ⟨_,_,_,_,_,_,by simp[e],M,a⟩
 .rw[n_ b]at a;exact .inr ⟨_,_,_,_,_,_,_,_,_,M.R,M.st,M.XX,gY a⟩
def iK{x:PB×Nat}(hc:c=65+k)(a:vp 0 (65+k) ds=some x)(M:WM w X br bz B s tv0 u0 ds j6 bad6 (zC j (pb.wr (qp [] ds wr))) (pb.mx (qt ds mx)) (vm 0 ds++pb.ts (vm 0 ds).length) (ja ds++pb.us) Xk zs tv u W):WM w X br bz B s tv0 u0 (ds++[⟨c,j,pb⟩]) j6 bad6 (qp [] (ds++[⟨c,j,pb⟩]) wr) (qt (ds++[⟨c,j,pb⟩]) mx) (vm 0 (ds++[⟨c,j,pb⟩])) (ja (ds++[⟨c,j,pb⟩])) Xk zs tv u W:=by
 have hm:c∈[]++ds.map PD.letter:=by
  by_cases h:c∈ds.map PD.letter
  .simpa using h
  .rw[hc,<- uG 0,a]at h;cases h
 refine⟨?_,M.D.again (d:=⟨c,j,pb⟩) hc a (λ_ h=>h),M.XX,M.st⟩;rw[tO,i_ hm,nk,nj,nz,bp_];exact M.R
def YG{so o nn:Int}{fv:Ax}{sb:BA}{a:Nat}{xs:Az}(l:k<6)(hc:c=65+k)(e:vp 0 (65+k) ds=none)(M:WM w X br bz B s tv0 u0 ds j6 bad6 (pb.wr (qp [] ds wr)) (pb.mx (qt ds mx)) (vm 0 ds++pb.ts (vm 0 ds).length) (ja ds++pb.us) Xk zs tv u W)(own:W.ownsRow B 60 10 fv a xs)(b:∀g,fv.ownBlock=some g->Xk g)(m:∀q v g,q<6->zs[5*q+1]?=some v->v.ownBlock=some g->fv.ownBlock≠some g)(f:nc s (vm 0 ds).length pb so a xs sb o nn):WM w X br bz B s tv0 u0 (ds++[⟨c,j,pb⟩]) j6 bad6 (qp [] (ds++[⟨c,j,pb⟩]) wr) (qt (ds++[⟨c,j,pb⟩]) mx) (vm 0 (ds++[⟨c,j,pb⟩])) (ja (ds++[⟨c,j,pb⟩])) Xk (mS zs (5*k) (.int .u8 so) fv (.string sb) (Z_ o) (Z_ nn)) tv u (laid W bz k (.int .u8 so) fv (.string sb) (Z_ o) (Z_ nn)):=by
 have hm:c∉[]++ds.map PD.letter:=by
  rw[hc,br_];exact(uG 0 _ _).1 e
 obtain⟨R,st⟩:=M.R.laid k (.int .u8 so) fv (.string sb) (Z_ o) (Z_ nn);refine⟨?_,xV.add (d:=⟨c,j,pb⟩) (M.D.step M.R st) l hc e (λ_ h=>h) (zk own st.fr (λg hg=>M.R.offS (b g hg))) b m f,M.XX,M.st.trans st⟩;rw[tO,n_ hm,nk,nj,nz,bp_];exact R
end
def cwdL1_{p:Prop}(h:p:=by
 (try have:=cc1;obtain⟨t,j'⟩:=q)
 rw[hp]at hsc;replace hp:=zy hp;refine tr_ 8 (λW=>z_ W br 3 (P_ bz)) ?_;refine tb_ 0 rfl K_ (λ_ _ _ h=>h) xq_ xi_ ?_;refine tb_ 1 rfl K_ (λ_ _ _ h=>h) xq_ xi_ ?_;refine tb_ 2 rfl K_ (λ_ _ _ h=>h) xq_ xi_ ?_;refine tb_ 3 rfl K_ (λ_ _ _ h=>h) xq_ xi_ ?_;refine tb_ 4 rfl K_ (λ_ _ _ h=>h) xq_ xi_ ?_;refine yz 5 rfl K_ (λ_=>c3) (λK hK=>?_);go_simp;apply hT.o.mono;intro e w8 hh;unfold yc at hh;rw[hp.o]at hh;(first|(have:=cc1;obtain⟨rfl,tv8,u8,R8,st8⟩:=hh)|(obtain⟨⟨v,rfl⟩,mx8,ts8,us8,tv8,u8,R8,hl8,st8⟩:=hh));refine hK _ _ ?_;clear hK K;have c38:=R8.here.c3;have z38:w8.cell? ⟨bz,31,none⟩=some rt:=by rw[R8.z.cell];exact hrt
 have g38:=R8.z.th 31;(first|(have:=cc1;obtain⟨v,hv⟩:∃v:Nat,v=(vm 0 ds).length+(flat (vm 0 ds).length t).length-1:=⟨_,rfl⟩;rw[<- hv];replace hv:=zy hv;have S8:=(M1.st.si (zw.drew W1)).trans st8;have D8:=(M1.D.step M1.R (zI.oS (zw.drew W1))).step (M1.R.si (zw.drew W1)) st8;have S9:=zy (S8.trans (R8.setZ 30 (I_ v)).2);have D9:=zy ((D8.step R8 (R8.setZ 30 (I_ v)).2).root (I_ v)))|(have S9:=zy ((M1.st.si (zw.drew W1)).trans (st8.trans (R8.setZ 30 (I_ v)).2))));have R9:=(R8.setZ 30 (I_ v)).1;have hXX:=M1.XX;(try have:=cc1;have hr9:=zy (show(zs'.set 30 (I_ v))[30]?=some (I_ v) by simp[List.getElem?_set];omega));refine t1_ 6 c38 ?_;refine t1_ 7 c38 ?_;refine t1_ 8 c38 ?_;refine td_ ?_ _;obtain⟨c09,c19,c29⟩:=R9.here.d3;have f29:=R9.here.th 2;(first|(have:=cc1;by_cases hlt:j'<s.size)|(by_cases hlt:k<s.size))
 ·(first|(have:=cc1;have hlt':(j':Int)<(s.size:Int):=M_)|(have hlt':(k:Int)<(s.size:Int):=M_));go_wp2;go_quiet (fail);go_wp2;first|go_end0|refine bodyPost_ret (results_none rfl _ _ _) rfl ?_
  rw[Q_.o];refine⟨rfl,?_⟩;(first|(have:=cc1;have key:=λ(W:World) (hW:zw (w8.setCell ⟨bz,30+1,none⟩ (I_ v)) W)=>qG (wr:=wg) (mx:=mx) (by rw[hsc.o,i_ hlt]) (R9.si hW).sp.1 ((S9.o.si hW).trans (R9.si hW).sp.2) hXX)|(have key:=λ(W:World) (hW:zw (w8.setCell ⟨bz,30+1,none⟩ (I_ v)) W)=>qG (wr:=wg) (mx:=mx) hsc.o (R9.si hW).sp.1 ((S9.o.si hW).trans (R9.si hW).sp.2) hXX));exact key _ x2_
 ·(first|(have:=cc1;have hlt':¬(j':Int)<(s.size:Int):=M_)|(have hlt':¬(k:Int)<(s.size:Int):=M_));go_wp2;go_quiet (fail);go_wp2;first|go_end0|refine bodyPost_ret (results_none rfl _ _ _) rfl ?_
  rw[Q_.o];refine⟨rfl,?_⟩;(first|(have:=cc1;have key:=λ(W:World) (hW:zw (w8.setCell ⟨bz,30+1,none⟩ (I_ v)) W)=>VP (wr:=wg) (mx:=mx) (j':=j') hsc.o hlt R9.il ⟨R9.si hW,D9.o.step R9 (zI.oS hW),hXX,S9.o.si hW⟩ (hv.o▸hr9.o))|(have key:=λ(W:World) (hW:zw (w8.setCell ⟨bz,30+1,none⟩ (I_ v)) W)=>qG (wr:=wg) (mx:=mx) hsc.o (R9.si hW) (S9.o.si hW) hXX));exact key _ x2_):p:=h
def dL{w:Aw}{X:Au}{br bz B:Nat}{s:BA}{mx:Int}{zs:Az}{tv u:Ax}(R:Rep w X br bz B s 0 false wg mx [] [] zs tv u)(hD:xV w X B s zs []):Calls prog 23 #[P_ br] w λe w'=>e=.returned (.tuple #[])/\je w X br bz B s wg mx tv u w':=by
 have f7:=R.sl;have a6:Pg w X br bz B s wg mx tv u 7 (O_) w:=⟨0,rfl,M_,M_,.inl ⟨[],0,X,zs,tv,u,rfl,⟨R,hD,λ_ h=>h,zI.refl _ _ _ _ _⟩,(re _).symm⟩⟩;replace a6:=zy a6;obtain⟨e3,Q_⟩:=y_ (λ(e:Ending) (w':World)=>e=.returned (.tuple #[])/\je w X br bz B s wg mx tv u w');rw[<- Q_.o];go_in;go_wp2_with fail;go_loopg [2] 7 (λm nv W=>Pg w X br bz B s wg mx tv u m nv W);case atStart=>exact a6
 case round=>
  obtain⟨n,rfl,f6,d6,hA|hC⟩:=hrel
  .obtain⟨ds,j,Xk,zs',tv',u',b7,M,a1⟩:=hA;obtain⟨c0,c1,c2⟩:=M.R.here.d3;have f0:=M.R.il;obtain⟨c,hc⟩:=x_ (bt s j);have e9:c<256:=by rw[<- hc];exact qD _ _
   by_cases a2:n<6/\(65<=c/\c<=70)/\j+1<s.size
   .obtain⟨hn,d1,d2⟩:=a2;have F:=zy (Vj a1 hn hc ⟨d1,d2⟩);replace M:=zy M;replace hc:=zy hc;have a3:H_ (∀q,Calls prog 40 #[P_ br] (wr.drewN q) λe w'=>e=.returned (U_ c)/\∃m,w'=(wr.drewN q).drewN m):=λq=>zR (M.o.R.si (zw.drewN wr q)) hc;have a4:H_ (∀(q:Nat) (b:Bool),(decide ((65:Int)<=(c:Int))&&decide ((c:Int)<=70))=b->Calls prog 39 #[U_ c,.int .u8 65,.int .u8 70] (wr.drewN q) λe w'=>e=.returned (.bool b)/\w'=wr.drewN q):=λq b hb=>by rw[<- hb];exact ya _ _ _ _
    have G:=zy (show(decide ((65:Int)<=(c:Int))&&decide ((c:Int)<=70))=true by simp;omega);have h1:(n:Int)<6:=M_;have h3:(j:Int)+1<(s.size:Int):=M_;have I:j<s.size:=M_;go_wp2_with fail;go_quiet (first|(go_at_call 40;exact Calls.quiet_of (a3.o _))|(go_at_call 39;exact Calls.quiet_of_same (a4.o _ _ G)));go_wp2_with fail;have M1:=M.o.si (zw.drewN wr nq);generalize wr.drewN nq=W1 at M1⊢;replace M1:=zy M1;by_cases a0:bt s (j+1)=61
    .rw[i_ a0]at F;go_wp2_with (first
      |(go_at_call 40;apply(zR M1.o.R hc).mono;rintro e w2 ⟨rfl,a9⟩;have a:=M1.o.si a9;have b8:=a.R.here.c1;have d0:=a.R.here.th 1;replace a:=zy a)
      |(go_at_call 41;apply(yT 61 (a.o.R.inc I).1 rfl D_).mono;rintro e w3 ⟨rfl,r,O⟩;rw[i_ a0]at r;have l:=(a.o.call (a.o.R.inc I).1 (a.o.R.inc I).2).call r O;have a7:=l.R.here.c2;replace l:=zy l))
     have hD:=zy (rg l.o.R);cases E:xu s (j+2) with
     |error k=>
      rw[E]at F;replace E:=zy E;go_wp2_with (go_at_call 42;apply hD.o.mono;rintro e J ⟨so,fv,sb,o,nn,b9,xs,e0,u4,rfl,Q,H,U,N⟩;simp only[gB];rw[E.o]at N;obtain⟨y,sn,A,rfl⟩:=zW H;obtain⟨g0,e1,e4,e5,L⟩:=N;have d:=l.o.held Q L (.int .u8 so) (.slice y sn A) (.string sb) (Z_ o) (Z_ nn);have Y:=d.R.here.c2;unfold held at Y;replace d:=zy d);first|go_end0|refine bodyPost_ret (results_none rfl _ _ _) rfl ?_
      rw[Q_.o];exact⟨rfl,qG (gY F) d.o.R d.o.st d.o.XX⟩
     |ok q=>
      obtain⟨pb,e2⟩:=q;rw[E]at F;replace E:=zy E;go_wp2_with (go_at_call 42;apply hD.o.mono;rintro e J ⟨so,fv,sb,o,nn,b9,xs,e0,u4,rfl,Q,H,U,N⟩;simp only[gB];rw[E.o]at N;obtain⟨y,sn,A,rfl⟩:=zW H;obtain⟨a8,L⟩:=N;have d7:=zy (λq v g hq e b b'=>absurd (l.o.D.lt hq e b) (Nat.not_lt.2 (U g b').1):∀q v g,q<6->zs'[5*q+1]?=some v->v.ownBlock=some g->(Value.slice y sn A).ownBlock≠some g);have d:=l.o.held Q L (.int .u8 so) (.slice y sn A) (.string sb) (Z_ o) (Z_ nn);have Y:=d.R.here.c2;unfold held at Y;have b4:=zy (zk H (cV J (.int .u8 so) (.slice y sn A) (.string sb) (Z_ o) (Z_ nn) N_) (λ_ _ h=>h));have B5:=zy (lS J (.int .u8 so) (.slice y sn A) (.string sb) (Z_ o) (Z_ nn));replace d:=zy d;replace a8:=zy a8);apply(yT 59 d.o.R rfl D_).mono;rintro e S ⟨rfl,r⟩;obtain⟨j6,bad6,r,a5,hO⟩:=Qf r;have f:=d.o.call r a5;have B6:=a5.fr.bl B5 (d.o.R.offS (.inr rfl));have b5:=zk b4 a5.fr (λg hg=>d.o.R.offS (.inl (.inr hg)));obtain⟨k,hk⟩:∃k:Nat,c=65+k:=⟨c-65,M_⟩;have f1:(c:Int)-65=(k:Int):=M_;have b6:k<6:=M_;have f2:(k:Int)<6:=M_;obtain⟨d8,e7,f9,o',n',e6,xs',hz,_,_,hl⟩:=f.D.2 k b6;have z6:S.cell? ⟨bz,1+k*5,none⟩=some (.int .u8 d8):=by
       rw[f.R.z.cell,show 1+k*5=(5*k+0)+1 by omega,ab_];exact hz 0 M_
      have Z:=f.R.here.c3;obtain⟨b0,b1,b2,b3,V⟩:=B6.d5;generalize J.heap.size=bd at *;replace f:=zy f;replace B6:=zy B6;replace b5:=zy b5;replace hO:=zy hO;replace hk:=zy hk;cases C:vp 0 (65+k) ds with
      |none=>
       rw[C]at hl;obtain⟨hl,_⟩:=hl;subst hl;replace C:=zy C;have T:∀p,p<5->∃v,S.cell? ⟨bz,1+k*5+p,none⟩=some v:=λp hp=>by
        have e8:=f.o.D.1;rw[f.o.R.z.cell,show 1+k*5+p=(5*k+p)+1 by omega,ab_];exact⟨_,ak_ M_⟩
       obtain⟨y1,g1⟩:=T 1 M_;obtain⟨y2,g2⟩:=T 2 M_;obtain⟨y3,g3⟩:=T 3 M_;obtain⟨y4,g4⟩:=T 4 M_;have t0:=f.o.R.z.th (1+k*5);have t1:=f.o.R.z.th (1+k*5+1);have t2:=f.o.R.z.th (1+k*5+2);have t3:=f.o.R.z.th (1+k*5+3);have t4:=f.o.R.z.th (1+k*5+4);go_wp2_with fail;refine tr_ 9 (λW=>z_ W br 3 (P_ bz)/\z_ W bd 0 (.int .u8 so)/\z_ W bd 1 (.slice y sn A)/\z_ W bd 2 (.string sb)/\z_ W bd 3 (Z_ o)/\z_ W bd 4 (Z_ nn)) ?_;refine tb_ 0 rfl K_ (λ_ _ _ h=>h) xq_ xk_ ?_;refine tb_ 1 rfl K_ (λ_ _ _ h=>h) xq_ xk_ ?_;refine tb_ 2 rfl K_ (λ_ _ _ h=>h) xq_ xk_ ?_;refine tb_ 3 rfl K_ (λ_ _ _ h=>h) xq_ xk_ ?_;refine tb_ 4 rfl K_ (λ_ _ _ h=>h) xq_ xk_ ?_;refine tb_ 5 rfl K_ (λ_ _ _ h=>h) xq_ xk_ ?_;refine t1_ 6 ⟨Z,b0,b1,b2,b3,V⟩ ?_;refine t1_ 7 ⟨Z,b0,b1,b2,b3,V⟩ ?_;refine t1_ 8 ⟨Z,b0,b1,b2,b3,V⟩ ?_;refine t1_ 9 ⟨Z,b0,b1,b2,b3,V⟩ ?_;refine td_ ?_ _;go_wp2_with fail;go_roundg (6-n);case measure=>omega
       case rel=>exact mj F hO b7 hn (YG b6 hk C (f.o.si (zw.drew S)) (zk b5 ((A_ S N_).si (zw.drew S)) (λ_ _ h=>h)) (λg hg=>.inl (.inr hg)) d7 a8)
      |some x=>
       rw[C]at hl;have f8:=hl.sort;replace hl:=zy hl;replace C:=zy C;go_wp2_with (go_at_call 24;apply(qK f.o.R).mono;rintro e w7 ⟨rfl,hW,d9⟩);go_roundg (6-n);case measure=>omega
       case rel=>exact mj F hO b7 hn (iK hk C (f.o.call hW d9))
    .rw[n_ a0]at F;go_wp2_with (first
      |(go_at_call 40;apply(zR M1.o.R hc).mono;rintro e w2 ⟨rfl,a9⟩;have a:=M1.o.si a9;have b8:=a.R.here.c1;have d0:=a.R.here.th 1;replace a:=zy a)
      |(go_at_call 41;apply(yT 61 (a.o.R.inc I).1 rfl D_).mono;rintro e w3 ⟨rfl,r,O⟩;rw[n_ a0]at r;have l:=(a.o.call (a.o.R.inc I).1 (a.o.R.inc I).2).call r O;have a7:=l.R.here.c2;replace l:=zy l))
     first|go_end0|refine bodyPost_ret (results_none rfl _ _ _) rfl ?_
     rw[Q_.o];exact⟨rfl,qG (gY F) l.o.R l.o.st l.o.XX⟩
   .have f:yd s 6 0=.ok (ds,j):=by
     rw[a1];by_cases hn:n=6
     .subst hn;simp[yd,jT]
     .rw[show 6-n=(5-n)+1 by omega,wV,n_ (λh=>a2 ⟨M_,by have:=h.1;rw[hc]at this;simp only[zZ,a0_,decide_eq_true_eq]at this;exact this,h.2⟩)]
    replace f:=zy f;replace M:=zy M;replace hc:=zy hc;have a3:H_ (∀q,Calls prog 40 #[P_ br] (wr.drewN q) λe w'=>e=.returned (U_ c)/\∃m,w'=(wr.drewN q).drewN m):=λq=>zR (M.o.R.si (zw.drewN wr q)) hc;have a4:H_ (∀(q:Nat) (b:Bool),(decide ((65:Int)<=(c:Int))&&decide ((c:Int)<=70))=b->Calls prog 39 #[U_ c,.int .u8 65,.int .u8 70] (wr.drewN q) λe w'=>e=.returned (.bool b)/\w'=wr.drewN q):=λq b hb=>by rw[<- hb];exact ya _ _ _ _
    obtain⟨y,G⟩:∃b,(decide ((65:Int)<=(c:Int))&&decide ((c:Int)<=70))=b:=⟨_,rfl⟩;have E:decide ((n:Int)<6)=false\/((n:Int)<6/\y=false)\/((n:Int)<6/\y=true/\decide ((j:Int)+1<(s.size:Int))=false):=by
     by_cases h1:n<6
     .by_cases d:65<=c/\c<=70
      .exact .inr (.inr ⟨M_,by rw[<- G];simp;omega,decide_eq_false M_⟩)
      .exact .inr (.inl ⟨M_,by rw[<- G];simp;omega⟩)
     .exact .inl (decide_eq_false M_)
    have hsc:=zy (eh f);have H:=M.o.D.1;obtain⟨rt,hrt⟩:∃v,zs'[30]?=some v:=⟨_,ak_ M_⟩;replace G:=zy G;replace a2:=zy a2;rcases E with h1|⟨h1,d⟩|⟨h1,d,h3⟩;all_goals try subst d
    all_goals
     go_wp2_with fail;go_quiet (first|(go_at_call 40;exact Calls.quiet_of (a3.o _))|(go_at_call 39;exact Calls.quiet_of_same (a4.o _ _ G)));go_wp2_with fail;have M1:=M.o.si (zw.drewN wr nq);generalize wr.drewN nq=W1 at M1⊢;have c3:=M1.R.here.c3;have hT:=zy (VH M1.R.il _ _ _ _ _ _ _ _ _ _ _ _ (M1.R.si (zw.drew W1)));cases hp:pT s j with
     |error k=>
      exact cwdL1_
     |ok q=>
      have cc1:=Nat;exact cwdL1_
  .obtain⟨k,Xk,zs',tv',u',F,MX,TS,US,a,r,A,l⟩:=hC;have c2:=a.here.c2;revert a r l;refine h_ λa r l=>?_;have key:=zy (λ(W:World) (hW:zw wr W)=>qG (wr:=wg) (mx:=mx) l (a.o.si hW) (r.o.si hW) A);by_cases hn:n<6
   .have C:(n:Int)<6:=M_;go_wp2_with fail;go_quiet (fail);go_wp2_with fail;first|go_end0|refine bodyPost_ret (results_none rfl _ _ _) rfl ?_
    rw[Q_.o];exact⟨rfl,key.o _ x2_⟩
   .have C:decide ((n:Int)<6)=false:=decide_eq_false M_;go_wp2_with fail;go_quiet (fail);go_wp2_with fail;first|go_end0|refine bodyPost_ret (results_none rfl _ _ _) rfl ?_
    rw[Q_.o];exact⟨rfl,key.o _ x2_⟩
def LAt(w:Aw)(bl:Nat)(s:BA)(bz:Nat)(pl:Ap)(i:Nat)(bad:Ap):Prop:=
 Blk w bl [.string s,I_ i,.bool bad,P_ bz,.bool pl] 165
section
variable {w w':Aw} {bl:Nat} {s:BA} {bz:Nat} {pl:Ap} {i:Nat} {bad:Ap}
def LAt.c0(h:LAt w bl s bz pl i bad):w.cell? ⟨bl,0,none⟩=some (.string s):=by rw[G_ h];rfl
def LAt.c1(h:LAt w bl s bz pl i bad):w.cell? ⟨bl,1,none⟩=some (I_ i):=by rw[G_ h];rfl
def LAt.c2(h:LAt w bl s bz pl i bad):w.cell? ⟨bl,2,none⟩=some (.bool bad):=by rw[G_ h];rfl
def LAt.c3(h:LAt w bl s bz pl i bad):w.cell? ⟨bl,3,none⟩=some (P_ bz):=by rw[G_ h];rfl
def LAt.c4(h:LAt w bl s bz pl i bad):w.cell? ⟨bl,4,none⟩=some (.bool pl):=by rw[G_ h];rfl
def LAt.th(h:LAt w bl s bz pl i bad)(o:Nat):w.frozen? ⟨bl,o,none⟩=false:=Blk.th h o
def LAt.si(h:LAt w bl s bz pl i bad)(a:zw w w'):LAt w' bl s bz pl i bad:=by obtain⟨n,rfl⟩:=a;exact h
def LAt.inc(h:LAt w bl s bz pl i bad):LAt (w.setCell ⟨bl,1,none⟩ (Z_ ((i:Int)+1))) bl s bz pl (i+1) bad:=C_ h 1 _
def LAt.sp(h:LAt w bl s bz pl i bad):LAt (w.setCell ⟨bl,2,none⟩ (.bool true)) bl s bz pl i true:=C_ h 2 _
end
def lk(s:BA)(i:Nat)(bad:Ap):Nat:=if bad=true then 0 else bt s i
def xv{w:Aw}{bl:Nat}{s:BA}{bz:Nat}{pl:Ap}{i:Nat}{bad:Ap}(h:LAt w bl s bz pl i bad)(_hs:s.size<=4000)(a:i<=s.size):Calls prog 104 #[P_ bl] w λe w'=>e=.returned (.int .u8 (lk s i bad:Int))/\zw w w':=by
 obtain⟨c0,c1,c2⟩:=h.d3;cases bad with
 |true=>
  go_in;go_wp2;go_quiet (fail);go_wp2;go_ret;exact⟨by simp[lk],_,rfl⟩
 |false=>
  by_cases hl:i<s.size
  .have a:(i:Int)<(s.size:Int):=M_;go_in;go_wp2;go_quiet (fail);go_wp2;go_quiet (fail);go_wp2;go_ret;exact⟨by simp[lk,vS s i hl],(zw.drewN _ _).trans (zw.drewN _ _)⟩
  .go_in;go_wp2;go_quiet (fail);go_wp2;go_ret;refine⟨?_,⟨_,rfl⟩⟩;have:bt s i=0:=by
    by_cases h0:bt s i=0
    .exact h0
    .exact absurd (zr M_) hl
   simp[lk,this]
def kF(w:Aw)(bl:Nat)(s:BA)(bz:Nat)(pl:Ap)(i:Nat)(bad:Ap)(d:Nat)(w':Aw):Prop:=
 (if lk s i bad=d then LAt w' bl s bz pl (i+1) bad/\i<s.size else LAt w' bl s bz pl i true)/\Fr w w' (· = bl)
def xX{w:Aw}{bl:Nat}{s:BA}{bz:Nat}{pl:Ap}{i:Nat}{bad:Ap}{c:Int}(d:Nat)(h:LAt w bl s bz pl i bad)(hs:s.size<=4000)(g:i<=s.size)(hd:c=(d:Int))(o:0<d):Calls prog 103 #[P_ bl,.int .u8 c] w λe w'=>e=.returned (.tuple #[])/\kF w bl s bz pl i bad d w':=by
 subst hd;go_in;go_wp2_with (go_at_call 104;apply(xv h hs g).mono;rintro e w' ⟨rfl,f⟩;have a:=h.si f;have c1:=a.c1;have c2:=a.c2;have l:=a.th 1;have m:=a.th 2)
 .go_end0;rename_i hc;have b:lk s i bad=d:=zj_
  refine⟨rfl,?_,((A_ w _).si f).setCell _ _ (λ_=>rfl)⟩;rw[i_ b];refine⟨a.inc,?_⟩;unfold lk at b;split at b
  .omega
  .exact zr M_
 .go_end0;rename_i hc;refine⟨rfl,?_,((A_ w _).si f).setCell _ _ (λ_=>rfl)⟩;rw[n_ zj_];exact a.sp
def zU(lo hi:Nat)(s:BA)(i:Nat):Nat:=
 if h:i<s.size then (if lo<=bt s i/\bt s i<=hi then zU lo hi s (i+1) else i) else i
 termination_by s.size-i
def kL{lo a:Nat}{s:BA}{i:Nat}(h:i<s.size)(hb:lo<=bt s i/\bt s i<=a):zU lo a s i=zU lo a s (i+1):=by
 conv=>lhs;unfold zU
 rw[dif_pos h,i_ hb]
def vX{lo a:Nat}{s:BA}{i:Nat}(hb:¬(lo<=bt s i/\bt s i<=a)):zU lo a s i=i:=by
 unfold zU;simp[hb]
def QI(w:Aw)(bl:Nat)(s:BA)(bz:Nat)(pl:Ap)(i e:Nat)(m:Nat)(W:Aw):Prop:=
 ∃k,LAt W bl s bz pl k false/\Fr w W (· = bl)/\i<=k/\k<=s.size/\zU 97 122 s k=e/\s.size-k<=m
def kZ(w:Aw)(bl:Nat)(s:BA)(bz:Nat)(pl:Ap)(i:Nat)(bad:Ap)(e:Ah)(w':Aw):Prop:=
 ∃k,k=(if bad=true then i else zU 97 122 s i)/\i<=k/\k<=s.size/\e=.returned (.string (s.extract i k))/\LAt w' bl s bz pl k bad/\Fr w w' (· = bl)
def Zv{w W:Aw}{bl:Nat}{s:BA}{bz:Nat}{pl:Ap}{i k:Nat}(h:LAt W bl s bz pl k false)(a:Fr w W (· = bl))(b:i<=k)(d:k<=s.size)(he:zU 97 122 s k=zU 97 122 s i)(ho:¬(97<=bt s k/\bt s k<=122)):kZ w bl s bz pl i false (.returned (.string (s.extract i k))) W:=
 ⟨k,by rw[n_ D_,<- he,vX ho],b,d,rfl,h,a⟩
def cwkn1_{p:Prop}(h:p:=by
 (first|(have:=cc1;have n9:(decide ((48:Int)<=(d:Int))&&decide ((d:Int)<=57))=true:=x4_)|(have n9:(decide ((97:Int)<=(c:Int))&&decide ((c:Int)<=122))=true:=x4_))
 have hk:k<s.size:=zr M_;(first|(have:=cc1;have ho:=zy (he.o.symm.trans (kL hk (by rw[hd];exact hin))))|(have hlk:=zy (show lk s k false=c by simp[lk,hc]);have ho:=zy (he.o.symm.trans (kL hk (by rw[hc];exact hin)))));replace h1:=zy h1;replace hf:=zy hf;(first|(have:=cc1)|(replace hc:=zy hc));replace n9:=zy n9;go_wp2_with (first
  |(go_at_call 104;apply(xv h1.o hs hks).mono;rintro e w2 ⟨rfl,hw2⟩;(first|(have:=cc1;rw[hlk1.o])|(rw[hlk.o]));have h2:=h1.o.si hw2;have c1:=h2.c1;have f1:=h2.th 1;replace h2:=zy h2)
  |(go_at_call 39;apply(ya _ _ _ _).mono;rintro e w' ⟨rfl,hw'⟩;rw[hw',n9.o]))
 go_roundg (s.size-(k+1));case measure=>omega
 case rel=>exact⟨k+1,h2.o.inc,(hf.o.si hw2).setCell _ _ (λ_=>rfl),M_,M_,ho.o.symm,l_⟩):p:=h
def kn{w:Aw}{bl:Nat}{s:BA}{bz:Nat}{pl:Ap}{i:Nat}{bad:Ap}(h:LAt w bl s bz pl i bad)(hs:s.size<=4000)(b:i<=s.size):Calls prog 106 #[P_ bl] w (kZ w bl s bz pl i bad):=by
 obtain⟨m,a⟩:=y_ (kZ w bl s bz pl i bad);rw[<- a.o];have c1:=h.c1;cases bad with
 |true=>
  replace h:=zy h;go_in;go_wp2;go_loopg [] 0 (λ_ W=>zw w W);case atStart=>exact zw.refl w
  case round=>
   have h1:=zy (h.o.si hrel);have n9:=zy (show(decide ((97:Int)<=((lk s i true:Nat):Int))&&decide (((lk s i true:Nat):Int)<=122))=false by simp[lk]);have f:(i:Int)<=(s.size:Int):=M_;replace hrel:=zy hrel;go_wp2_with (first
    |(go_at_call 104;apply(xv h1 hs b).mono;rintro e w2 ⟨rfl,hw2⟩;have h2:=h1.o.si hw2;have c0:=h2.c0;have c1:=h2.c1;replace h2:=zy h2)
    |(go_at_call 39;apply(ya _ _ _ _).mono;rintro e w' ⟨rfl,hw'⟩;rw[hw',n9.o]))
   go_quiet (fail);go_wp2;try go_ret
   rw[a.o];exact⟨i,by simp,l_,b,by simp,h2.o.si (zw.drewN _ _),(((A_ w _).si hrel).si hw2).si (zw.drewN _ _)⟩
 |false=>
  have f:=zy (⟨i,h,A_ _ _,l_,b,rfl,l_⟩:QI w bl s bz pl i (zU 97 122 s i) (s.size-i) w);replace h:=zy h;go_in;go_wp2;go_loopg [] (s.size-i) (λn W=>QI w bl s bz pl i (zU 97 122 s i) n W);case atStart=>exact f
  case round=>
   obtain⟨k,h1,hf,g,hks,he,hm⟩:=hrel;obtain⟨c,hc⟩:=x_ (bt s k);replace he:=zy he;by_cases hin:97<=c/\c<=122
   .exact cwkn1_
   .have n9:(decide ((97:Int)<=(c:Int))&&decide ((c:Int)<=122))=false:=x4_
    have hlk:=zy (show lk s k false=c by simp[lk,hc]);have l:=zy (show ¬(97<=bt s k/\bt s k<=122) by rw[hc];exact hin);replace h1:=zy h1;replace hf:=zy hf;replace hc:=zy hc;replace n9:=zy n9;have b:(i:Int)<=(k:Int):=M_;have b:(k:Int)<=(s.size:Int):=M_;go_wp2_with (first
     |(go_at_call 104;apply(xv h1 hs hks).mono;rintro e w2 ⟨rfl,hw2⟩;rw[hlk.o];have h2:=h1.o.si hw2;have c0:=h2.c0;have c1:=h2.c1;replace h2:=zy h2)
     |(go_at_call 39;apply(ya _ _ _ _).mono;rintro e w' ⟨rfl,hw'⟩;rw[hw',n9.o]))
    go_quiet (fail);go_wp2;try go_ret
    rw[a.o];exact Zv (h2.o.si (zw.drewN _ _)) ((hf.o.si hw2).si (zw.drewN _ _)) g hks he l
def qO(c:Nat)(neg:Ap):BA:=
 if c=105 then (if neg=true then ⟨#[50,49,52,55,52,56,51,54,52,56]⟩ else ⟨#[50,49,52,55,52,56,51,54,52,55]⟩)
 else (if neg=true then ⟨#[57,50,50,51,51,55,50,48,51,54,56,53,52,55,55,53,56,48,56]⟩ else ⟨#[57,50,50,51,51,55,50,48,51,54,56,53,52,55,55,53,56,48,55]⟩)
def XL(c:Nat)(neg:Ap)(w:Aw):Calls prog 148 #[U_ c,.bool neg] w λe w'=>e=.returned (.string (qO c neg))/\w'=w:=by
 obtain⟨T,a⟩:=y_ (qO c neg);rw[<- a.o];by_cases hc:c=105
 .subst hc;cases neg;all_goals
   go_in;go_wp2;go_ret;exact⟨by rw[a.o];rfl,rfl⟩
 .have b:((c:Int)==105)=false:=x4_
  have hd:=zy (show qO c neg=(if neg=true then ⟨#[57,50,50,51,51,55,50,48,51,54,56,53,52,55,55,53,56,48,56]⟩ else ⟨#[57,50,50,51,51,55,50,48,51,54,56,53,52,55,55,53,56,48,55]⟩) by unfold qO;rw[n_ hc]);cases neg;all_goals
   go_in;go_wp2;go_ret;exact⟨by rw[a.o,hd.o];rfl,rfl⟩
def sgn(s:BA)(i:Nat):Nat:=if bt s i=45 then i+1 else i
def QR(w:Aw)(bl:Nat)(s:BA)(bz:Nat)(pl:Ap)(i e:Nat)(m:Nat)(W:Aw):Prop:=
 ∃k,LAt W bl s bz pl k false/\Fr w W (· = bl)/\i<=k/\k<=s.size/\zU 48 57 s k=e/\s.size-k<=m
def kh(kd:Nat)(neg:Ap)(t:BA):Prop:=
 0<t.size/\¬(bt t 0=48/\(1<t.size\/neg=true))/\t.size<=(qO kd neg).size/\(t.size=(qO kd neg).size->(!Op.bytesLess t.toList (qO kd neg).toList && !(t.toList==(qO kd neg).toList))=false)
def ce(neg:Ap)(x:Int)(d:Nat):Int:=if neg=true then wrap64 (wrap64 (10*x)-wrap64 (wrap64 (d:Int)-48)) else wrap64 (wrap64 (10*x)+wrap64 (wrap64 (d:Int)-48))
def lY(neg:Ap)(t:BA):Nat->Int
 | 0=>0
 |a+1=>ce neg (lY neg t a) (bt t a)
def fP(w:Aw)(bl:Nat)(s:BA)(bz:Nat)(pl:Ap)(i kd:Nat)(e:Ah)(w':Aw):Prop:=
 ∃k neg t,neg=((bt s i:Int)==45)/\t=s.extract (sgn s i) k/\k=zU 48 57 s (sgn s i)/\i<=k/\k<=s.size/\Fr w w' (· = bl)/\
  ((kh kd neg t/\i<k/\LAt w' bl s bz pl k false/\e=.returned (Z_ (lY neg t t.size)))\/(¬kh kd neg t/\LAt w' bl s bz pl k true/\e=.returned (O_)))
def li{w:Aw}{bl:Nat}{s:BA}{bz:Nat}{pl:Ap}{i kd:Nat}(h:LAt w bl s bz pl i false)(hs:s.size<=4000)(hi:i<=s.size):Calls prog 105 #[.pointer (some ⟨bl,0,none⟩),.int .u8 (kd:Int)] w (fP w bl s bz pl i kd):=by
 obtain⟨b8,p⟩:∃P,H_ (P=fP w bl s bz pl i kd):=⟨_,rfl⟩;rw[<- p.o];obtain⟨c,hc⟩:∃c,bt s i=c:=⟨_,rfl⟩;have hlk:=zy (show lk s i false=c by simp[lk,hc]);obtain⟨neg,hneg⟩:∃b,((c:Int)==45)=b:=⟨_,rfl⟩;obtain⟨g,l⟩:∃k,k=sgn s i:=⟨_,rfl⟩;have b4:g<=s.size/\i<=g/\g<=i+1:=by
  rw[l];unfold sgn;split
  .rename_i d1;have:=zr (s:=s) (i:=i) M_;omega
  .omega
 replace h:=zy h;replace hc:=zy hc;replace hneg:=zy hneg;have b6:=hneg.o;replace l:=zy l;go_in;go_upto_if 15 with(go_at_call 104;refine(xv h.o hs hi).mono ?_;rintro e w2 ⟨rfl,hw2⟩;rw[hlk.o];have h2:=h.o.si hw2;have c1:=h2.c1;have f1:=h2.th 1;replace h2:=zy h2);go_cut [] (λW=>LAt W bl s bz pl g false/\Fr w W (· = bl));case first=>
  cases hb:neg
  .subst hb;go_wp2_with fail;go_meet;case rel=>
    refine⟨?_,(A_ w _).si hw2⟩;have K:g=i:=by rw[l.o];unfold sgn;rw[if_neg z4_]
    rw[K];exact h2.o
  .subst hb;go_wp2_with fail;go_meet;case rel=>
    refine⟨?_,((A_ w _).si hw2).setCell _ _ (λ_=>rfl)⟩;have K:g=i+1:=by rw[l.o];unfold sgn;rw[if_pos z4_]
    rw[K];exact h2.o.inc
 case rest=>
  clear c1 f1 h2 hw2;obtain⟨G,N⟩:=hcut;have c1:=G.c1;have a3:=zy (show QR w bl s bz pl g (zU 48 57 s g) (s.size-g) wc from⟨g,G,N,l_,b4.1,rfl,l_⟩);replace G:=zy G;replace N:=zy N;go_wp2_with fail;clear c1;go_loopg [] (s.size-g) (λn W=>QR w bl s bz pl g (zU 48 57 s g) n W);case atStart=>exact a3.o
  case round=>
   clear a3;obtain⟨k,h1,hf,d9,hks,he,hm⟩:=hrel;obtain⟨d,hd⟩:∃c,bt s k=c:=⟨_,rfl⟩;replace he:=zy he;have hlk1:=zy (show lk s k false=d by simp[lk,hd]);by_cases hin:48<=d/\d<=57
   .have cc1:=Nat;exact cwkn1_
   .have n9:(decide ((48:Int)<=(d:Int))&&decide ((d:Int)<=57))=false:=x4_
    have O:=zy (show ¬(48<=bt s k/\bt s k<=57) by rw[hd];exact hin);replace h1:=zy h1;replace hf:=zy hf;replace n9:=zy n9;have e0:(g:Int)<=(k:Int):=M_;have e1:(k:Int)<=(s.size:Int):=M_;go_wp2_with (first
     |(go_at_call 104;refine(xv h1.o hs hks).mono ?_;rintro e w2 ⟨rfl,hw2⟩;rw[hlk1.o];have h2:=h1.o.si hw2;have c0:=h2.c0;have c1:=h2.c1;have f2:=h2.th 2;have c2:=h2.c2;replace h2:=zy h2)
     |(go_at_call 39;refine(ya _ _ _ _).mono ?_;rintro e w' ⟨rfl,hw'⟩;rw[hw',n9.o]))
    go_quiet (fail);obtain⟨t,q⟩:∃t,s.extract g k=t:=⟨_,rfl⟩;obtain⟨f,D⟩:∃t,qO kd neg=t:=⟨_,rfl⟩;go_wp2_with fail;have e5:t.size<=4000:=by rw[<- q];simp;omega
    have r:H_ (∀W:World,Calls prog 148 #[.int .u8 (kd:Int),.bool neg] W λe w'=>e=.returned (.string f)/\w'=W):=λW=>by rw[<- D];exact XL _ _ _
    rw[q];replace q:=zy q;replace D:=zy D;have y:=zy (λ(hn:¬kh kd neg t) (W:World) (C:zw w2 W)=>show fP w bl s bz pl i kd (.returned (Z_ 0)) (W.setCell ⟨bl,2,none⟩ (.bool true)) from
     ⟨k,neg,t,by rw[hc.o];exact hneg.o.symm,by rw[<- l.o];exact q.o.symm,by rw[<- l.o,<- he.o];exact(vX O.o).symm,M_,hks,((hf.o.si hw2).si C).setCell _ _ (λ_=>rfl),.inr ⟨hn,(h2.o.si C).sp,rfl⟩⟩)
    have T:=zy (λ(hn:kh kd neg t) (W:World) (C:zw w2 W)=>show fP w bl s bz pl i kd (.returned (Z_ (lY neg t t.size))) W from
     ⟨k,neg,t,by rw[hc.o];exact hneg.o.symm,by rw[<- l.o];exact q.o.symm,by rw[<- l.o,<- he.o];exact(vX O.o).symm,M_,hks,(hf.o.si hw2).si C,.inl ⟨hn,by have S:=hn.1;rw[<- q.o]at S;simp at S;omega,h2.o.si C,rfl⟩⟩)
    have z:=zy (show kh kd neg t↔(0<t.size/\¬(bt t 0=48/\(1<t.size\/neg=true))/\t.size<=f.size/\(t.size=f.size->(!Op.bytesLess t.toList f.toList && !(t.toList==f.toList))=false)) by rw[<- D.o];rfl);by_cases h0:t.size=0
    .have F:(t.size:Int)=0:=M_;have m:=zy (y.o (λh=>by have:=h.1;omega));go_wp2_with (go_at_call 148;refine(r.o _).mono ?_;rintro e w' ⟨rfl,hw'⟩;rw[hw']);try go_ret
     rw[p.o];exact m.o _ (zw.drewN _ _)
    .have F:0<t.size:=M_;have b9:((t.size:Int)==0)=false:=y0_
     obtain⟨b,hb⟩:∃b:Nat,((t[0]'F).toNat:Int)=(b:Int):=⟨_,rfl⟩;have M:=zy (show bt t 0=b by rw[vS t 0 F];exact Int.ofNat_inj.1 hb);obtain⟨lt,Y⟩:∃x,Op.bytesLess t.toList f.toList=x:=⟨_,rfl⟩;obtain⟨A,U⟩:∃x,(t.toList==f.toList)=x:=⟨_,rfl⟩;by_cases hz:b=48/\(1<t.size\/neg=true)
     .obtain⟨rfl,hz⟩:=hz;by_cases h1:1<t.size
      .have a4:(1:Int)<(t.size:Int):=M_;have m:=zy (y.o (λh=>by have:=z.o.1 h;exact this.2.1 ⟨M.o,.inl h1⟩));go_wp2_with (go_at_call 148;refine(r.o _).mono ?_;rintro e w' ⟨rfl,hw'⟩;rw[hw']);try go_ret
       rw[p.o];exact m.o _ (zw.drewN _ _)
      .have a4:¬(1:Int)<(t.size:Int):=M_;have Z:neg=true:=by rcases hz with h|h;exact absurd h h1;exact h
       have m:=zy (y.o (λh=>by have:=z.o.1 h;exact this.2.1 ⟨M.o,.inr Z⟩));subst Z;go_wp2_with (go_at_call 148;refine(r.o _).mono ?_;rintro e w' ⟨rfl,hw'⟩;rw[hw']);try go_ret
       rw[p.o];exact m.o _ (zw.drewN _ _)
     .have Q:((b:Int)==48)=false\/(((b:Int)==48)=true/\(t.size:Int)<=1/\neg=false):=by
       by_cases R:b=48
       .refine .inr ⟨by simp;omega,?_,?_⟩
        .by_cases h1:1<t.size
         .exact absurd ⟨R,.inl h1⟩ hz
         .omega
        .cases hn:neg
         .rfl
         .exact absurd ⟨R,.inr hn⟩ hz
       .exact .inl x4_
      have a2:=zy (show ¬(bt t 0=48/\(1<t.size\/neg=true)) by rw[M.o];exact hz);clear hz;by_cases d8:f.size<t.size
      .have a9:(f.size:Int)<(t.size:Int):=M_;have m:=zy (y.o (λh=>by have:=z.o.1 h;omega));rcases Q with E|⟨E,a0,rfl⟩;all_goals
        go_wp2_with (go_at_call 148;refine(r.o _).mono ?_;rintro e w' ⟨rfl,hw'⟩;rw[hw']);try go_ret
        rw[p.o];exact m.o _ (zw.drewN _ _)
      .have a9:¬(f.size:Int)<(t.size:Int):=M_;by_cases I:t.size=f.size/\(!lt && !A)=true
       .obtain⟨a8,L⟩:=I;have d7:(f.size:Int)=(t.size:Int):=M_;have m:=zy (y.o (λh=>by have:=(z.o.1 h).2.2.2 a8;rw[Y,U,L]at this;cases this));have hl:lt=false/\A=false:=by revert L;cases lt<;>cases A<;>simp
        obtain⟨rfl,rfl⟩:=hl;clear L;rcases Q with E|⟨E,a0,rfl⟩;all_goals
         go_wp2_with (go_at_call 148;refine(r.o _).mono ?_;rintro e w' ⟨rfl,hw'⟩;rw[hw']);try go_ret
         rw[p.o];exact m.o _ (zw.drewN _ _)
       .have a1:=zy (T.o (z.o.2 ⟨F,a2.o,M_,λhe=>by
         cases hx:(!Op.bytesLess t.toList f.toList && !(t.toList==f.toList))
         .rfl
         .exact absurd ⟨he,by rw[<- Y,<- U];exact hx⟩ I⟩))
        have b7:(((t.size:Int)==(f.size:Int))=false)\/((f.size:Int)=(t.size:Int)/\lt=true)\/((f.size:Int)=(t.size:Int)/\lt=false/\A=true):=by
         by_cases he:t.size=f.size
         .cases lt
          .cases A
           .exact absurd ⟨he,rfl⟩ I
           .exact .inr (.inr ⟨M_,rfl,rfl⟩)
          .exact .inr (.inl ⟨M_,rfl⟩)
         .exact .inl y0_
        clear I y T;obtain⟨V,H⟩:∃V:Nat->Int,V=lY neg t:=⟨_,rfl⟩;have a5:=zy (show V 0=0 by rw[H];rfl);have a6:=zy (show ∀a,V (a+1)=ce neg (V a) (bt t a) by rw[H];intro a;rfl);rw[<- H]at a1;clear H;clear z a2 b6 hneg l O he hlk hlk1;cases neg<;>rcases b7 with q1|⟨q1,rfl⟩|⟨q1,rfl,rfl⟩<;>rcases Q with E|⟨E,a0,b5⟩
        all_goals try(cases b5;done)
        all_goals
         go_wp2_with (go_at_call 148;refine(r.o _).mono ?_;rintro e w' ⟨rfl,hw'⟩;rw[hw']);go_loopg [9,10] t.size (λn v iv W=>zw w2 W/\∃a:Nat,iv=Z_ (a:Int)/\v=Z_ (V a)/\a<=t.size/\t.size-a<=n);case atStart=>exact⟨zw.drewN _ _,0,rfl,by rw[a5.o],M_,M_⟩
         case round=>
          obtain⟨J,a,rfl,rfl,d6,e3⟩:=hrel;replace J:=zy J;by_cases ha:a<t.size
          .have a7:(a:Int)<(t.size:Int):=M_;have e4:((t[a]'ha).toNat:Int)=(bt t a:Int):=by rw[vS t a ha]
           go_wp2_with fail;go_roundg (t.size-(a+1));case measure=>omega
           case rel=>exact⟨J.o,a+1,by simp,by rw[a6.o];rfl,M_,l_⟩
          .have a7:¬(a:Int)<(t.size:Int):=M_;have d2:a=t.size:=M_;go_wp2_with fail;try go_ret
           rw[p.o];exact a1.o _ J.o
inductive DT where
 |mk (k:Nat) (n:Int) (tx:BA) (ks:List BA) (ds:List DT)
 deriving Inhabited
abbrev Cg:=Option DT
abbrev Cf:=Option (DT×Nat)
abbrev Ds:=Option (List DT×Nat)
abbrev Ak:=List DT
abbrev Cr:=Option (List (BA×DT)×Nat)
abbrev Cz:=PT->PT->DT->Option DT
abbrev Ad:=PF->Option DT
abbrev Ae:=List (BA×DT)
abbrev Al:=Nat->Option (DT×Nat)
abbrev Ag:=PT->Nat->Option (DT×Nat)
def noB:BA:=⟨#[]⟩
instance (kd:Nat) (neg:Bool) (t:BA):Decidable (kh kd neg t):=by unfold kh;infer_instance
def yY(s:BA)(i:Nat):Nat:=zU 48 57 s (sgn s i)
def xP(s:BA)(i:Nat):Bool:=((bt s i:Int)==45)
def yv(s:BA)(i:Nat):BA:=s.extract (sgn s i) (yY s i)
def vg(s:BA)(kd i:Nat):Option (Int×Nat):=
 if kh kd (xP s i) (yv s i) then some (lY (xP s i) (yv s i) (yv s i).size,yY s i) else none
def zX(s:BA)(i:Nat):Nat:=zU 97 122 s i
def kH(last:Dw)(k:BA):Bool:=match last with|none=>true|some l=>Op.bytesLess l.toList k.toList
def kR(s:BA)(keyed:Ap)(last:Dw)(i:Nat):Option (BA×Nat):=
 if keyed=true then
  if bt s (zX s i)=58/\kH last (s.extract i (zX s i))=true then some (s.extract i (zX s i),zX s i+1) else none
 else some (noB,i)
def yZ(R:Al)(s:BA)(fin:Nat)(keyed:Ap):Nat->Option BA->Nat->Option (List (BA×DT)×Nat)
 | 0,_,_=>none
 |n+1,last,i=>
  match kR s keyed last i with
  |none=>none
  |some (k,i1)=>
   match R i1 with
   |none=>none
   |some (d,j)=>
    if bt s j=fin then some ([(k,d)],j+1)
    else if bt s j=44 then
     match yZ R s fin keyed n (some k) (j+1) with
     |none=>none
     |some (l,e)=>some ((k,d)::l,e)
    else none
def qc(R:Al)(s:BA)(fin:Nat)(keyed:Ap)(i:Nat):Option (List (BA×DT)×Nat):=
 if bt s i=fin then some ([],i+1) else yZ R s fin keyed (s.size+2) none i
def zH(R:Ag)(s:BA):Bool->List PT->Nat->Option (List DT×Nat)
 | _,[],i=>some ([],i)
 |first,t::r,i=>
  if first=true then
   match R t i with
   |none=>none
   |some (d,j)=>match zH R s false r j with|none=>none|some (ds,e)=>some (d::ds,e)
  else if bt s i=44 then
   match R t (i+1) with
   |none=>none
   |some (d,j)=>match zH R s false r j with|none=>none|some (ds,e)=>some (d::ds,e)
  else none
def yg(R:Ag)(s:BA)(pb:PB)(i:Nat):Option (DT×Nat):=
 match pb with
 | .recd fs=>
  if bt s i=40 then
   match zH R s true (fs.map PF.ty) (i+1) with
   |none=>none
   |some (ds,j)=>if bt s j=41 then some (.mk 114 0 noB [] ds,j+1) else none
  else none
 | .enum l _=>
  if i<s.size then
   match (l.map Prod.fst).findIdx? (λc=>c==bt s i) with
   |none=>none
   |some q=>some (.mk 101 q noB [] [],i+1)
  else none
 | .bytes n=>
  if bt s i=39/\zX s (i+1)-(i+1)=n/\bt s (zX s (i+1))=39 then some (.mk 102 0 (s.extract (i+1) (zX s (i+1))) [] [],zX s (i+1)+1) else none
def jd(s:BA)(i:Nat):Nat:=min (zU 48 57 s i) (i+3)
def rm(s:BA)(i:Nat):Nat->Nat
 | 0=>0
 |n+1=>10*rm s i n+(bt s (i+n)-48)
def jZ(R:Ag)(s:BA)(pl:Ap)(ts:Af)(i:Nat):Option (DT×Nat):=
 if pl=true then
  match ts with
  | []=>none
  |t::_=>match R t i with|none=>none|some (d,j)=>some (.mk 40 0 noB [] [d],j)
 else if bt s i=60/\jd s (i+1)≠i+1/\¬(bt s (i+1)=48/\jd s (i+1)-(i+1) > 1)/\bt s (jd s (i+1))=58 then
  match ts[rm s (i+1) (jd s (i+1)-(i+1))]? with
  |none=>none
  |some t=>
   match R t (jd s (i+1)+1) with
   |none=>none
   |some (d,j)=>if bt s j=62 then some (.mk 40 (rm s (i+1) (jd s (i+1)-(i+1)):Nat) noB [] [d],j+1) else none
 else none
def xr(R:Ag)(s:BA)(env:Ay)(c i:Nat):Option (DT×Nat):=
 if c=110 then (if bt s i=78 then some (.mk 110 0 noB [] [],i+1) else none)
 else if c=116 then (if bt s i=84 then some (.mk 116 1 noB [] [],i+1) else if bt s i=70 then some (.mk 116 0 noB [] [],i+1) else none)
 else if c=105\/c=108 then (match vg s c i with|none=>none|some (n,j)=>some (.mk c n noB [] [],j))
 else if c=115 then (if bt s i=34/\bt s (zX s (i+1))=34 then some (.mk 115 0 (s.extract (i+1) (zX s (i+1))) [] [],zX s (i+1)+1) else none)
 else match env c with|none=>none|some pb=>yg R s pb i
def xO(R:Al)(s:BA)(c i:Nat):Option (DT×Nat):=
 if bt s i=c then
  match qc R s (xl c) (c==123) (i+1) with
  |none=>none
  |some (l,j)=>some (.mk c 0 noB (if (c==123)=true then l.map Prod.fst else []) (l.map Prod.snd),j)
 else none
def rdT(s:BA)(env:Ay)(pl:Ap):Nat->PT->Nat->Option (DT×Nat)
 | 0,_,_=>none
 |f+1,.leaf c _,i=>xr (rdT s env pl f) s env c i
 |f+1,.wrap c _ t,i=>xO (rdT s env pl f t) s c i
 |f+1,.alts _ ts,i=>jZ (rdT s env pl f) s pl ts i
def VY(s:BA)(R:Al):Prop:=∀i d j,R i=some (d,j)->i<j/\j<=s.size
def xz(lo a:Nat)(s:BA):∀n i,s.size-i<=n->i<=zU lo a s i/\(i<=s.size->zU lo a s i<=s.size):=by
 intro n;induction n with
 |zero=>intro i h;rw[zU,dif_neg M_];exact⟨l_,λh=>h⟩
 |succ n ih=>
  intro i h;rw[zU];split
  .split
   .have:=ih (i+1) M_;exact⟨M_,λ_=>this.2 M_⟩
   .exact⟨l_,λh=>h⟩
  .exact⟨l_,λh=>h⟩
def vM(s:BA)(i:Nat):i<=zX s i:=(xz 97 122 s _ i l_).1
def cO{s:BA}{keyed:Ap}{a:Dw}{i:Nat}{k:BA}{j:Nat}(h:kR s keyed a i=some (k,j)):i<=j:=by
 unfold kR at h;split at h
 .split at h
  .simp only[ae_,ac_]at h;have:=vM s i;omega
  .simp at h
 .simp only[ae_,ac_]at h;omega
def cq21_{p:Prop}(h:p:=by
 intro n;induction n with
 |zero=>intro b i l j h;simp[yZ]at h
 |succ n ih=>
  intro b i l j h;unfold yZ at h;split at h
  .simp at h
  .rename_i k g hk;have h1:=cO hk;split at h
   .simp at h
   .rename_i d a hd;have f:=hR _ _ _ hd;split at h
    ·(first|(have:=cc1;simp only[ae_,ac_]at h)|(rename_i hb));(first|(have:=cc1;obtain⟨rfl,rfl⟩:=h)|(have:=zr (s:=s) (i:=a) M_));(first|(have:=cc1;simp only[aw_,a5_,zM])|(simp only[ae_,ac_]at h));omega
    .split at h
     .split at h
      .simp at h
      .rename_i m e he;have:=ih _ _ _ _ he;simp only[ae_,ac_]at h;(try have:=cc1;obtain⟨rfl,rfl⟩:=h;simp only[aw_,zM]);omega
     .simp at h):p:=h
def nD{s:BA}{R:Al}(hR:VY s R){fin:Nat}(hf:0<fin){keyed:Ap}:∀(n:Nat) (last:Option BA) (i:Nat) (l:List (BA×DT)) (j:Nat),yZ R s fin keyed n last i=some (l,j)->i<j/\j<=s.size:=by
 exact cq21_
def cwrO1_{p:Prop}(h:p:=by
 (first|(have:=cc1;intro hR first i l j h;have ih:=ih (λt b=>hR t (cb_ _ b)))|(intro first i l j hi h))
 unfold zH at h;split at h
 .split at h
  .simp at h
  .rename_i d f hd;(first|(have:=cc1;have a:=hR _ bi_ _ _ _ hd)|(have a:=hR _ _ _ _ hd));split at h
   .simp at h
   .rename_i g e he;(first|(have:=cc1;have:=ih _ _ _ _ he)|(have:=ih _ _ _ _ a.2 he));simp only[ae_,ac_]at h;(try have:=cc1;obtain⟨rfl,rfl⟩:=h;simp only[zM]);omega
 .split at h
  .split at h
   .simp at h
   .rename_i d f hd;(first|(have:=cc1;have a:=hR _ bi_ _ _ _ hd)|(have a:=hR _ _ _ _ hd));split at h
    .simp at h
    .rename_i g e he;(first|(have:=cc1;have:=ih _ _ _ _ he)|(have:=ih _ _ _ _ a.2 he));simp only[ae_,ac_]at h;(try have:=cc1;obtain⟨rfl,rfl⟩:=h;simp only[zM]);omega
  .simp at h):p:=h
def rO{s:BA}{R:Ag}(hR:∀t,VY s (R t)):∀(ts:List PT) (first:Bool) (i:Nat) (l:List DT) (j:Nat),i<=s.size->zH R s first ts i=some (l,j)->i<=j/\j<=s.size:=by
 intro ts;induction ts with
 |nil=>intro first i l j hi h;simp[zH]at h;omega
 |cons t r ih=>
  exact cwrO1_
def nR{s:BA}{R:Ag}(a:∀t,VY s (R t))(pb:PB):VY s (yg R s pb):=by
 intro i d j h;unfold yg at h;split at h
 .split at h
  .rename_i hb;have h0:=zr (s:=s) (i:=i) M_;split at h
   .simp at h
   .rename_i ds b hd;have h1:=rO a _ _ _ _ _ M_ hd;split at h
    .rename_i hc;have:=zr (s:=s) (i:=b) M_;simp only[ae_,ac_]at h;omega
    .simp at h
  .simp at h
 .split at h
  .split at h
   .simp at h
   .simp only[ae_,ac_]at h;omega
  .simp at h
 .split at h
  .rename_i hb;have:=zr (s:=s) (i:=zX s (i+1)) M_;have:=vM s (i+1);simp only[ae_,ac_]at h;omega
  .simp at h
def ao(c:Nat):0<xl c:=by unfold xl;split<;>omega
def cA{s:BA}{kd i:Nat}{n:Int}{j:Nat}(h:vg s kd i=some (n,j)):i<j/\j<=s.size:=by
 unfold vg at h;split at h
 .rename_i hn;simp only[ae_,ac_]at h;have h0:=hn.1;have hs:i<=sgn s i:=by unfold sgn;split<;>omega
  unfold yv at h0;rw[a3_]at h0;have hg:=xz 48 57 s _ (sgn s i) l_;unfold yY at *;rw[<- h.2];refine⟨M_,hg.2 M_⟩
 .simp at h
def qv(s:BA)(env:Ay)(pl:Ap)(f:Nat):∀t,VY s (rdT s env pl f t):=by
 induction f with
 |zero=>intro t i d j h;simp[rdT]at h
 |succ f ih=>
  intro t i d j h;cases t with
  |leaf c p=>
   simp only[rdT]at h;unfold xr at h;have one:∀{k x},bt s i=k->0<k->some (x,i+1)=some (d,j)->i<j/\j<=s.size:=λhb h0 h=>by
    have:=zr (s:=s) (i:=i) M_;simp only[ae_,ac_]at h;omega
   split at h
   .split at h
    .rename_i hb;exact one hb M_ h
    .simp at h
   .split at h
    .split at h
     .rename_i hb;exact one hb M_ h
     .split at h
      .rename_i hb;exact one hb M_ h
      .simp at h
    .split at h
     .split at h
      .simp at h
      .rename_i n a hn;have:=cA hn;simp only[ae_,ac_]at h;omega
     .split at h
      .split at h
       .rename_i hb;have:=zr (s:=s) (i:=zX s (i+1)) M_;have:=vM s (i+1);simp only[ae_,ac_]at h;omega
       .simp at h
      .split at h
       .simp at h
       .exact nR ih _ _ _ _ h
  |wrap c p t=>
   simp only[rdT]at h;unfold xO at h;split at h
   .split at h
    .simp at h
    .rename_i l a hl;simp only[ae_,ac_]at h;unfold qc at hl;have hc:=ao c;split at hl
     .rename_i hb;have:=zr (s:=s) (i:=i+1) M_;simp only[ae_,ac_]at hl;omega
     .have:=nD (ih t) hc _ _ _ _ _ hl;omega
   .simp at h
  |alts p ts=>
   simp only[rdT]at h;unfold jZ at h;split at h
   .split at h
    .simp at h
    .split at h
     .simp at h
     .rename_i b a hd;have:=ih _ _ _ _ hd;simp only[ae_,ac_]at h;omega
   .split at h
    .rename_i hb;have hg:=(xz 48 57 s _ (i+1) l_).1;have e:i+1<=jd s (i+1):=by unfold jd;omega
     split at h
     .simp at h
     .split at h
      .simp at h
      .rename_i b a hd;have h1:=ih _ _ _ _ hd;split at h
       .rename_i hc;have:=zr (s:=s) (i:=a) M_;simp only[ae_,ac_]at h;omega
       .simp at h
    .simp at h
end Go.Proofs.YtahhhgbojlkjnaaGreatDoor
