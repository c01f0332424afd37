import Derived.Test.YtlmebjdmdogmfaaGreatDoorW07
import Derived.Laws.BitsLemmas
import Derived.Laws.BytesArg
import Derived.Lib.ItoaLen
set_option linter.unusedVariables false
set_option maxHeartbeats 16000000
set_option maxRecDepth 100000
set_option linter.defProp false
set_option linter.unusedSimpArgs false
open Go.Proofs.Tryz
namespace Go.Proofs.YtlmebjdmdogmfaaGreatDoor
open Go.RowKit
variable {v ex:Ax}{q acc u:Nat}{et:Av}{S:Az}{t:PT}
def nZ:∀(l:List (List Value)),(∀x∈l,x.length=10)->∀(q p:Nat) (x:List Value),l[q]?=some x->p<10->l.flatten[10*q+p]?=x[p]?
 | [],_,q,p,x,h,_=>by simp at h
 |y::r,hl,q,p,x,h,hp=>by
  have hy:=hl y x7_;rw[List.flatten_cons];cases q with
  |zero=>
   simp only[aa_,af_]at h;subst h;rw[Nat.mul_zero,bu_,ar_ M_]
  |succ q=>
   rw[ab_]at h;rw[as_ M_,show 10*(q+1)+p-y.length=10*q+p by omega];exact nZ r (λz hz=>hl z (by simp[hz])) q p x h hp
def az{s:BA}{b:Nat}{fs:An}{num:Nat}{f:PF}(hf:fs[q]?=some f)(hn:(jN b (fs.map PF.ty))[q]?=some num)(p:Nat)(hp:p<10):(yC s b fs)[10*q+p]?=(iL s f num)[p]?:=by
 unfold yC;refine nZ _ (λx hx=>?_) q p _ ?_ hp
 .obtain⟨i,hi⟩:=bw_ hx;rw[List.getElem?_zipWith]at hi;split at hi
  .simp only[af_]at hi;subst hi;rfl
  .cases hi
 .rw[List.getElem?_zipWith,hf,hn]
def Ws{s:BA}{ts:Ap}{b:Nat}{fs:An}(h:cQ ts (jN b (fs.map PF.ty)) (fs.map PF.ty)):GQ s ts fs (yC s b fs):=by
 intro q f hf;obtain⟨num,hn,e⟩:=XD h q f.ty zn_;have a:=λp hp=>az (s:=s) hf hn p hp;refine⟨⟨num,e,a 1 M_⟩,a 0 M_,a 2 M_,?_,?_,λp g e=>?_⟩
 .rw[a 3 M_];rfl
 .rw[a 4 M_];rfl
 .rw[a p e]
  match p,g,e with
  | 5,_,_=>exact⟨_,rfl,_,rfl⟩
  | 6,_,_=>exact⟨_,rfl,_,rfl⟩
  | 7,_,_=>exact⟨_,rfl,_,rfl⟩
  | 8,_,_=>exact⟨_,rfl,_,_,_,rfl⟩
  | 9,_,_=>exact⟨_,rfl,_,_,_,rfl⟩
def QF{w W:Aw}{X Xk:Az}{br bz B:Nat}{s:BA}{tv0 u0 tv u:Ax}{ds:Ar}{j:Nat}{bad:Aq}{wg MX:Int}{G:Ap}{US:As}{zs:Ay}{rt:Ax}(M:WM w X br bz B s tv0 u0 ds j bad wg MX (xI 0 ds++G) US Xk zs tv u W)(H:zs[30]?=some rt):SZ W (λg=>g<W.heap.size/\¬Xk g) (λg=>Xk g/\B<=g) bz s (xI 0 ds++G) (zx ds) rt:=by
 obtain⟨xs,hx,hk⟩:=M.R.tys;refine⟨λg hg h=>h.2 hg.1,⟨M.R.z.lt,λh=>(M.R.av _ h).2.2.1 rfl⟩,tv,zs,M.R.z,H,⟨xs,yl hx,λg e=>⟨(hx.lt g e).2,λh=>(M.R.av g h).2.2.2.1 e⟩,λk t G=>?_⟩,λk H=>?_⟩
 .obtain⟨sv,a,b,c,d⟩:=hk k t G;exact⟨sv,a,b,yl c.1,λg e=>⟨(c.1.lt g e).2,λh=>d g h e⟩⟩
 .obtain⟨so,fv,sb,o,n,G,ys,h1,C,G,A⟩:=M.D.2 k H;have E:∀g,fv.ownBlock=some g->Xk g/\B<=g:=λg e=>⟨G g e,(C.lt g e).1⟩;cases hl:vh 0 (65+k) ds with
  |none=>
   rw[hl]at A;obtain⟨F,rfl⟩:=A;have he:zx ds (65+k)=none:=by unfold zx;rw[hl];rfl
   have hf:xK (zx ds) k=[]:=zd_
   refine⟨so,fv,sb,o,n,ys,h1,by rw[hf];exact yl C,E,by rw[hf];intro q f y;simp at y,by rw[he];exact F⟩
  |some q=>
   obtain⟨pb,b⟩:=q;rw[hl]at A;have he:zx ds (65+k)=some pb:=by unfold zx;rw[hl];rfl
   obtain⟨G,e',I⟩:=FB hl;cases pb with
   |recd fs=>
    obtain⟨d1,rfl,rfl,_⟩:=A;have hf:xK (zx ds) k=fs:=zd_
    refine⟨so,fv,sb,o,n,_,h1,by rw[hf];exact yl C,E,?_,by rw[he];exact d1⟩;rw[hf];refine Ws (fO _ _ _ (λq x y=>?_));have:=I q x y;rw[e',bu_,ar_ (aj_.1 this).1];exact this
   |enum l un=>
    obtain⟨d1,rfl,F,d3,_⟩:=A;have hf:xK (zx ds) k=[]:=zd_
    exact⟨so,fv,sb,o,n,ys,h1,by rw[hf];exact yl C,E,by rw[hf];intro q f y;simp at y,by rw[he];exact⟨d1,F,d3⟩⟩
   |bytes m=>
    obtain⟨d1,rfl,_,F⟩:=A;have hf:xK (zx ds) k=[]:=zd_
    exact⟨so,fv,sb,o,n,ys,h1,by rw[hf];exact yl C,E,by rw[hf];intro q f y;simp at y,by rw[he];exact⟨d1,F⟩⟩
def Kf(ts:Ap)(t:PT):isT (ts++flat ts.length t) (ts.length+(flat ts.length t).length-1) t:=
 rb _ t _ (λq x a=>by rw[as_ M_,cf_];exact a)
def xC.sortAt{W:Aw}{X:Az}{B:Nat}{s:BA}{zs:Ay}{ds:Ar}(h:xC W X B s zs ds){k:Nat}(hk:k<6):∃so:Int,zs[5*k]?=some (.int .u8 so)/\(so==0)=(zx ds (65+k)).isNone:=by
 obtain⟨so,fv,sb,o,n,a,ys,h1,a,a,a⟩:=h.2 k hk;refine⟨so,h1 0 M_,?_⟩;unfold zx;cases hl:vh 0 (65+k) ds with
 |none=>rw[hl]at a;rw[a.1];rfl
 |some q=>
  obtain⟨pb,b⟩:=q;rw[hl]at a;have:=a.sort;simp only[bc_,Option.isNone_some,beq_eq_false_iff_ne];exact this
mutual
def ur:∀(t:PT),shT t->∀u∈zZ t,zY u.1=true
 | .leaf c p,h,u,hu=>by
  simp only[zZ]at hu;cases hb:zi c with
  |true=>rw[hb]at hu;simp at hu
  |false=>
   rw[hb]at hu;simp only[bh_,if_false,a0_]at hu;subst hu;simp only[shT,hb]at h;exact h.resolve_left D_
 | .wrap c p t,h,u,hu=>ur t h.2 u hu
 | .alts p l,h,u,hu=>kT l h.2 u hu
def kT:∀(l:List PT),eS l->∀u∈zX l,zY u.1=true
 | [],_,u,hu=>by simp[zX]at hu
 |t::r,h,u,hu=>by
  simp only[zX]at hu;rcases a1_.1 hu with hu|hu
  .exact ur t h.1 u hu
  .exact kT r h.2 u hu
end
def XY:∀(l:List PT),(∀t∈l,shT t)->eS l
 | [],_=>trivial
 |t::r,h=>⟨h t (by simp),XY r (λu hu=>h u (by simp[hu]))⟩
def nS{N:Nat}:∀(ds:List PD),(∀d∈ds,shB N d.body)->∀u∈jm ds,zY u.1=true
 | [],_,u,hu=>by simp[jm]at hu
 |d::r,h,u,hu=>by
  simp only[jm]at hu;rcases a1_.1 hu with hu|hu
  .have hb:=h d x7_;cases hd:d.body with
   |recd fs=>
    rw[hd]at hb hu;refine kT _ (XY _ (λt a=>?_)) u hu;obtain⟨f,hf,rfl⟩:=a5_.1 a;exact hb.1 f hf
   |enum l o=>rw[hd]at hu;simp[PB.us]at hu
   |bytes n=>rw[hd]at hu;simp[PB.us]at hu
  .exact nS r (λd hd=>h d (by simp[hd])) u hu
def mh{us:As}{p:Nat×Nat}(h:us[q]?=some p):(jc us)[2*q]?=some (U_ p.1)/\(jc us)[2*q+1]?=some (I_ p.2):=by
 induction us generalizing q with
 |nil=>simp at h
 |cons x r ih=>
  cases q with
  |zero=>simp only[aa_,af_]at h;subst h;exact⟨rfl,rfl⟩
  |succ q=>
   rw[ab_]at h;obtain⟨a,b⟩:=ih h;refine⟨?_,?_⟩
   .rw[show 2*(q+1)=2*q+1+1 by omega];exact a
   .rw[show 2*(q+1)+1=2*q+1+1+1 by omega];exact b
def QX{env:Au}{us:As}{u:Nat×Nat}(h:us[q]?=some u)(m:Int):wrU env (us.take (q+1)) m=if (env u.1).isNone=true then zF (u.2:Int) (wrU env (us.take q) m) else wrU env (us.take q) m:=by
 rw[a7_,h];unfold wrU;rw[List.foldl_append];rfl
def zu(s:BA):Int×Int:=
 if 300<s.size then (1,0)
 else match ze s with
  | .error k=>(2,(k:Int))
  | .ok (ds,t)=>
   if 0<=wrU (zx ds) (jm ds++zZ t) (qy [] ds (-1)) then (3,wrU (zx ds) (jm ds++zZ t) (qy [] ds (-1)))
   else if 0<=mix t (qp ds (-1)) then (4,mix t (qp ds (-1)))
   else if 0<=xk s (zx ds) 6 then (5,xk s (zx ds) 6)
   else (0,0)
def Gh(W:Aw)(lo:Nat)(s:BA)(zv:Ax):Prop:=
 ∃(bz:Nat) (ds:List PD) (t:PT) (ts:List TR) (root:Nat) (P1 P2:Nat->Prop),zv=P_ bz/\ze s=.ok (ds,t)/\SZ W P1 P2 bz s ts (zx ds) (I_ root)/\isT ts root t/\qW (zx ds)/\okT (zx ds) t/\
  (∀g,P1 g\/P2 g->g<W.heap.size)/\(∀g,P2 g->lo<=g)/\ts=xI 0 ds++flat (xI 0 ds).length t/\ts.length<=300
def kH(w:Aw)(s:BA)(e:Ak)(w':Aw):Prop:=
 ∃zv,e=.returned (.tuple #[zv,Z_ (zu s).1,Z_ (zu s).2])/\Fr w w' N_/\if (zu s).1=0 then Gh w' w.heap.size s zv else zv=.pointer none
def eQ:List Value:=zS++zS++zS++zS++zS++zS++[O_]
def pw(w:Aw)(s:BA):World:=
 (w.alloc (.cells (Value.slice none 0 0::eQ).toArray 65)).alloc (.cells #[.string s,O_,.bool false,P_ w.heap.size,L_,Z_ (-1),Z_ (-1)] 68)
def BO(w:Aw)(s:BA)(hs:s.size<=300):Rep (pw w s) N_ (w.heap.size+1) w.heap.size (w.heap.size+2) s 0 false (-1) (-1) [] [] eQ (L_) (L_):=by
 refine⟨?_,(B_ w _ _).alloc _,⟨[],World.ownsRow_nil _ _ _ _,λk t a=>by simp at a⟩,World.ownsRow_nil _ _ _ _,λg hg=>by simp[Value.ownBlock]at hg,M_,M_,by simp[pw],M_,al_ _,hs,al_ _,al_ _,λg hg=>hg.elim⟩;have:=B_ (w.alloc (.cells (Value.slice none 0 0::eQ).toArray 65)) #[.string s,O_,.bool false,P_ w.heap.size,L_,Z_ (-1),Z_ (-1)] 68;have e:(w.alloc (.cells (Value.slice none 0 0::eQ).toArray 65)).heap.size=w.heap.size+1:=x7_
 rw[e]at this;exact this
def Fk(w:Aw)(s:BA):xC (pw w s) N_ (w.heap.size+2) s eQ []:=by
 refine⟨rfl,λk hk=>⟨0,L_,⟨#[]⟩,0,0,0,[],λp hp=>?_,World.ownsRow_nil _ _ _ _,λg hg=>by simp[Value.ownBlock]at hg,?_⟩⟩
 .match k,hk with
  | 0,_=>match p,hp with|0,_=>rfl|1,_=>rfl|2,_=>rfl|3,_=>rfl|4,_=>rfl
  | 1,_=>match p,hp with|0,_=>rfl|1,_=>rfl|2,_=>rfl|3,_=>rfl|4,_=>rfl
  | 2,_=>match p,hp with|0,_=>rfl|1,_=>rfl|2,_=>rfl|3,_=>rfl|4,_=>rfl
  | 3,_=>match p,hp with|0,_=>rfl|1,_=>rfl|2,_=>rfl|3,_=>rfl|4,_=>rfl
  | 4,_=>match p,hp with|0,_=>rfl|1,_=>rfl|2,_=>rfl|3,_=>rfl|4,_=>rfl
  | 5,_=>match p,hp with|0,_=>rfl|1,_=>rfl|2,_=>rfl|3,_=>rfl|4,_=>rfl
 .exact⟨rfl,rfl⟩
def PH{w w1:Aw}{s:BA}{tv u:Ax}(st:zT (pw w s) w1 (w.heap.size+1) w.heap.size (L_) (L_) tv u):Fr w w1 N_:=
 (show Fr w (pw w s) N_ from((A_ w _).alloc _).alloc _).trans st.fr (λx hx e=>by
  rcases e with e|e|e|e
  .omega
  .omega
  .simp[Value.ownBlock]at e
  .simp[Value.ownBlock]at e)
def kQ{w w1 W:Aw}{s:BA}{a b:Int}(h:zu s=(a,b))(ha:a≠0)(hf:Fr w w1 N_)(e:zq w1 W):kH w s (.returned (.tuple #[.pointer none,Z_ a,Z_ b])) W:=by
 refine⟨.pointer none,by rw[h],hf.si e,?_⟩;rw[h];rw[n_ ha]
def ah{w:Aw}{s:BA}:Calls prog 12 #[.string s] w (kH w s):=by
 refine hq_ λL E=>?_;by_cases hl:300<s.size
 .have L:(300:Int)<(s.size:Int):=M_;go_in;go_wp2;refine bodyPost_ret (v:=.tuple #[.pointer none,Z_ 1,O_]) xn_ rfl ?_;rw[E.o];exact kQ (by unfold zu;rw[i_ hl]) D_ (A_ _ _) (zq.refl _)
 .have L:¬(300:Int)<(s.size:Int):=M_;have hs:s.size<=300:=M_;have R0:=zy (BO w s hs);have Y:=zy (Fk w s);cases hp:ze s with
  |error k=>
   have b:=zy (show zu s=(2,(k:Int)) by unfold zu;rw[n_ hl,hp]);replace hp:=zy hp;go_in;go_wp2_with (go_at_call 20;apply(tQ R0 Y).mono;rintro e w1 ⟨rfl,C⟩;unfold jb at C;rw[hp.o]at C;obtain⟨Xk,zs,tv,u,wg,MX,TS,US,a,y,_⟩:=C;have a1:=a.here.c2;have A:=a.here.c1;replace a:=zy a;replace y:=zy y);go_quiet (fail);go_wp2;refine bodyPost_ret (v:=.tuple #[.pointer none,Z_ 2,I_ k]) xn_ rfl ?_;rw[E.o];exact kQ b D_ (PH y) xp_
  |ok r=>
   obtain⟨ds,t⟩:=r;obtain⟨us,H⟩:=e_ (jm ds++zZ t);have L:=jL hp;have U:∀x∈us,zY x.1=true:=λx hx=>by
    rw[H]at hx;rcases a1_.1 hx with hx|hx
    .exact nS ds L.1 x hx
    .exact ur t L.2 x hx
   replace hp:=zy hp;replace H:=zy H;replace U:=zy U;replace L:=zy L;go_in;go_wp2_with (go_at_call 20;apply(tQ R0 Y).mono;rintro e w1 ⟨rfl,C⟩;unfold jb at C;rw[hp.o]at C;obtain⟨Xk,zs,tv,u,A,T⟩:=C;rw[<- H.o]at A;have a1:=A.R.here.c2;replace A:=zy A;replace T:=zy T);obtain⟨ua,uc,rfl⟩:=zw A.o.R.uses;obtain⟨O,N⟩:=e_ (qy [] ds (-1));replace N:=zy N;have C:us.length<=300:=by have:=A.o.R.ul;omega
   have start:∃q:Nat,q<=us.length/\us.length+1-q<=us.length+1/\Value.int .i64 0=I_ q/\WM (pw w s) (λx=>False) (w.heap.size+1) w.heap.size (w.heap.size+2) s (L_) (L_) ds s.size false (wrU (zx ds) (us.take q) O) (mix t (qp ds (-1))) (xI 0 ds++flat (xI 0 ds).length t) us Xk zs tv (.slice ua us.length uc) w1:=⟨0,M_,M_,rfl,by rw[N.o];exact A⟩;replace start:=zy start;go_loopg [6] (us.length+1) (λmm A W=>∃q:Nat,q<=us.length/\us.length+1-q<=mm/\A=I_ q/\WM (pw w s) (λx=>False) (w.heap.size+1) w.heap.size (w.heap.size+2) s (L_) (L_) ds s.size false (wrU (zx ds) (us.take q) O) (mix t (qp ds (-1))) (xI 0 ds++flat (xI 0 ds).length t) us Xk zs tv (.slice ua us.length uc) W);case atStart=>exact start
   case round=>
    obtain⟨q,A,A,rfl,M⟩:=hrel;obtain⟨m,hm⟩:=x_ (wrU (zx ds) (us.take q) O);rw[hm]at M;replace hm:=zy hm;have c4:=M.R.here.c4;have c3:=M.R.here.c3;have c5:=M.R.here.c5;have c6:=M.R.here.c6;by_cases A:q<us.length
    .have a4:(q:Int)<(us.length:Int):=M_;obtain⟨x,hx⟩:∃x,us[q]?=some x:=⟨_,ai_ A⟩;have I:=U.o x (ah_ hx);have K:=zy (QX (env:=zx ds) hx O);obtain⟨Q,A,y⟩:=zg M.R.uses M_;simp only[Value.slice.injEq,true_and]at y;obtain⟨rfl,rfl⟩:=y;have G:=zr M.R.uses rfl (mh hx).1;have F:=zr M.R.uses rfl (mh hx).2;rw[bg_]at G F;obtain⟨c,L⟩:=x;simp only at G F I K;have y:65<=c/\c<=70:=by simpa[zY] using I
     obtain⟨y,A⟩:∃k,c=65+k:=⟨c-65,M_⟩;obtain⟨so,C,J⟩:=M.D.sortAt (k:=y) M_;have z0:wr.cell? ⟨w.heap.size,1+y*5,none⟩=some (.int .u8 so):=by
      rw[M.R.z.cell,show 1+y*5=5*y+1 by omega,ab_];exact C
     rw[<- A]at J;have O:=tX y c A M_;have O:(y:Int)<6:=M_;have O:(c:Int)-65=(y:Int):=M_;replace M:=zy M;replace A:=zy A;cases hb:(zx ds c).isNone with
     |true=>
      rw[hb]at J;replace hb:=zy hb;go_wp2;go_quiet (fail);have a:=zy (M.o.si (zq.drewN wr nq));have y:=a.o.R.here.c4;have y:(wr.drewN nq).cell? ⟨Q,q*2+1,none⟩=some (I_ L):=F;generalize wr.drewN nq=W2 at *;go_wp2_with (go_at_call 21;apply(qa a.o.R).mono;rintro e y ⟨rfl,y,A⟩;have C:=zy (a.o.call y A));go_roundg (us.length+1-(q+1));case measure=>omega
      case rel=>exact⟨q+1,M_,l_,by simp,by rw[K.o,hm.o,i_ hb.o];exact C⟩
     |false=>
      rw[hb]at J;replace hb:=zy hb;go_wp2;go_quiet (fail);have a:=zy (M.o.si (zq.drewN wr nq));generalize wr.drewN nq=W2 at *;go_wp2;go_roundg (us.length+1-(q+1));case measure=>omega
      case rel=>exact⟨q+1,M_,l_,by simp,by rw[K.o,hm.o,n_ zj_];exact a⟩
    .have a4:¬(q:Int)<(us.length:Int):=M_;have K:wrU (zx ds) (jm ds++zZ t) (qy [] ds (-1))=m:=by rw[<- H.o,<- N.o,<- hm.o,bb_ M_]
     obtain⟨mx,G⟩:=e_ (mix t (qp ds (-1)));simp only[<- G]at c6;have b:zu s=if 0<=m then (3,m) else if 0<=mx then (4,mx) else if 0<=xk s (zx ds) 6 then (5,xk s (zx ds) 6) else (0,0):=by
      unfold zu;rw[n_ hl,hp.o];simp only;rw[K,<- G]
     have J:=zy (PH M.st);replace K:=zy K;replace G:=zy G;by_cases A:0<=m
     .rw[i_ A]at b;replace b:=zy b;replace M:=zy M;go_wp2;go_quiet (fail);go_wp2;refine bodyPost_ret (v:=.tuple #[.pointer none,Z_ 3,Z_ m]) xn_ rfl ?_;rw[E.o];exact kQ b D_ J xp_
     .rw[n_ A]at b;by_cases A:0<=mx
      .rw[i_ A]at b;replace b:=zy b;replace M:=zy M;go_wp2;go_quiet (fail);go_wp2;refine bodyPost_ret (v:=.tuple #[.pointer none,Z_ 4,Z_ mx]) xn_ rfl ?_;rw[E.o];exact kQ b D_ J xp_
      .rw[n_ A]at b;have y:=uo (m0:=qy [] ds (-1)) (m1:=-1) hs hp (by rw[K.o];omega) (by rw[<- G.o];omega);have Z:=QF M T;have a0:=zy (show jo wr _ _ w.heap.size s _ (zx ds) _ wr from⟨Z,A_ _ _,λg hg=>hg.1,λg hg=>(M.R.av g hg.1).1⟩);have a2:¬(Xk (w.heap.size+1)/\w.heap.size+2<=w.heap.size+1):=λh=>by omega
       obtain⟨dv,F⟩:=e_ (xk s (zx ds) 6);rw[<- F]at b;replace b:=zy b;replace F:=zy F;have V:=zy M.R.here;replace M:=zy M;replace y:=zy y;by_cases a3:0<=dv
       .have I:=zy (show zu s=(5,dv) by rw[b.o,i_ a3]);go_wp2_with (go_at_call 22;apply(mI a0 hs y.o.1 (λk _=>y.o.2.2.1 k) (λk f _ hf=>y.o.2.2.2 k f hf)).mono;rintro e w2 ⟨rfl,a⟩;rw[<- F.o];have Q:=(a.fr.bl V a2).cell 3;simp only[RV.cells,aa_,ab_]at Q;replace a:=zy a);refine bodyPost_ret (v:=.tuple #[.pointer none,Z_ 5,Z_ dv]) xn_ rfl ?_;rw[E.o];exact kQ I D_ (J.o.trans a.o.fr (λx hx e=>o1_ e.2)) (zq.refl _)
       .have I:=zy (show zu s=(0,0) by rw[b.o,n_ a3]);go_wp2_with (go_at_call 22;apply(mI a0 hs y.o.1 (λk _=>y.o.2.2.1 k) (λk f _ hf=>y.o.2.2.2 k f hf)).mono;rintro e w2 ⟨rfl,a⟩;rw[<- F.o];have Q:=(a.fr.bl V a2).cell 3;simp only[RV.cells,aa_,ab_]at Q;replace a:=zy a);refine bodyPost_ret (v:=.tuple #[P_ w.heap.size,O_,O_]) xn_ rfl ?_;rw[E.o];refine⟨_,by rw[I.o],J.o.trans a.o.fr (λx hx e=>o1_ e.2),?_⟩;rw[I.o,i_ rfl];have b:=a.o.fr.size;exact⟨w.heap.size,ds,t,_,_,_,_,rfl,hp,a.o.Z,Kf _ _,y.o.1,y.o.2.1,λg hg=>by rcases hg with hg|hg;have:=a.o.l1 g hg;omega;have:=a.o.l2 g hg;omega,λg hg=>o1_ hg.2,rfl,ak_ M.o.R.tl hs⟩
def gU(s:BA)(i:Nat):∀n,n<=3->wV s i n<=22977:=by
 have b:∀k,bt s k<=255:=λk=>by
  unfold bt;split
  .have:=(s[k]' zh_).toNat_lt;omega
  .omega
 intro n hn;have b0:=b (i+0);have b1:=b (i+1);have b2:=b (i+2)
 match n,hn with
 | 0,_=>simp only[wV];omega
 | 1,_=>simp only[wV];omega
 | 2,_=>simp only[wV];omega
 | 3,_=>simp only[wV];omega
def ph(s:BA)(i k N sn:Nat):Bool:=decide (k≠i/\¬(bt s i=48/\k-i > 1)/\N<sn)
def aj{R:Aj}{s:BA}{l:Af}{i k N:Nat}(b:bt s i=60)(hk:yY s (i+1)=k)(a:wV s (i+1) (k-(i+1))=N):yQ R s false l i=if ph s (i+1) k N l.length=true/\bt s k=58 then (match l[N]? with|none=>none|some t=>match R t (k+1) with|none=>none|some (d,j)=>if bt s j=62 then some (.mk 40 (N:Int) noB [] [d],j+1) else none) else none:=by
 unfold yQ;rw[n_ D_,hk,a];unfold ph;by_cases hg:k≠i+1/\¬(bt s (i+1)=48/\k-(i+1) > 1)
 .by_cases a:bt s k=58
  .rw[i_ ⟨b,hg.1,hg.2,a⟩];by_cases hl:N<l.length
   .rw[i_ ⟨decide_eq_true ⟨hg.1,hg.2,hl⟩,a⟩];try rfl
   .rw[n_ (λh=>hl (of_decide_eq_true h.1).2.2),bj_ M_]
  .rw[n_ (λh=>a h.2.2.2),n_ (λh=>a h.2)]
 .rw[n_ (λh=>hg ⟨h.2.1,h.2.2.1⟩),n_ (λh=>hg ⟨(of_decide_eq_true h.1).1,(of_decide_eq_true h.1).2.1⟩)]
def wF:Nat->Nat->List Nat
 | 0,z=>[z]
 |f+1,z=>if z<128 then [z] else (z % 128+128)::wF f (z / 128)
def leb(z:Nat):List Nat:=wF 10 z
def bts(l:Ao):BA:=⟨(l.map UInt8.ofNat).toArray⟩
def rW(a b:Ao):bts (a++b)=bts a++bts b:=by
 unfold bts;apply ByteArray.ext;simp
def yP(l:Ao):(bts l).size=l.length:=by unfold bts;show(l.map UInt8.ofNat).toArray.size=_;simp
def kB(n:Int):Nat:=if n<0 then 2*(-(n+1)).toNat+1 else 2*n.toNat
def zH(n:Int):BA:=bts (leb (kB n))
def oc:∀f z,(wF f z).length<=f+1
 | 0,_=>by simp[wF]
 |f+1,z=>by
  unfold wF;split
  .simp
  .have:=oc f (z / 128);simp only[a3_];omega
def xo(n:Int):(zH n).size<=11:=by
 unfold zH leb;rw[yP];exact oc 10 _
mutual
def ndT:DT->Nat
 | .mk _ _ _ _ ds=>1+za ds
def za:List DT->Nat
 | []=>0
 |d::r=>ndT d+za r
end
def lR:∀a b:List DT,za (a++b)=za a+za b
 | [],b=>by simp[za]
 |d::r,b=>by simp only[bm_,za,lR r b];omega
def xR:∀ds:List DT,ds.length<=za ds
 | []=>l_
 |d::r=>by
  have:=xR r;have h1:1<=ndT d:=by obtain⟨_,_,_,_,_⟩:=d;unfold ndT;omega
  simp only[a3_,za];omega
def xJ{ds:Ae}{d:DT}(h:ds[q]?=some d):za (ds.take (q+1))=za (ds.take q)+ndT d/\za (ds.take q)+ndT d<=za ds:=by
 have e:ds.take (q+1)=ds.take q++[d]:=by rw[a7_,h];rfl
 have a:za (ds.take (q+1))=za (ds.take q)+ndT d:=by rw[e,lR];simp[za]
 refine⟨a,?_⟩;rw[<- a];conv=>rhs;rw[<- List.take_append_drop (q+1) ds,lR]
 omega
def mH{m:Nat}:∀(n:Nat) (X:Nat->List Value),(∀i,i<n->(X i).length=m)->∀q j,q<n->j<m->((List.range n).flatMap X)[q*m+j]?=(X q)[j]?:=by
 intro n;induction n with
 |zero=>intro X _ q j a;omega
 |succ n ih=>
  intro X hX q j a b;have hl:((List.range n).flatMap X).length=n*m:=by
   clear ih a;induction n with
   |zero=>simp
   |succ n ih2=>
    rw[bs_,ba_,ag_,ih2 (λi hi=>hX i M_)];simp only[a8_,b3_,bf_];rw[hX n M_,Nat.succ_mul]
  rw[bs_,ba_];simp only[a8_,b3_,bf_];by_cases a:q<n
  .have:q*m+j<n*m:=by
    have:=b2_ m (show q+1<=n by omega);rw[Nat.add_mul,Nat.one_mul]at this;omega
   rw[ar_ M_];exact ih X (λi hi=>hX i M_) q j a b
  .have e:q=n:=M_;subst e;rw[as_ M_,hl,cf_]
mutual
def byT:DT->BA
 | .mk k n tx ks ds=>
  if k=116 then bts [n.toNat]
  else if k=105\/k=108\/k=101 then zH n
  else if k=115 then zH tx.size++tx
  else if k=102 then tx
  else (if k=40 then zH n else if k=91\/k=123 then zH ds.length else noB)++yS (k==123) ks ds
def yS(keyed:Aq):List BA->List DT->BA
 | _,[]=>noB
 |ks,d::r=>((if keyed=true then zH (ks.headD noB).size++ks.headD noB else noB)++byT d)++yS keyed ks.tail r
end
def dO(k:Nat):Prop:=k=110\/k=116\/k=105\/k=108\/k=115\/k=91\/k=123\/k=40\/k=114\/k=101\/k=102
mutual
def okD:DT->Prop
 | .mk k n tx ks ds=>(-9223372036854775808<=n/\n<=9223372036854775807/\dO k)/\(k=116->0<=n/\n<=1)/\tx.size<=4000/\(∀x∈ks,x.size<=4000)/\(k=123->ks.length=ds.length)/\kx ds
def kx:List DT->Prop
 | []=>True
 |d::r=>okD d/\kx r
end
def jH(b:BA):noB++b=b:=by apply ByteArray.ext;simp[noB]
def wn(b:BA):b++noB=b:=by apply ByteArray.ext;simp[noB]
def itB(keyed:Aq)(k:BA)(d:DT):BA:=(if keyed=true then zH k.size++k else noB)++byT d
def uO(keyed:Aq):∀(ds:List DT) (ks:List BA) (q:Nat) (d:DT),ds[q]?=some d->yS keyed ks (ds.take (q+1))=yS keyed ks (ds.take q)++itB keyed (ks.getD q noB) d
 | [],ks,q,d,h=>by simp at h
 |a::r,ks,0,d,h=>by
  simp only[aa_,af_]at h;subst h;simp only[List.take_succ_cons,List.take_zero,yS,itB,jH,wn];cases ks<;>rfl
 |a::r,ks,q+1,d,h=>by
  simp only[ab_]at h;have e:=uO keyed r ks.tail q d h;have b:ks.tail.getD q noB=ks.getD (q+1) noB:=by cases ks<;>simp
  simp only[List.take_succ_cons,yS];rw[e,b];simp only[b7_]
mutual
def WA:∀d:DT,okD d->(byT d).size+4011<=8022*ndT d
 | .mk k n tx ks ds,h=>by
  unfold okD at h;have h1:=xo n;have a:=xo tx.size;have a:=xo ds.length;have b:=fe (k==123) ks ds h.2.2.2.1 h.2.2.2.2.2;unfold byT ndT;split
  .rw[yP];simp only[ap_];omega
  .split
   .omega
   .split
    .rw[aq_];omega
    .split
     .omega
     .rw[aq_];have b:(if k=40 then zH n else if k=91\/k=123 then zH ds.length else noB).size<=11:=by
       split
       .exact h1
       .split
        .exact a
        .show(0:Nat)<=11;omega
      omega
def fe(keyed:Aq):∀(ks:List BA) (ds:List DT),(∀x∈ks,x.size<=4000)->kx ds->(yS keyed ks ds).size<=8022*za ds
 | _,[],_,_=>by unfold yS;show(0:Nat)<=_;omega
 |ks,d::r,hk,h=>by
  unfold kx at h;have h1:=WA d h.1;have b:=fe keyed ks.tail r (λx hx=>hk x (List.mem_of_mem_tail hx)) h.2;have b:=xo (ks.headD noB).size;have b:(ks.headD noB).size<=4000:=by
   cases ks with
   |nil=>show(0:Nat)<=4000;omega
   |cons a t=>exact hk a (bo_ ..)
  have b:(if keyed=true then zH (ks.headD noB).size++ks.headD noB else noB).size<=4011:=by
   split
   .rw[aq_];omega
   .show(0:Nat)<=4011;omega
  unfold yS za;rw[aq_,aq_];omega
end
def uJ:∀{ds:List DT},kx ds->∀q,kx (ds.take q)
 | [],h,q=>by simpa using h
 |d::r,h,0=>by simp[kx]
 |d::r,h,q+1=>by
  unfold kx at h;simp only[List.take_succ_cons,kx];exact⟨h.1,uJ h.2 q⟩
def qi(n:Int):BA:=⟨(Lib.itoa n).toArray⟩
def JS{n:Int}(h0 : -9223372036854775808<=n)(h1:n<=9223372036854775807):(qi n).size<=21:=by
 unfold qi;show(Lib.itoa n).toArray.size<=21;rw[List.size_toArray];exact Lib.itoa_length_le n h0 h1
def yg(env:Au)(t:PT)(n i:Nat):PT:=
 match t with
 | .wrap _ _ u=>u
 | .alts _ ts=>ts.getD n (.leaf 0 0)
 | .leaf c _=>match env c with|some (.recd fs)=>(fs.map PF.ty).getD i (.leaf 0 0)|_=>.leaf 0 0
def fU(env:Au)(t:PT)(n:Nat):Nat:=
 match t with
 | .leaf c _=>match env c with|some (.enum l _)=>(l.map Prod.fst).getD n 0|_=>0
 | _=>0
section
variable {w w':Aw} {bd:Nat} {s:BA} {bz i:Nat} {er:Int} {n:Nat}
end
section
variable {w:Aw} {bd:Nat} {s:BA} {bz i:Nat} {er:Int} {n:Nat}
end
def cJ(s:BA)(i k acc:Nat):Option (Nat×Nat):=
 match gn s (10-k) (i+k) with
 |none=>none
 |some (z,j)=>if z=0/\0<k then none else some (acc+128 ^ k*z,j)
def Je(s:BA)(i:Nat):cJ s i 0 0=gn s 10 i:=by
 unfold cJ;rw[show 10-0=10 from rfl,bz_];cases gn s 10 i with
 |none=>rfl
 |some q=>
  obtain⟨z,j⟩:=q;simp
def Wm{s:BA}{i k:Nat}(hk:k<=9)(h:s.size<=i+k):cJ s i k acc=none:=by
 unfold cJ;rw[show 10-k=(9-k)+1 by omega,gn,n_ M_]
def nk{s:BA}{i k:Nat}(hk:k<=9)(h:i+k<s.size)(hb:bt s (i+k)<128):cJ s i k acc=if bt s (i+k)=0/\0<k then none else some (acc+128 ^ k*bt s (i+k),i+k+1):=by
 unfold cJ;rw[show 10-k=(9-k)+1 by omega,gn,i_ h,i_ hb]
def nj{s:BA}{i k:Nat}(hk:k<=9)(h:i+k<s.size)(hb:¬bt s (i+k)<128):cJ s i k acc=if k=9 then none else cJ s i (k+1) (acc+128 ^ k*(bt s (i+k)-128)):=by
 unfold cJ;rw[show 10-k=(9-k)+1 by omega,gn,i_ h,n_ hb];by_cases a:k=9
 .subst a;rw[i_ rfl];simp[gn]
 .rw[n_ a,show 10-(k+1)=9-k by omega,show i+k+1=i+(k+1) by omega];cases gn s (9-k) (i+(k+1)) with
  |none=>rfl
  |some q=>
   obtain⟨z,j⟩:=q;simp only;by_cases hz:z=0
   .rw[i_ hz,i_ ⟨hz,M_⟩]
   .rw[n_ hz,n_ (λx=>hz x.1)];simp only;rw[n_ (λx=>M_)];have e:acc+128 ^ k*(bt s (i+k)-128+128*z)=acc+128 ^ k*(bt s (i+k)-128)+128 ^ (k+1)*z:=by
     rw[Nat.pow_succ,Nat.mul_add,Nat.mul_assoc,bl_]
    rw[e]
def Uz(k:Nat):1<=128 ^ k:=Nat.one_le_pow _ _ D_
def VU{k:Nat}(h:k<=8):128 ^ (k+1)<=9223372036854775808:=ak_ (Nat.pow_le_pow_right D_ (show k+1<=9 by omega)) D_
def mP{s:BA}{i k:Nat}(h:i+k<=zo s i):zo s (i+k)=zo s i:=by
 induction k with
 |zero=>rfl
 |succ k ih=>
  have h1:=ih M_;rw[<- h1];unfold zo at *;conv=>rhs;rw[zt]
  split
  .split
   .rfl
   .rename_i a b;rw[zt,dif_pos a,n_ b]at h1;omega
  .rename_i a;rw[zt,dif_neg a]at h1;omega
section
variable {w W W':Aw} {P:Az} {bd:Nat} {s:BA} {bz i n i' n':Nat} {er er':Int} {ts:Ap} {env:Au}
end
section
variable {w W W':Aw} {P:Az} {bd:Nat} {s:BA} {bz j m:Nat} {er:Int} {ts:Ap} {env:Au} {k:Nat} {n:Int} {tx:BA} {vk vs:Ax} {d:DT} {r:Except Nat (DT×Nat×Nat)}
end
section
variable {w:Aw} {P:Az} {bd:Nat} {s:BA} {bz i n:Nat} {er:Int} {ts:Ap} {env:Au}
end
section
variable {w W W':Aw} {P:Az} {bd:Nat} {s:BA} {bz j j' nn nn':Nat} {er er':Int} {cx:Ay} {ct:Av} {ts:Ap} {env:Au} {b0 b1 B c:Nat} {vk vs:Ax} {ks:Dq} {n:Nat} {xs:Ay} {ds:Ae}
end
section
variable {w W W':Aw} {P:Az} {bd:Nat} {s:BA} {bz j m b0:Nat} {er:Int} {ts:Ap} {env:Au} {k:Nat} {n:Int} {tx:BA} {vk vs:Ax} {d:DT} {r:Except Nat (DT×Nat×Nat)}
end
def gB(acc:Ag):Except Nat (List (BA×DT)×Nat×Nat)->Except Nat (List (BA×DT)×Nat×Nat)
 | .error e=>.error e
 | .ok (l,j,m)=>.ok (acc++l,j,m)
def rH(x:Except Nat (List (BA×DT)×Nat×Nat)):gB [] x=x:=by
 cases x with
 |error e=>rfl
 |ok q=>obtain⟨l,j,m⟩:=q;rfl
def oa(R:Nat->Nat->Except Nat (DT×Nat×Nat))(s:BA)(keyed:Aq)(c:Nat)(acc:Ag)(k:BA)(j m:Nat):Except Nat (List (BA×DT)×Nat×Nat):=
 match R j m with
 | .error e=>.error e
 | .ok (d,j',m')=>gB (acc++[(k,d)]) (xP R s keyed c (some k) j' m')
def cq(R:Nat->Nat->Except Nat (DT×Nat×Nat))(s:BA)(keyed:Bool)(c:Nat)(acc:List (BA×DT))(last:Option BA)(j m:Nat):gB acc (xP R s keyed (c+1) last j m) =
 match pe s keyed last j with
 |none=>.error 6
 |some (k,a)=>oa R s keyed c acc k a m:=by
 rw[xP];cases pe s keyed last j with
 |none=>rfl
 |some q=>
  obtain⟨k,a⟩:=q;simp only[oa];cases R a m with
  |error e=>rfl
  |ok q=>
   obtain⟨d,j',a⟩:=q;simp only;cases xP R s keyed c (some k) j' a with
   |error e=>rfl
   |ok q=>
    obtain⟨l,a,a⟩:=q;simp[gB]
def MV(c:Nat):Except Nat (List (BA×DT)×Nat×Nat)->Except Nat (DT×Nat×Nat)
 | .error e=>.error e
 | .ok (l,j,m)=>.ok (.mk c 0 noB (km (c==123) l) (l.map Prod.snd),j,m)
def oO(R:Nat->Nat->Except Nat (DT×Nat×Nat))(s:BA)(c i n:Nat):uz R s c i n=match gQ s i with|none=>.error 6|some (q,j)=>MV c (xP R s (c==123) q.toNat none j n):=by
 unfold uz;cases gQ s i with
 |none=>rfl
 |some q=>
  obtain⟨v,j⟩:=q;simp only;cases xP R s (c==123) v.toNat none j n with
  |error e=>rfl
  |ok q=>rfl
def mq(ds:Ae):Except Nat (List DT×Nat×Nat)->Except Nat (List DT×Nat×Nat)
 | .error e=>.error e
 | .ok (l,j,m)=>.ok (ds++l,j,m)
def Xc(x:Except Nat (List DT×Nat×Nat)):mq [] x=x:=by
 cases x with
 |error e=>rfl
 |ok q=>obtain⟨l,j,m⟩:=q;rfl
def Zv(R:PT->Nat->Nat->Except Nat (DT×Nat×Nat))(ds:Ae)(t:PT)(r:Af)(j m:Nat):mq ds (xU R (t::r) j m)=match R t j m with | .error e=>.error e | .ok (d,j',a)=>mq (ds++[d]) (xU R r j' a):=by
 rw[xU];cases R t j m with
 |error e=>rfl
 |ok q=>
  obtain⟨d,j',a⟩:=q;simp only;cases xU R r j' a with
  |error e=>rfl
  |ok q=>
   obtain⟨l,a,a⟩:=q;simp[mq]
mutual
def vq:PT->Prop
 | .leaf _ _=>True
 | .wrap _ _ t=>vq t
 | .alts _ l=>l.length<=300/\fW l
def fW:List PT->Prop
 | []=>True
 |t::r=>vq t/\fW r
end
def kU:∀{l:List PT},fW l->∀t∈l,vq t
 | [],_,t,h=>by cases h
 |x::r,h,t,a=>by
  unfold fW at h;rcases ao_.1 a with rfl|a
  .exact h.1
  .exact kU h.2 t a
def JB(env:Au):Prop:=∀c fs,env c=some (.recd fs)->fs.length<=300/\∀g∈fs,vq g.ty
def YI(h:u<10):qi (u:Int)=bts [48+u]:=by
 unfold qi bts;rw[Lib.itoa_nonneg,Lib.decDigits_one h];rfl
def WL(h:¬u<10):qi (u:Int)=qi ((u / 10:Nat):Int)++bts [48+u % 10]:=by
 unfold qi bts;rw[Lib.itoa_nonneg,Lib.itoa_nonneg,Lib.decDigits,dif_neg h];apply ByteArray.ext;simp
def WU(h:1<=u):qi (-(u:Int))=bts [45]++qi (u:Int):=by
 unfold qi bts;rw[Lib.itoa_neg u h,Lib.itoa_nonneg];apply ByteArray.ext;simp
section
variable {w:Aw}
end
def PAt(w:Aw)(bp:Nat)(s:BA)(i:Nat):Prop:=Blk w bp [.string s,I_ i] 114
section
variable {w w':Aw} {bp:Nat} {s:BA} {i:Nat}
def PAt.c0(h:PAt w bp s i):w.cell? ⟨bp,0,none⟩=some (.string s):=by rw[F_ h];rfl
def PAt.c1(h:PAt w bp s i):w.cell? ⟨bp,1,none⟩=some (I_ i):=by rw[F_ h];rfl
def PAt.th(h:PAt w bp s i)(o:Nat):w.frozen? ⟨bp,o,none⟩=false:=Blk.th h o
def PAt.si(h:PAt w bp s i)(hw:zq w w'):PAt w' bp s i:=by obtain⟨n,rfl⟩:=hw;exact h
def PAt.inc(h:PAt w bp s i):PAt (w.setCell ⟨bp,1,none⟩ (Z_ ((i:Int)+1))) bp s (i+1):=G_ h 1 _
end
def yr{w:Aw}{bp:Nat}{s:BA}{i:Nat}(h:PAt w bp s i):Calls prog 108 #[P_ bp] w λe w'=>e=.returned (I_ i)/\w'=w:=by
 have c1:=h.c1;go_in;go_wp2;go_ret;exact⟨rfl,rfl⟩
def wD(c:Nat)(w:Aw):Calls prog 106 #[U_ c] w λe w'=>e=.returned (.bool (zY c))/\w'=w:=by
 have hb:zY c=(decide ((65:Int)<=(c:Int))&&decide ((c:Int)<=70)):=by
  unfold zY;rw[show decide ((65:Int)<=(c:Int))=decide (65<=c) by congr 1;exact propext M_,show decide ((c:Int)<=70)=decide (c<=70) by congr 1;exact propext M_]
 rw[hb];by_cases h1:(65:Int)<=(c:Int)
 .go_in;go_wp2;go_ret;exact⟨by simp[h1],rfl⟩
 .go_in;go_wp2;go_ret;exact⟨by simp;omega,rfl⟩
def yb{w:Aw}{bp:Nat}{s:BA}{i:Nat}(h:PAt w bp s i)(_hs:s.size<=300)(hi:i<=s.size):Calls prog 107 #[P_ bp] w λe w'=>e=.returned (.int .u8 (bt s i:Int))/\zq w w':=by
 have c0:=h.c0;have c1:=h.c1;by_cases hl:i<s.size
 .have a:(i:Int)<(s.size:Int):=M_;go_in;go_wp2;go_quiet (fail);go_wp2;go_quiet (fail);go_wp2;go_ret;exact⟨by simp[xO s i hl],(zq.drewN _ _).trans (zq.drewN _ _)⟩
 .have a:¬(i:Int)<(s.size:Int):=M_;go_in;go_wp2;go_quiet (fail);go_wp2;go_ret;exact⟨by rw[wh M_];rfl,_,rfl⟩
def Ch(w:Aw)(bp:Nat)(s:BA)(i d:Nat)(b:Aq)(w':Aw):Prop:=
 Fr w w' (· = bp)/\((bt s i=d/\b=true/\PAt w' bp s (i+1)/\i<s.size)\/(bt s i≠d/\b=false/\PAt w' bp s i))
def uZ{w:Aw}{bp:Nat}{s:BA}{i:Nat}{c:Int}(d:Nat)(h:PAt w bp s i)(hs:s.size<=300)(hi:i<=s.size)(hd:c=(d:Int))(f:0<d):Calls prog 111 #[P_ bp,.int .u8 c] w λe w'=>∃b,e=.returned (.bool b)/\Ch w bp s i d b w':=by
 subst hd;obtain⟨x,hx⟩:=x_ (bt s i);by_cases hb:x=d
 .subst hb;replace hx:=zy hx;go_in;go_wp2_with (go_at_call 107;apply(yb h hs hi).mono;rintro e w' ⟨rfl,hw⟩;rw[hx.o];have a:=h.si hw;have c1:=a.c1;have g:=a.th 1);go_ret;exact⟨true,rfl,((A_ w _).si hw).setCell _ _ (λ_=>rfl),.inl ⟨hx,rfl,a.inc,zp (by rw[hx.o];exact f)⟩⟩
 .have hn:((x:Int) != (d:Int))=true:=x1_
  replace hx:=zy hx;go_in;go_wp2_with (go_at_call 107;apply(yb h hs hi).mono;rintro e w' ⟨rfl,hw⟩;rw[hx.o];have a:=h.si hw);go_ret;exact⟨false,rfl,(A_ w _).si hw,.inr ⟨by rw[hx.o];exact hb,rfl,a⟩⟩
def gD{w:Aw}{bp:Nat}{s:BA}{i:Nat}{c:Int}(d:Nat)(h:PAt w bp s i)(hs:s.size<=300)(hi:i<=s.size)(hd:c=(d:Int))(a:0<d)(hb:bt s i=d):Calls prog 111 #[P_ bp,.int .u8 c] w λe w'=>e=.returned (.bool true)/\Fr w w' (· = bp)/\PAt w' bp s (i+1):=by
 apply(uZ d h hs hi hd a).mono;rintro e w' ⟨b,rfl,hf,a⟩;rcases a with⟨_,rfl,h1,_⟩|⟨hn,_⟩
 .exact⟨rfl,hf,h1⟩
 .exact absurd hb hn
def pS{w:Aw}{bp:Nat}{s:BA}{i:Nat}{c:Int}(d:Nat)(h:PAt w bp s i)(hs:s.size<=300)(hi:i<=s.size)(hd:c=(d:Int))(a:0<d)(hb:bt s i≠d):Calls prog 111 #[P_ bp,.int .u8 c] w λe w'=>e=.returned (.bool false)/\Fr w w' (· = bp)/\PAt w' bp s i:=by
 apply(uZ d h hs hi hd a).mono;rintro e w' ⟨b,rfl,hf,a⟩;rcases a with⟨hy,_⟩|⟨_,rfl,h1⟩
 .exact absurd hy hb
 .exact⟨rfl,hf,h1⟩
def zO(w:Aw)(lo:Nat)(v:Ax)(p:Int)(ev:Ax):Prop:=
 ∃g,lo<=g/\v=.iface 184 (P_ g)/\Blk w g [Z_ p,ev] 186
def vy{w:Aw}{bp:Nat}{s:BA}{i:Nat}(h:PAt w bp s i)(hg:w.cell? ⟨0,0,none⟩=some (.iface et ex)):Calls prog 70 #[P_ bp] w λe w'=>∃v,e=.returned v/\zO w' w.heap.size v (i:Int) (.iface et ex)/\Fr w w' N_:=by
 obtain⟨b,a⟩:=y_ (λ(e:Ending) (w':World)=>∃v,e=.returned v/\zO w' w.heap.size v (i:Int) (.iface et ex)/\Fr w w' N_);rw[<- a.o];have c1:=h.c1;replace h:=zy h;go_in;go_wp2;refine tr_ 8 (λW=>z_ W bp 1 (I_ i)/\z_ W 0 0 (.iface et ex)) ?_;refine tz_ 0 ?_;refine tz_ 1 ?_;refine tz_ 2 ?_;refine tz_ 3 ?_;refine tz_ 4 ?_;refine tz_ 5 ?_;refine t1_ 6 ⟨c1,hg⟩ ?_;have b:(w.drew.alloc (.cells #[I_ i,.iface et ex] 186)).cell? ⟨bp,1,none⟩=some (I_ i):=by
  rw[World.cell?_alloc_past _ _ _ (World.block_lt_of_cell? w.drew ⟨bp,1,none⟩ c1)];exact c1
 have f:(w.drew.alloc (.cells #[I_ i,.iface et ex] 186)).cell? ⟨0,0,none⟩=some (.iface et ex):=by
  rw[World.cell?_alloc_past _ _ _ (World.block_lt_of_cell? w.drew ⟨0,0,none⟩ hg)];exact hg
 refine t1_ 7 ⟨b,f⟩ ?_;refine t1_ 8 ⟨b,f⟩ ?_;refine td_ ?_ _;go_wp2;try go_ret
 rw[a.o];exact⟨_,rfl,⟨w.heap.size,l_,rfl,(B_ w _ _).drew⟩,((A_ w _).alloc _).drew⟩
def pW(w:Aw)(et:Av)(ex:Ax):Prop:=w.cell? ⟨0,0,none⟩=some (.iface et ex)
def pW.fr{w w':Aw}(h:pW w et ex)(hf:Fr w w' S)(b:¬S 0):pW w' et ex:=
 (World.cell?_of_block (a:=⟨0,0,none⟩) (hf.block _ (World.block_lt_of_cell? w ⟨0,0,none⟩ h) b)).trans h
def zO.fr{w w':Aw}{lo:Nat}{p:Int}{a:Ax}(h:zO w lo v p a)(hf:Fr w w' S)(e:∀g,lo<=g->¬S g):zO w' lo v p a:=by
 obtain⟨g,h1,a,b⟩:=h;exact⟨g,h1,a,hf.bl b (e g h1)⟩
def zO.ls{w:Aw}{lo b:Nat}{p:Int}{a:Ax}(h:zO w lo v p a)(hl:b<=lo):zO w b v p a:=by
 obtain⟨g,h1,a⟩:=h;exact⟨g,ak_ hl h1,a⟩
def Cr(w:Aw)(bp:Nat)(s:BA)(i d:Nat)(et:Av)(ex:Ax)(v:Ax)(w':Aw):Prop:=
 Fr w w' (· = bp)/\((bt s i=d/\v=.nilIface/\PAt w' bp s (i+1)/\i<s.size)\/(bt s i≠d/\zO w' w.heap.size v (i:Int) (.iface et ex)/\PAt w' bp s i))
def yT{w:Aw}{bp:Nat}{s:BA}{i:Nat}{c:Int}(d:Nat)(h:PAt w bp s i)(a:pW w et ex)(y:bp≠0)(hs:s.size<=300)(hi:i<=s.size)(hd:c=(d:Int))(x:0<d):Calls prog 110 #[P_ bp,.int .u8 c] w λe w'=>∃v,e=.returned v/\Cr w bp s i d et ex v w':=by
 subst hd;obtain⟨A,f⟩:=y_ (λ(e:Ending) (w':World)=>∃v,e=.returned v/\Cr w bp s i d et ex v w');rw[<- f.o];by_cases hb:bt s i=d
 .have g:=zy (gD d h hs hi rfl x hb);have b:i<s.size:=zp M_;replace hb:=zy hb;replace h:=zy h;replace a:=zy a;go_in;go_wp2_with (go_at_call 111;apply g.o.mono;rintro e w1 ⟨rfl,hf,h1⟩;replace h1:=zy h1;replace hf:=zy hf);try go_ret
  rw[f.o];exact⟨.nilIface,rfl,hf,.inl ⟨hb,rfl,h1,b⟩⟩
 .have g:=zy (pS d h hs hi rfl x hb);replace hb:=zy hb;replace h:=zy h;replace a:=zy a;go_in;go_wp2_with (first
   |(go_at_call 111;apply g.o.mono;rintro e w1 ⟨rfl,hf,h1⟩;replace h1:=zy h1;replace hf:=zy hf)
   |(go_at_call 70;apply(vy h1 (a.o.fr hf (Ne.symm y))).mono;rintro e a ⟨v,rfl,l,b⟩;replace l:=zy l;replace b:=zy b))
  try go_ret
  rw[f.o];have z:=hf.o.size;exact⟨v,rfl,hf.o.trans b v_,.inr ⟨hb,l.o.ls z,b.o.bl h1 id⟩⟩
def vL(c:Nat):TypeId:=if c=110 then 215 else if c=116 then 217 else if c=105 then 218 else if c=108 then 219 else 220
def qX(c:Nat):TypeId:=if c=91 then 222 else 223
inductive TyV (w:Aw) (P:Az):PT->Value->Prop
 |base (c p:Nat) (h:zi c=true):TyV w P (.leaf c p) (.iface (vL c) (.agg #[I_ p]))
 |name (c p:Nat) (h:zY c=true):TyV w P (.leaf c p) (.iface 229 (.agg #[I_ p,U_ c]))
 |wrap (c p:Nat) {t:PT} {v:Value} (h:TyV w P t v):TyV w P (.wrap c p t) (.iface (qX c) (.agg #[I_ p,v]))
 |alts (p:Nat) {l:List PT} {sv:Value} (X:Nat->Value) (ho:w.ownsRow 0 46 1 sv l.length ((List.range l.length).map X)) (hP:∀g,sv.ownBlock=some g->P g) (h:∀i t,l[i]?=some t->TyV w P t (X i)) :
  TyV w P (.alts p l) (.iface 226 (.agg #[I_ p,sv]))
def TyV.mono{w:Aw}{P Q:Az}(h:TyV w P t v)(a:∀g,g<w.heap.size->P g->Q g):TyV w Q t v:=by
 induction h with
 |base c p h=>exact .base c p h
 |name c p h=>exact .name c p h
 |wrap c p h ih=>exact .wrap c p ih
 |alts p X ho hP h ih=>exact .alts p X ho (λg e=>a g (ho.lt g e).2 (hP g e)) ih
def TyV.fr{w w':Aw}{P:Az}(h:TyV w P t v)(hf:Fr w w' S)(a:∀g,P g->¬S g):TyV w' P t v:=by
 induction h with
 |base c p h=>exact .base c p h
 |name c p h=>exact .name c p h
 |wrap c p h ih=>exact .wrap c p ih
 |alts p X ho hP h ih=>exact .alts p X (zj ho hf (λg e=>a g (hP g e))) hP ih
def IfV(v:Ax):Prop:=v=.nilIface\/∃T x,v=.iface T x
def vW(w:Aw)(bp:Nat)(s:BA)(i:Nat)(et:Av)(ex:Ax)(e:Ak)(w':Aw):Prop:=
 ∃v ev,IfV v/\e=.returned (.tuple #[v,ev])/\Fr w w' (· = bp)/\
 match pT s i with
 | .ok (t,j)=>ev=.nilIface/\PAt w' bp s j/\TyV w' (λg=>w.heap.size<=g) t v
 | .error k=>zO w' w.heap.size ev (k:Int) (.iface et ex)/\∃j,j<=s.size/\PAt w' bp s j
def vG(s:BA)(i:Nat):Prop:=∀(w:World) (bp:Nat) (et:TypeId) (ex:Value),PAt w bp s i->pW w et ex->bp≠0->
 Calls prog 69 #[P_ bp] w (vW w bp s i et ex)
def yJ{w:Aw}{bp:Nat}{s:BA}{i x:Nat}{c:Int}(h:PAt w bp s i)(hs:s.size<=300)(hi:i<=s.size)(hx:bt s i=x)(hc:(x:Int)=c)(h0:0<c):Calls prog 111 #[P_ bp,.int .u8 c] w λe w'=>e=.returned (.bool true)/\Fr w w' (· = bp)/\PAt w' bp s (i+1):=
 gD x h hs hi hc.symm M_ hx
def yK{w:Aw}{bp:Nat}{s:BA}{i x:Nat}{c:Int}(h:PAt w bp s i)(hs:s.size<=300)(hi:i<=s.size)(hx:bt s i=x)(hc:(x:Int)≠c)(h0:0<c):Calls prog 111 #[P_ bp,.int .u8 c] w λe w'=>e=.returned (.bool false)/\Fr w w' (· = bp)/\PAt w' bp s i:=
 pS c.toNat h hs hi M_ M_ (by rw[hx];omega)
def wI{s:BA}{i c:Nat}(h:bt s i=c)(hb:zi c=true):pT s i=.ok (.leaf c i,i+1):=by
 rw[wY];unfold vR;rw[h,i_ hb]
def cq10_{p:Prop}(h:p:=by
 intro w bp et ex h z F;obtain⟨C,y⟩:=y_ (vW w bp s i et ex);rw[<- y.o];have a:=zy (And.intro h (A_ w (λx=>x=bp)));(try have:=cc5;have A:=zy (show pT s i=.ok (.leaf (bt s i) i,i+1) from iz (by simpa[zY] using hn));obtain⟨x,hx⟩:=x_ (bt s i);rw[hx]at hn A;(have G:65<=x/\x<=70:=by simpa[zY] using hn);have E:i<s.size:=zp M_);replace hx:=zy hx;replace z:=zy z;replace h:=zy h;(try have:=cc5;replace hn:=zy hn);go_in;go_wp2_with (first
  |(go_at_call 108;apply(yr a.o.1).mono;rintro e w' ⟨rfl,f⟩;rw[f])
  |(go_at_call 107;apply(yb a.o.1 hs hi).mono;rintro e w' ⟨rfl,f⟩;rw[hx.o];replace a:=zy (And.intro (a.o.1.si f) (a.o.2.si f));clear f)
  |(go_at_call 111;(first|(have:=cc5;apply(yK a.o.1 hs hi hx.o M_ D_).mono)|(apply(yJ a.o.1 hs hi hx.o D_ D_).mono));rintro e w' ⟨rfl,l,g⟩;(first|(have:=cc5;replace a:=zy (And.intro g (a.o.2.trans l u_)))|(have b:=zy (And.intro g (a.o.2.trans l u_))));clear l g)
  |((first|go_at_call 111|go_at_call 106);(first|(have:=cc5;apply(wD x _).mono)|(apply(yK a.o.1 hs hi hx.o D_ D_).mono));(first|(have:=cc5;rintro e w' ⟨rfl,f⟩)|(rintro e w' ⟨rfl,l,g⟩));(first|(have:=cc5;rw[f,hn.o])|(replace a:=zy (And.intro g (a.o.2.trans l u_))));(first|(have:=cc5;clear f;have c1:=a.o.1.c1;have D:=a.o.1.th 1)|(clear l g))))
 try go_ret
 rw[y.o];(first|(have:=cc1;refine⟨.iface (vL 115) (.agg #[I_ i]),.nilIface,.inr ⟨_,_,rfl⟩,rfl,b.o.2,?_⟩)|(have:=cc2;refine⟨.iface (vL 105) (.agg #[I_ i]),.nilIface,.inr ⟨_,_,rfl⟩,rfl,b.o.2,?_⟩)|(have:=cc3;refine⟨.iface (vL 116) (.agg #[I_ i]),.nilIface,.inr ⟨_,_,rfl⟩,rfl,b.o.2,?_⟩)|(have:=cc4;refine⟨.iface (vL 110) (.agg #[I_ i]),.nilIface,.inr ⟨_,_,rfl⟩,rfl,b.o.2,?_⟩)|(have:=cc5;refine⟨.iface 229 (.agg #[I_ i,U_ x]),.nilIface,.inr ⟨_,_,rfl⟩,rfl,a.o.2.setCell _ _ (λ_=>rfl),?_⟩)|(refine⟨.iface (vL 108) (.agg #[I_ i]),.nilIface,.inr ⟨_,_,rfl⟩,rfl,b.o.2,?_⟩));(first|(have:=cc5;rw[A.o])|(rw[wI hx.o rfl]));(first|(have:=cc1;exact⟨rfl,b.o.1,.base 115 i rfl⟩)|(have:=cc2;exact⟨rfl,b.o.1,.base 105 i rfl⟩)|(have:=cc3;exact⟨rfl,b.o.1,.base 116 i rfl⟩)|(have:=cc4;exact⟨rfl,b.o.1,.base 110 i rfl⟩)|(have:=cc5;exact⟨rfl,a.o.1.inc,.name x i hn.o⟩)|(exact⟨rfl,b.o.1,.base 108 i rfl⟩))):p:=h
def Ka{s:BA}{i:Nat}(hs:s.size<=300)(hi:i<=s.size)(hx:bt s i=110):vG s i:=by
 have cc4:=Nat
 exact cq10_
def Ki{s:BA}{i:Nat}(hs:s.size<=300)(hi:i<=s.size)(hx:bt s i=116):vG s i:=by
 have cc3:=Nat
 exact cq10_
def KZ{s:BA}{i:Nat}(hs:s.size<=300)(hi:i<=s.size)(hx:bt s i=105):vG s i:=by
 have cc2:=Nat
 exact cq10_
def Ko{s:BA}{i:Nat}(hs:s.size<=300)(hi:i<=s.size)(hx:bt s i=108):vG s i:=by
 exact cq10_
def Ke{s:BA}{i:Nat}(hs:s.size<=300)(hi:i<=s.size)(hx:bt s i=115):vG s i:=by
 have cc1:=Nat
 exact cq10_
def VB{s:BA}{i:Nat}(hs:s.size<=300)(hi:i<=s.size)(hn:zY (bt s i)=true):vG s i:=by
 have cc5:=Nat
 exact cq10_
def aq{s:BA}{i:Nat}(hs:s.size<=300)(hi:i<=s.size)(h1:¬zi (bt s i)=true)(l:¬(bt s i=91\/bt s i=123))(y:¬bt s i=40)(f:¬(65<=bt s i/\bt s i<=70)):vG s i:=by
 intro w bp et ex h A D;obtain⟨G,C⟩:=y_ (vW w bp s i et ex);rw[<- C.o];have a:=zy (And.intro h (A_ w (λx=>x=bp)));have E:=zy (KW h1 l y f);obtain⟨x,hx⟩:=x_ (bt s i);rw[hx]at h1 l y f;have hn:H_ (zY x=false):=zy (by
  cases hc:zY x with
  |false=>rfl
  |true=>exact absurd z6_ f)
 simp only[zi,ax_,beq_iff_eq,not_or]at h1;have G:x≠110/\x≠116/\x≠105/\x≠108/\x≠115/\x≠91/\x≠123/\x≠40:=M_;replace hx:=zy hx;replace A:=zy A;replace h:=zy h;go_in;go_wp2_with (first
  |(go_at_call 108;apply(yr a.o.1).mono;rintro e w' ⟨rfl,b⟩;rw[b])
  |(go_at_call 107;apply(yb a.o.1 hs hi).mono;rintro e w' ⟨rfl,b⟩;rw[hx.o];replace a:=zy (And.intro (a.o.1.si b) (a.o.2.si b)))
  |(go_at_call 111;apply(yK a.o.1 hs hi hx M_ D_).mono;rintro e w' ⟨rfl,l,f⟩;replace a:=zy (And.intro f (a.o.2.trans l u_)))
  |(go_at_call 106;apply(wD x _).mono;rintro e w' ⟨rfl,b⟩;rw[b,hn.o])
  |(go_at_call 70;apply(vy a.o.1 (A.o.fr a.o.2 (Ne.symm D))).mono;rintro e b ⟨v,rfl,z,g⟩;replace z:=zy z;replace g:=zy g))
 try go_ret
 rw[C.o];have F:=a.o.2.size;refine⟨.nilIface,v,.inl rfl,rfl,a.o.2.trans g v_,?_⟩;rw[E.o];exact⟨z.o.ls F,i,hi,g.o.bl a.o.1 id⟩
def nO(w:Aw)(bp:Nat)(s:BA)(i d:Nat)(et:Av)(ex:Ax)(e:Ak)(w':Aw):Prop:=
 ∃v ev,IfV v/\e=.returned (.tuple #[v,ev])/\Fr w w' (· = bp)/\
 match pT s i with
 | .ok (t,j)=>if bt s j=d then ev=.nilIface/\PAt w' bp s (j+1)/\TyV w' (λg=>w.heap.size<=g) t v else zO w' w.heap.size ev (j:Int) (.iface et ex)/\∃j,j<=s.size/\PAt w' bp s j
 | .error k=>zO w' w.heap.size ev (k:Int) (.iface et ex)/\∃j,j<=s.size/\PAt w' bp s j
def tG{w:Aw}{bp:Nat}{s:BA}{i:Nat}{c:Int}(d:Nat)(G:vG s i)(h:PAt w bp s i)(a:pW w et ex)(A:bp≠0)(hs:s.size<=300)(hi:i<=s.size)(hd:c=(d:Int))(H:0<d):Calls prog 112 #[P_ bp,.int .u8 c] w (nO w bp s i d et ex):=by
 subst hd;obtain⟨K,f⟩:=y_ (nO w bp s i d et ex);rw[<- f.o];have C:=zy (G w bp et ex h a A);have z:=xV (s:=s) hi;cases hp:pT s i with
 |error k=>
  replace hp:=zy hp;replace a:=zy a;go_in;go_wp2_with (go_at_call 69;apply C.o.mono;rintro e w1 ⟨v,E,_,rfl,hf,hm⟩;rw[hp.o]at hm;obtain⟨⟨g,l,rfl,b⟩,y,x,h1⟩:=hm;replace hf:=zy hf;replace h1:=zy h1;replace b:=zy b);try go_ret
  rw[f.o];refine⟨.nilIface,_,.inl rfl,rfl,hf,?_⟩;rw[hp.o];exact⟨⟨g,l,rfl,b⟩,y,x,h1⟩
 |ok r=>
  obtain⟨t,j⟩:=r;have D:=z.1 t j hp;have G:=h.lt;replace hp:=zy hp;replace a:=zy a;go_in;go_wp2_with (first
   |(go_at_call 69;apply C.o.mono;rintro e w1 ⟨v,E,y,rfl,hf,hm⟩;rw[hp.o]at hm;obtain⟨rfl,h1,hv⟩:=hm;replace y:=zy y;replace hf:=zy hf;replace h1:=zy h1;replace hv:=zy hv)
   |(go_at_call 110;apply(yT d h1 (a.o.fr hf (Ne.symm A)) A hs D.2 rfl H).mono;rintro e a ⟨J,rfl,b,x⟩;replace b:=zy b;replace x:=zy x))
  try go_ret
  rw[f.o];have I:=hf.o.size;refine⟨v,J,y,rfl,hf.o.trans b u_,?_⟩;rw[hp.o];rcases x.o with⟨hb,rfl,l,_⟩|⟨hb,F,l⟩
  .show(if bt s j=d then _ else _);rw[i_ hb];exact⟨rfl,l,hv.o.fr b (λg hg e=>M_)⟩
  .show(if bt s j=d then _ else _);rw[n_ hb];exact⟨F.ls I,j,D.2,l⟩
def cq4_{p:Prop}(h:p:=by
 intro w bp et ex h A D;obtain⟨L,F⟩:=y_ (vW w bp s i et ex);rw[<- F.o];have a:=zy (And.intro h (A_ w (λx=>x=bp)));have I:i<s.size:=zp M_;have K:=zy (sO (s:=s) (i:=i) M_);have M:=h.lt;replace hx:=zy hx;replace A:=zy A;replace h:=zy h;replace hT:=zy hT;go_in;go_wp2_with (first
  |(go_at_call 108;apply(yr a.o.1).mono;rintro e w' ⟨rfl,z⟩;rw[z])
  |(go_at_call 107;apply(yb a.o.1 hs hi).mono;rintro e w' ⟨rfl,z⟩;rw[hx.o];replace a:=zy (And.intro (a.o.1.si z) (a.o.2.si z));clear z)
  |(go_at_call 111;apply(yJ a.o.1 hs hi hx.o D_ D_).mono;rintro e w' ⟨rfl,y,l⟩;have f:=zy (And.intro l (a.o.2.trans y u_));clear y l)
  |(go_at_call 111;apply(yK a.o.1 hs hi hx.o D_ D_).mono;rintro e w' ⟨rfl,y,l⟩;replace a:=zy (And.intro l (a.o.2.trans y u_));clear y l)
  |(go_at_call 112;(first|(have:=cc1;apply(tG 125 hT.o f.o.1 (A.o.fr f.o.2 (Ne.symm D)) D hs I rfl D_).mono)|(apply(tG 93 hT.o f.o.1 (A.o.fr f.o.2 (Ne.symm D)) D hs I rfl D_).mono));rintro e Q ⟨v,G,J,rfl,C,hm⟩;replace C:=zy C;replace hm:=zy hm;rcases J with rfl|⟨N,O,rfl⟩))
 all_goals
  try go_ret
  rw[F.o];have E:=f.o.2.size;(first|(have:=cc1;refine⟨.iface (qX 123) (.agg #[I_ i,_]),G,.inr ⟨_,_,rfl⟩,rfl,f.o.2.trans C.o u_,?_⟩)|(refine⟨.iface (qX 91) (.agg #[I_ i,_]),G,.inr ⟨_,_,rfl⟩,rfl,f.o.2.trans C.o u_,?_⟩));rw[K.o];have b:=hm.o;cases hp:pT s (i+1) with
  |error k=>
   rw[hp]at b;exact⟨b.1.ls E,b.2⟩
  |ok r=>
   obtain⟨t,j⟩:=r;rw[hp]at b;simp only at b⊢;rw[hx.o];(first|(have:=cc1;by_cases hb:bt s j=125)|(by_cases hb:bt s j=93))
   .rw[i_ hb]at b;(first|(have:=cc1;rw[show xw 123=125 from rfl,i_ hb])|(rw[show xw 91=93 from rfl,i_ hb]));obtain⟨rfl,H,hv⟩:=b;(first|(have:=cc1;exact⟨rfl,H,.wrap 123 i (hv.mono (λg _ hg=>ak_ E hg))⟩)|(exact⟨rfl,H,.wrap 91 i (hv.mono (λg _ hg=>ak_ E hg))⟩))
   .rw[n_ hb]at b;(first|(have:=cc1;rw[show xw 123=125 from rfl,n_ hb])|(rw[show xw 91=93 from rfl,n_ hb]));exact⟨b.1.ls E,b.2⟩):p:=h
def Fw{s:BA}{i:Nat}(hs:s.size<=300)(hi:i<=s.size)(hx:bt s i=91)(hT:vG s (i+1)):vG s i:=by
 exact cq4_
def Ks{s:BA}{i:Nat}(hs:s.size<=300)(hi:i<=s.size)(hx:bt s i=123)(hT:vG s (i+1)):vG s i:=by
 have cc1:=Nat
 exact cq4_
structure UM(w:Aw)(bp:Nat)(s:BA)(j:Nat)(p:Int)(sv:Ax)(ds:Af)(X:Ai)(W:Aw):Prop where
 here:PAt W bp s j
 fr:Fr w W (· = bp)
 lt:bp<w.heap.size
 hB:w.heap.size+1<=W.heap.size
 b:Blk W w.heap.size [Z_ p,sv] 226
 row:W.ownsRow (w.heap.size+1) 46 1 sv ds.length ((List.range ds.length).map X)
 ty:∀i t,ds[i]?=some t->TyV W (λg=>w.heap.size+1<=g/\sv.ownBlock≠some g) t (X i)
section
variable {w W W':Aw} {bp:Nat} {s:BA} {j j':Nat} {p:Int} {sv:Ax} {ds:Af} {X:Ai}
def UM.call(M:UM w bp s j p sv ds X W)(h:PAt W' bp s j')(hf:Fr W W' (· = bp)):UM w bp s j' p sv ds X W':=by
 have:=M.lt;exact⟨h,M.fr.trans hf u_,M.lt,ak_ M.hB hf.size,hf.bl M.b M_,zj M.row hf (λg hg e=>o1_ (M.row.lt g hg)),λi t e=>(M.ty i t e).fr hf (λg hg e=>M_)⟩
def UM.item(M:UM w bp s j p sv ds X W){o:Obj}{l:Aw}{f:Ax}(hg:(W.alloc o).grownBy l sv.ownBlock)(ho:l.ownsRow (w.heap.size+1) 46 1 f (ds.length+1) ((List.range ds.length).map X++[v]))(hl:f.ownBlock=sv.ownBlock\/f.ownBlock=some (W.alloc o).heap.size)(hv:TyV W (λg=>w.heap.size+1<=g/\sv.ownBlock≠some g) t v):UM w bp s j p f (ds++[t]) (λi=>if i<ds.length then X i else v) (l.setCell ⟨w.heap.size,1,none⟩ f):=by
 have a:=M.lt;have E:=M.hB;have z:Fr W l (λg=>sv.ownBlock=some g):=Y_ ((A_ W _).alloc o) hg (λk e _=>e);have hn:∀g,f.ownBlock=some g->w.heap.size+1<=g/\(sv.ownBlock=some g\/W.heap.size<=g):=λg a=>by
  rcases hl with e|e
  .exact⟨(M.row.lt g (e▸a)).1,.inl (e▸a)⟩
  .rw[e]at a;simp only[af_]at a;have:(W.alloc o).heap.size=W.heap.size+1:=x7_
   exact⟨M_,.inr M_⟩
 have A:Fr l (l.setCell ⟨w.heap.size,1,none⟩ f) (λg=>g=w.heap.size):=(A_ l (λg=>g=w.heap.size)).setCell ⟨w.heap.size,1,none⟩ f (λ_=>rfl);have y:Fr W (l.setCell ⟨w.heap.size,1,none⟩ f) (λg=>sv.ownBlock=some g\/g=w.heap.size):=(z.mono (λ_ _ e=>.inl e)).trans A (λ_ _ e=>.inr e);have D:=z.bl M.b (λe=>o1_ (M.row.lt _ e));have C:∀{u x},TyV W (λg=>w.heap.size+1<=g/\sv.ownBlock≠some g) u x->TyV (l.setCell ⟨w.heap.size,1,none⟩ f) (λg=>w.heap.size+1<=g/\f.ownBlock≠some g) u x:=λhx=>
  ((hx.mono (Q:=λg=>(w.heap.size+1<=g/\sv.ownBlock≠some g)/\g<W.heap.size) (λ_ h1 l=>⟨l,h1⟩)).fr y (λg a e=>by
    rcases e with e|e
    .exact a.1.2 e
    .have:=a.1.1;omega)).mono (λg _ a=>⟨a.1.1,λe=>by
    rcases(hn g e).2 with q|q
    .exact a.1.2 q
    .have:=a.2;omega⟩)
 refine⟨y.bl M.here (λe=>?_),M.fr.trans y (λx hx e=>?_),M.lt,ak_ E y.size,D.set 1 f,?_,λi u hu=>?_⟩
 .rcases e with e|e
  .have:=M.row.lt _ e;omega
  .omega
 .rcases e with e|e
  .have:=M.row.lt _ e;omega
  .omega
 .rw[ag_,ap_,bs_,bd_,aw_,be_,n_ (a2_ _)];have e:(List.range ds.length).map (λi=>if i<ds.length then X i else v)=(List.range ds.length).map X:=List.map_congr_left (λi hi=>by rw[i_ (List.mem_range.1 hi)]);rw[e];exact zj ho A (λg a e=>o1_ (hn g a))
 .by_cases hi:i<ds.length
  .rw[ar_ hi]at hu;simp only[hi,if_true];exact C (M.ty i u hu)
  .rw[as_ M_]at hu;have h0:i-ds.length=0:=by
    rcases Nat.eq_zero_or_pos (i-ds.length) with h|h
    .exact h
    .rw[bj_ x1_]at hu;cases hu
   rw[h0]at hu;simp only[aa_,af_]at hu;subst hu;simp only[hi,if_false];exact C hv
def UM.ie(M:UM w bp s j p sv ds X W){o:Obj}{a:Aw}(hg:(W.alloc o).grownBy a sv.ownBlock):a.cell? ⟨w.heap.size,1,none⟩=some sv/\a.frozen? ⟨w.heap.size,1,none⟩=false:=by
 have f:Fr W a (λg=>sv.ownBlock=some g):=Y_ ((A_ W _).alloc o) hg (λk e _=>e);have a:=f.bl M.b (λe=>o1_ (M.row.lt _ e));exact⟨a.cell 1,a.th 1⟩
def UM.alts(M:UM w bp s j p sv ds X W)(i:Nat)(hp:p=(i:Int)):TyV W (λg=>w.heap.size<=g) (.alts i ds) (.iface 226 (.agg #[Z_ p,sv])):=by
 subst hp;exact .alts i X (yl M.row) (λg e=>o1_ (M.row.lt g e)) (λk t e=>(M.ty k t e).mono (λg _ hg=>o1_ hg.1))
end
def PM:Tryz.prog.underlying 224=some (.slice 46):=K_
def Cy:(Tryz.prog.info? 46).map (λi=>(i.zero,i.size,i.bytes))=some (some .nilIface,1,16):=K_
end Go.Proofs.YtlmebjdmdogmfaaGreatDoor
