import Derived.Test.YtokgeopihcopeaaGreatDoorW07
import Derived.Laws.BitsLemmas
import Derived.Laws.BytesArg
import Derived.Lib.ItoaLen
set_option linter.unusedVariables false
set_option maxHeartbeats 16000000
set_option maxRecDepth 100000
set_option linter.defProp false
set_option linter.unusedSimpArgs false
open Go.Proofs.Tryz
namespace Go.Proofs.YtokgeopihcopeaaGreatDoor
open Go.RowKit
variable {q acc u:Nat}{t:PT}{et:Av}{ex v:Ax}{S:Az}
def nZ:∀(l:List (List Value)),(∀x∈l,x.length=10)->∀(q p:Nat) (x:List Value),l[q]?=some x->p<10->l.flatten[10*q+p]?=x[p]?
 | [],_,q,p,x,h,_=>by simp at h
 |y::r,hl,q,p,x,h,hp=>by
  have hy:=hl y x6_;rw[List.flatten_cons];cases q with
  |zero=>
   simp only[aa_,af_]at h;subst h;rw[Nat.mul_zero,be_,ar_ M_]
  |succ q=>
   rw[ab_]at h;rw[aw_ M_,show 10*(q+1)+p-y.length=10*q+p by omega];exact nZ r (λz hz=>hl z (by simp[hz])) q p x h hp
def az{s:BA}{b:Nat}{fs:An}{num:Nat}{f:PF}(hf:fs[q]?=some f)(hn:(jN b (fs.map PF.ty))[q]?=some num)(p:Nat)(hp:p<10):(yC s b fs)[10*q+p]?=(iL s f num)[p]?:=by
 unfold yC;refine nZ _ (λx hx=>?_) q p _ ?_ hp
 .obtain⟨i,hi⟩:=bw_ hx;rw[List.getElem?_zipWith]at hi;split at hi
  .simp only[af_]at hi;subst hi;rfl
  .cases hi
 .rw[List.getElem?_zipWith,hf,hn]
def Ws{s:BA}{ts:Ap}{b:Nat}{fs:An}(h:cQ ts (jN b (fs.map PF.ty)) (fs.map PF.ty)):GQ s ts fs (yC s b fs):=by
 intro q f hf;obtain⟨num,hn,e⟩:=XD h q f.ty (by rw[ax_,hf];rfl);have a:=λp hp=>az (s:=s) hf hn p hp;refine⟨⟨num,e,a 1 M_⟩,a 0 M_,a 2 M_,?_,?_,λp g e=>?_⟩
 .rw[a 3 M_];rfl
 .rw[a 4 M_];rfl
 .rw[a p e]
  match p,g,e with
  | 5,_,_=>exact⟨_,rfl,_,rfl⟩
  | 6,_,_=>exact⟨_,rfl,_,rfl⟩
  | 7,_,_=>exact⟨_,rfl,_,rfl⟩
  | 8,_,_=>exact⟨_,rfl,_,_,_,rfl⟩
  | 9,_,_=>exact⟨_,rfl,_,_,_,rfl⟩
def QF{w W:Aw}{X Xk:Az}{br bz B:Nat}{s:BA}{tv0 u0 tv u:Ax}{ds:Ar}{j:Nat}{bad:Aq}{wg MX:Int}{F:Ap}{US:As}{zs:Ay}{rt:Ax}(M:WM w X br bz B s tv0 u0 ds j bad wg MX (xI 0 ds++F) US Xk zs tv u W)(G:zs[30]?=some rt):SZ W (λg=>g<W.heap.size/\¬Xk g) (λg=>Xk g/\B<=g) bz s (xI 0 ds++F) (zx ds) rt:=by
 obtain⟨xs,hx,hk⟩:=M.R.tys;refine⟨λg hg h=>h.2 hg.1,⟨M.R.z.lt,λh=>(M.R.av _ h).2.2.1 rfl⟩,tv,zs,M.R.z,G,⟨xs,yl hx,λg e=>⟨(hx.lt g e).2,λh=>(M.R.av g h).2.2.2.1 e⟩,λk t F=>?_⟩,λk G=>?_⟩
 .obtain⟨sv,a,b,c,d⟩:=hk k t F;exact⟨sv,a,b,yl c.1,λg e=>⟨(c.1.lt g e).2,λh=>d g h e⟩⟩
 .obtain⟨so,fv,sb,o,n,F,ys,h1,A,F,y⟩:=M.D.2 k G;have C:∀g,fv.ownBlock=some g->Xk g/\B<=g:=λg e=>⟨F g e,(A.lt g e).1⟩;cases hl:vh 0 (65+k) ds with
  |none=>
   rw[hl]at y;obtain⟨E,rfl⟩:=y;have he:zx ds (65+k)=none:=by unfold zx;rw[hl];rfl
   have hf:xK (zx ds) k=[]:=zd_
   refine⟨so,fv,sb,o,n,ys,h1,by rw[hf];exact yl A,C,by rw[hf];intro q f p;simp at p,by rw[he];exact E⟩
  |some q=>
   obtain⟨pb,b⟩:=q;rw[hl]at y;have he:zx ds (65+k)=some pb:=by unfold zx;rw[hl];rfl
   obtain⟨F,e',H⟩:=FB hl;cases pb with
   |recd fs=>
    obtain⟨d1,rfl,rfl,_⟩:=y;have hf:xK (zx ds) k=fs:=zd_
    refine⟨so,fv,sb,o,n,_,h1,by rw[hf];exact yl A,C,?_,by rw[he];exact d1⟩;rw[hf];refine Ws (fO _ _ _ (λq x p=>?_));have:=H q x p;rw[e',be_,ar_ (ak_.1 this).1];exact this
   |enum l un=>
    obtain⟨d1,rfl,E,d3,_⟩:=y;have hf:xK (zx ds) k=[]:=zd_
    exact⟨so,fv,sb,o,n,ys,h1,by rw[hf];exact yl A,C,by rw[hf];intro q f p;simp at p,by rw[he];exact⟨d1,E,d3⟩⟩
   |bytes m=>
    obtain⟨d1,rfl,_,E⟩:=y;have hf:xK (zx ds) k=[]:=zd_
    exact⟨so,fv,sb,o,n,ys,h1,by rw[hf];exact yl A,C,by rw[hf];intro q f p;simp at p,by rw[he];exact⟨d1,E⟩⟩
def Kf(ts:Ap)(t:PT):isT (ts++flat ts.length t) (ts.length+(flat ts.length t).length-1) t:=
 rb _ t _ (λq x a=>by rw[aw_ M_,b7_];exact a)
def xC.sortAt{W:Aw}{X:Az}{B:Nat}{s:BA}{zs:Ay}{ds:Ar}(h:xC W X B s zs ds){k:Nat}(hk:k<6):∃so:Int,zs[5*k]?=some (.int .u8 so)/\(so==0)=(zx ds (65+k)).isNone:=by
 obtain⟨so,fv,sb,o,n,a,ys,h1,a,a,a⟩:=h.2 k hk;refine⟨so,h1 0 M_,?_⟩;unfold zx;cases hl:vh 0 (65+k) ds with
 |none=>rw[hl]at a;rw[a.1];rfl
 |some q=>
  obtain⟨pb,b⟩:=q;rw[hl]at a;have:=a.sort;simp only[by_,Option.isNone_some,beq_eq_false_iff_ne];exact this
mutual
def ur:∀(t:PT),shT t->∀u∈zZ t,zY u.1=true
 | .leaf c p,h,u,hu=>by
  simp only[zZ]at hu;cases hb:zi c with
  |true=>rw[hb]at hu;simp at hu
  |false=>
   rw[hb]at hu;simp only[a1_,if_false,a2_]at hu;subst hu;simp only[shT,hb]at h;exact h.resolve_left D_
 | .wrap c p t,h,u,hu=>ur t h.2 u hu
 | .alts p l,h,u,hu=>kT l h.2 u hu
def kT:∀(l:List PT),eS l->∀u∈zX l,zY u.1=true
 | [],_,u,hu=>by simp[zX]at hu
 |t::r,h,u,hu=>by
  simp only[zX]at hu;rcases a4_.1 hu with hu|hu
  .exact ur t h.1 u hu
  .exact kT r h.2 u hu
end
def XY:∀(l:List PT),(∀t∈l,shT t)->eS l
 | [],_=>trivial
 |t::r,h=>⟨h t (by simp),XY r (λu hu=>h u (by simp[hu]))⟩
def nS{N:Nat}:∀(ds:List PD),(∀d∈ds,shB N d.body)->∀u∈jm ds,zY u.1=true
 | [],_,u,hu=>by simp[jm]at hu
 |d::r,h,u,hu=>by
  simp only[jm]at hu;rcases a4_.1 hu with hu|hu
  .have hb:=h d x6_;cases hd:d.body with
   |recd fs=>
    rw[hd]at hb hu;refine kT _ (XY _ (λt a=>?_)) u hu;obtain⟨f,hf,rfl⟩:=a7_.1 a;exact hb.1 f hf
   |enum l o=>rw[hd]at hu;simp[PB.us]at hu
   |bytes n=>rw[hd]at hu;simp[PB.us]at hu
  .exact nS r (λd hd=>h d (by simp[hd])) u hu
def mh{us:As}{p:Nat×Nat}(h:us[q]?=some p):(jc us)[2*q]?=some (U_ p.1)/\(jc us)[2*q+1]?=some (I_ p.2):=by
 induction us generalizing q with
 |nil=>simp at h
 |cons x r ih=>
  cases q with
  |zero=>simp only[aa_,af_]at h;subst h;exact⟨rfl,rfl⟩
  |succ q=>
   rw[ab_]at h;obtain⟨a,b⟩:=ih h;refine⟨?_,?_⟩
   .rw[show 2*(q+1)=2*q+1+1 by omega];exact a
   .rw[show 2*(q+1)+1=2*q+1+1+1 by omega];exact b
def QX{env:Au}{us:As}{u:Nat×Nat}(h:us[q]?=some u)(m:Int):wrU env (us.take (q+1)) m=if (env u.1).isNone=true then zF (u.2:Int) (wrU env (us.take q) m) else wrU env (us.take q) m:=by
 rw[a8_,h];unfold wrU;rw[List.foldl_append];rfl
def zu(s:BA):Int×Int:=
 if 300<s.size then (1,0)
 else match ze s with
  | .error k=>(2,(k:Int))
  | .ok (ds,t)=>
   if 0<=wrU (zx ds) (jm ds++zZ t) (qy [] ds (-1)) then (3,wrU (zx ds) (jm ds++zZ t) (qy [] ds (-1)))
   else if 0<=mix t (qp ds (-1)) then (4,mix t (qp ds (-1)))
   else if 0<=xk s (zx ds) 6 then (5,xk s (zx ds) 6)
   else (0,0)
def Gh(W:Aw)(lo:Nat)(s:BA)(zv:Ax):Prop:=
 ∃(bz:Nat) (ds:List PD) (t:PT) (ts:List TR) (root:Nat) (P1 P2:Nat->Prop),zv=P_ bz/\ze s=.ok (ds,t)/\SZ W P1 P2 bz s ts (zx ds) (I_ root)/\isT ts root t/\qW (zx ds)/\okT (zx ds) t/\
  (∀g,P1 g\/P2 g->g<W.heap.size)/\(∀g,P2 g->lo<=g)/\ts=xI 0 ds++flat (xI 0 ds).length t/\ts.length<=300
def kH(w:Aw)(s:BA)(e:Ak)(w':Aw):Prop:=
 ∃zv,e=.returned (.tuple #[zv,Z_ (zu s).1,Z_ (zu s).2])/\Fr w w' N_/\if (zu s).1=0 then Gh w' w.heap.size s zv else zv=.pointer none
def eQ:List Value:=zS++zS++zS++zS++zS++zS++[O_]
def pw(w:Aw)(s:BA):World:=
 (w.alloc (.cells (Value.slice none 0 0::eQ).toArray 65)).alloc (.cells #[.string s,O_,.bool false,P_ w.heap.size,L_,Z_ (-1),Z_ (-1)] 68)
def BO(w:Aw)(s:BA)(hs:s.size<=300):Rep (pw w s) N_ (w.heap.size+1) w.heap.size (w.heap.size+2) s 0 false (-1) (-1) [] [] eQ (L_) (L_):=by
 refine⟨?_,(B_ w _ _).alloc _,⟨[],World.ownsRow_nil _ _ _ _,λk t a=>by simp at a⟩,World.ownsRow_nil _ _ _ _,λg hg=>by simp[Value.ownBlock]at hg,M_,M_,by simp[pw],M_,am_ _,hs,am_ _,am_ _,λg hg=>hg.elim⟩;have:=B_ (w.alloc (.cells (Value.slice none 0 0::eQ).toArray 65)) #[.string s,O_,.bool false,P_ w.heap.size,L_,Z_ (-1),Z_ (-1)] 68;have e:(w.alloc (.cells (Value.slice none 0 0::eQ).toArray 65)).heap.size=w.heap.size+1:=x6_
 rw[e]at this;exact this
def Fk(w:Aw)(s:BA):xC (pw w s) N_ (w.heap.size+2) s eQ []:=by
 refine⟨rfl,λk hk=>⟨0,L_,⟨#[]⟩,0,0,0,[],λp hp=>?_,World.ownsRow_nil _ _ _ _,λg hg=>by simp[Value.ownBlock]at hg,?_⟩⟩
 .match k,hk with
  | 0,_=>match p,hp with|0,_=>rfl|1,_=>rfl|2,_=>rfl|3,_=>rfl|4,_=>rfl
  | 1,_=>match p,hp with|0,_=>rfl|1,_=>rfl|2,_=>rfl|3,_=>rfl|4,_=>rfl
  | 2,_=>match p,hp with|0,_=>rfl|1,_=>rfl|2,_=>rfl|3,_=>rfl|4,_=>rfl
  | 3,_=>match p,hp with|0,_=>rfl|1,_=>rfl|2,_=>rfl|3,_=>rfl|4,_=>rfl
  | 4,_=>match p,hp with|0,_=>rfl|1,_=>rfl|2,_=>rfl|3,_=>rfl|4,_=>rfl
  | 5,_=>match p,hp with|0,_=>rfl|1,_=>rfl|2,_=>rfl|3,_=>rfl|4,_=>rfl
 .exact⟨rfl,rfl⟩
def PH{w w1:Aw}{s:BA}{tv u:Ax}(st:zT (pw w s) w1 (w.heap.size+1) w.heap.size (L_) (L_) tv u):Fr w w1 N_:=
 (show Fr w (pw w s) N_ from((A_ w _).alloc _).alloc _).trans st.fr (λx hx e=>by
  rcases e with e|e|e|e
  .omega
  .omega
  .simp[Value.ownBlock]at e
  .simp[Value.ownBlock]at e)
def kQ{w w1 W:Aw}{s:BA}{a b:Int}(h:zu s=(a,b))(ha:a≠0)(hf:Fr w w1 N_)(e:zq w1 W):kH w s (.returned (.tuple #[.pointer none,Z_ a,Z_ b])) W:=by
 refine⟨.pointer none,by rw[h],hf.si e,?_⟩;rw[h];rw[n_ ha]
def ah{w:Aw}{s:BA}:Calls prog 12 #[.string s] w (kH w s):=by
 refine hq_ λK C=>?_;by_cases hl:300<s.size
 .have K:(300:Int)<(s.size:Int):=M_;go_in;go_wp2;refine bodyPost_ret (v:=.tuple #[.pointer none,Z_ 1,O_]) xl_ rfl ?_;rw[C.o];exact kQ (by unfold zu;rw[i_ hl]) D_ (A_ _ _) (zq.refl _)
 .have K:¬(300:Int)<(s.size:Int):=M_;have hs:s.size<=300:=M_;have Y:=zy (BO w s hs);have V:=zy (Fk w s);cases hp:ze s with
  |error k=>
   have b:=zy (show zu s=(2,(k:Int)) by unfold zu;rw[n_ hl,hp]);replace hp:=zy hp;go_in;go_wp2_with (go_at_call 20;apply(tQ Y V).mono;rintro e w1 ⟨rfl,A⟩;unfold jb at A;rw[hp.o]at A;obtain⟨Xk,zs,tv,u,wg,MX,TS,US,a,p,_⟩:=A;have a0:=a.here.c2;have y:=a.here.c1;replace a:=zy a;replace p:=zy p);go_quiet (fail);go_wp2;refine bodyPost_ret (v:=.tuple #[.pointer none,Z_ 2,I_ k]) xl_ rfl ?_;rw[C.o];exact kQ b D_ (PH p) xp_
  |ok r=>
   obtain⟨ds,t⟩:=r;obtain⟨us,G⟩:=e_ (jm ds++zZ t);have K:=jL hp;have T:∀x∈us,zY x.1=true:=λx hx=>by
    rw[G]at hx;rcases a4_.1 hx with hx|hx
    .exact nS ds K.1 x hx
    .exact ur t K.2 x hx
   replace hp:=zy hp;replace G:=zy G;replace T:=zy T;replace K:=zy K;go_in;go_wp2_with (go_at_call 20;apply(tQ Y V).mono;rintro e w1 ⟨rfl,A⟩;unfold jb at A;rw[hp.o]at A;obtain⟨Xk,zs,tv,u,y,Q⟩:=A;rw[<- G.o]at y;have a0:=y.R.here.c2;replace y:=zy y;replace Q:=zy Q);obtain⟨ua,uc,rfl⟩:=zw y.o.R.uses;obtain⟨N,L⟩:=e_ (qy [] ds (-1));replace L:=zy L;have A:us.length<=300:=by have:=y.o.R.ul;omega
   have start:∃q:Nat,q<=us.length/\us.length+1-q<=us.length+1/\Value.int .i64 0=I_ q/\WM (pw w s) (λx=>False) (w.heap.size+1) w.heap.size (w.heap.size+2) s (L_) (L_) ds s.size false (wrU (zx ds) (us.take q) N) (mix t (qp ds (-1))) (xI 0 ds++flat (xI 0 ds).length t) us Xk zs tv (.slice ua us.length uc) w1:=⟨0,M_,M_,rfl,by rw[L.o];exact y⟩;replace start:=zy start;go_loopg [6] (us.length+1) (λmm y W=>∃q:Nat,q<=us.length/\us.length+1-q<=mm/\y=I_ q/\WM (pw w s) (λx=>False) (w.heap.size+1) w.heap.size (w.heap.size+2) s (L_) (L_) ds s.size false (wrU (zx ds) (us.take q) N) (mix t (qp ds (-1))) (xI 0 ds++flat (xI 0 ds).length t) us Xk zs tv (.slice ua us.length uc) W);case atStart=>exact start
   case round=>
    obtain⟨q,y,y,rfl,M⟩:=hrel;obtain⟨m,hm⟩:=x_ (wrU (zx ds) (us.take q) N);rw[hm]at M;replace hm:=zy hm;have c4:=M.R.here.c4;have c3:=M.R.here.c3;have c5:=M.R.here.c5;have c6:=M.R.here.c6;by_cases y:q<us.length
    .have a3:(q:Int)<(us.length:Int):=M_;obtain⟨x,hx⟩:∃x,us[q]?=some x:=⟨_,aj_ y⟩;have H:=T.o x (ai_ hx);have J:=zy (QX (env:=zx ds) hx N);obtain⟨O,y,p⟩:=zg M.R.uses M_;simp only[Value.slice.injEq,true_and]at p;obtain⟨rfl,rfl⟩:=p;have F:=zr M.R.uses rfl (mh hx).1;have E:=zr M.R.uses rfl (mh hx).2;rw[bh_]at F E;obtain⟨c,K⟩:=x;simp only at F E H J;have p:65<=c/\c<=70:=by simpa[zY] using H
     obtain⟨p,y⟩:∃k,c=65+k:=⟨c-65,M_⟩;obtain⟨so,A,I⟩:=M.D.sortAt (k:=p) M_;have z0:wr.cell? ⟨w.heap.size,1+p*5,none⟩=some (.int .u8 so):=by
      rw[M.R.z.cell,show 1+p*5=5*p+1 by omega,ab_];exact A
     rw[<- y]at I;have N:=tX p c y M_;have N:(p:Int)<6:=M_;have N:(c:Int)-65=(p:Int):=M_;replace M:=zy M;replace y:=zy y;cases hb:(zx ds c).isNone with
     |true=>
      rw[hb]at I;replace hb:=zy hb;go_wp2;go_quiet (fail);have a:=zy (M.o.si (zq.drewN wr nq));have p:=a.o.R.here.c4;have p:(wr.drewN nq).cell? ⟨O,q*2+1,none⟩=some (I_ K):=E;generalize wr.drewN nq=W2 at *;go_wp2_with (go_at_call 21;apply(qa a.o.R).mono;rintro e p ⟨rfl,p,y⟩;have A:=zy (a.o.call p y));go_roundg (us.length+1-(q+1));case measure=>omega
      case rel=>exact⟨q+1,M_,l_,by simp,by rw[J.o,hm.o,i_ hb.o];exact A⟩
     |false=>
      rw[hb]at I;replace hb:=zy hb;go_wp2;go_quiet (fail);have a:=zy (M.o.si (zq.drewN wr nq));generalize wr.drewN nq=W2 at *;go_wp2;go_roundg (us.length+1-(q+1));case measure=>omega
      case rel=>exact⟨q+1,M_,l_,by simp,by rw[J.o,hm.o,n_ zj_];exact a⟩
    .have a3:¬(q:Int)<(us.length:Int):=M_;have J:wrU (zx ds) (jm ds++zZ t) (qy [] ds (-1))=m:=by rw[<- G.o,<- L.o,<- hm.o,bc_ M_]
     obtain⟨mx,F⟩:=e_ (mix t (qp ds (-1)));simp only[<- F]at c6;have b:zu s=if 0<=m then (3,m) else if 0<=mx then (4,mx) else if 0<=xk s (zx ds) 6 then (5,xk s (zx ds) 6) else (0,0):=by
      unfold zu;rw[n_ hl,hp.o];simp only;rw[J,<- F]
     have I:=zy (PH M.st);replace J:=zy J;replace F:=zy F;by_cases y:0<=m
     .rw[i_ y]at b;replace b:=zy b;replace M:=zy M;go_wp2;go_quiet (fail);go_wp2;refine bodyPost_ret (v:=.tuple #[.pointer none,Z_ 3,Z_ m]) xl_ rfl ?_;rw[C.o];exact kQ b D_ I xp_
     .rw[n_ y]at b;by_cases y:0<=mx
      .rw[i_ y]at b;replace b:=zy b;replace M:=zy M;go_wp2;go_quiet (fail);go_wp2;refine bodyPost_ret (v:=.tuple #[.pointer none,Z_ 4,Z_ mx]) xl_ rfl ?_;rw[C.o];exact kQ b D_ I xp_
      .rw[n_ y]at b;have p:=uo (m0:=qy [] ds (-1)) (m1:=-1) hs hp (by rw[J.o];omega) (by rw[<- F.o];omega);have Z:=QF M Q;have X:=zy (show jo wr _ _ w.heap.size s _ (zx ds) _ wr from⟨Z,A_ _ _,λg hg=>hg.1,λg hg=>(M.R.av g hg.1).1⟩);have a1:¬(Xk (w.heap.size+1)/\w.heap.size+2<=w.heap.size+1):=λh=>by omega
       obtain⟨dv,E⟩:=e_ (xk s (zx ds) 6);rw[<- E]at b;replace b:=zy b;replace E:=zy E;have U:=zy M.R.here;replace M:=zy M;replace p:=zy p;by_cases a2:0<=dv
       .have H:=zy (show zu s=(5,dv) by rw[b.o,i_ a2]);go_wp2_with (go_at_call 22;apply(mI X hs p.o.1 (λk _=>p.o.2.2.1 k) (λk f _ hf=>p.o.2.2.2 k f hf)).mono;rintro e w2 ⟨rfl,a⟩;rw[<- E.o];have O:=(a.fr.bl U a1).cell 3;simp only[RV.cells,aa_,ab_]at O;replace a:=zy a);refine bodyPost_ret (v:=.tuple #[.pointer none,Z_ 5,Z_ dv]) xl_ rfl ?_;rw[C.o];exact kQ H D_ (I.o.trans a.o.fr (λx hx e=>o1_ e.2)) (zq.refl _)
       .have H:=zy (show zu s=(0,0) by rw[b.o,n_ a2]);go_wp2_with (go_at_call 22;apply(mI X hs p.o.1 (λk _=>p.o.2.2.1 k) (λk f _ hf=>p.o.2.2.2 k f hf)).mono;rintro e w2 ⟨rfl,a⟩;rw[<- E.o];have O:=(a.fr.bl U a1).cell 3;simp only[RV.cells,aa_,ab_]at O;replace a:=zy a);refine bodyPost_ret (v:=.tuple #[P_ w.heap.size,O_,O_]) xl_ rfl ?_;rw[C.o];refine⟨_,by rw[H.o],I.o.trans a.o.fr (λx hx e=>o1_ e.2),?_⟩;rw[H.o,i_ rfl];have b:=a.o.fr.size;exact⟨w.heap.size,ds,t,_,_,_,_,rfl,hp,a.o.Z,Kf _ _,p.o.1,p.o.2.1,λg hg=>by rcases hg with hg|hg;have:=a.o.l1 g hg;omega;have:=a.o.l2 g hg;omega,λg hg=>o1_ hg.2,rfl,al_ M.o.R.tl hs⟩
def ph(s:BA)(i k N sn:Nat):Bool:=decide (k≠i/\¬(bt s i=48/\k-i > 1)/\N<sn)
def aj{R:Aj}{s:BA}{l:Af}{i k N:Nat}(b:bt s i=60)(hk:yY s (i+1)=k)(a:wV s (i+1) (k-(i+1))=N):yQ R s false l i=if ph s (i+1) k N l.length=true/\bt s k=58 then (match l[N]? with|none=>none|some t=>match R t (k+1) with|none=>none|some (d,j)=>if bt s j=62 then some (.mk 40 (N:Int) noB [] [d],j+1) else none) else none:=by
 unfold yQ;rw[n_ D_,hk,a];unfold ph;by_cases hg:k≠i+1/\¬(bt s (i+1)=48/\k-(i+1) > 1)
 .by_cases a:bt s k=58
  .rw[i_ ⟨b,hg.1,hg.2,a⟩];by_cases hl:N<l.length
   .rw[i_ ⟨decide_eq_true ⟨hg.1,hg.2,hl⟩,a⟩];try rfl
   .rw[n_ (λh=>hl (of_decide_eq_true h.1).2.2),bm_ M_]
  .rw[n_ (λh=>a h.2.2.2),n_ (λh=>a h.2)]
 .rw[n_ (λh=>hg ⟨h.2.1,h.2.2.1⟩),n_ (λh=>hg ⟨(of_decide_eq_true h.1).1,(of_decide_eq_true h.1).2.1⟩)]
def wF:Nat->Nat->List Nat
 | 0,z=>[z]
 |f+1,z=>if z<128 then [z] else (z % 128+128)::wF f (z / 128)
def leb(z:Nat):List Nat:=wF 10 z
def bts(l:Ao):BA:=⟨(l.map UInt8.ofNat).toArray⟩
def rW(a b:Ao):bts (a++b)=bts a++bts b:=by
 unfold bts;apply b2_;simp
def yP(l:Ao):(bts l).size=l.length:=by unfold bts;show(l.map UInt8.ofNat).toArray.size=_;simp
def kB(n:Int):Nat:=if n<0 then 2*(-(n+1)).toNat+1 else 2*n.toNat
def zH(n:Int):BA:=bts (leb (kB n))
def oc:∀f z,(wF f z).length<=f+1
 | 0,_=>by simp[wF]
 |f+1,z=>by
  unfold wF;split
  .simp
  .have:=oc f (z / 128);simp only[au_];omega
def xo(n:Int):(zH n).size<=11:=by
 unfold zH leb;rw[yP];exact oc 10 _
mutual
def ndT:DT->Nat
 | .mk _ _ _ _ ds=>1+za ds
def za:List DT->Nat
 | []=>0
 |d::r=>ndT d+za r
end
def lR:∀a b:List DT,za (a++b)=za a+za b
 | [],b=>by simp[za]
 |d::r,b=>by simp only[bk_,za,lR r b];omega
def xR:∀ds:List DT,ds.length<=za ds
 | []=>l_
 |d::r=>by
  have:=xR r;have h1:1<=ndT d:=by obtain⟨_,_,_,_,_⟩:=d;unfold ndT;omega
  simp only[au_,za];omega
def xJ{ds:Ae}{d:DT}(h:ds[q]?=some d):za (ds.take (q+1))=za (ds.take q)+ndT d/\za (ds.take q)+ndT d<=za ds:=by
 have e:ds.take (q+1)=ds.take q++[d]:=by rw[a8_,h];rfl
 have a:za (ds.take (q+1))=za (ds.take q)+ndT d:=by rw[e,lR];simp[za]
 refine⟨a,?_⟩;rw[<- a];conv=>rhs;rw[<- List.take_append_drop (q+1) ds,lR]
 omega
def mH{m:Nat}:∀(n:Nat) (X:Nat->List Value),(∀i,i<n->(X i).length=m)->∀q j,q<n->j<m->((List.range n).flatMap X)[q*m+j]?=(X q)[j]?:=by
 intro n;induction n with
 |zero=>intro X _ q j a;omega
 |succ n ih=>
  intro X hX q j a b;have hl:((List.range n).flatMap X).length=n*m:=by
   clear ih a;induction n with
   |zero=>simp
   |succ n ih2=>
    rw[bv_,bb_,ag_,ih2 (λi hi=>hX i M_)];simp only[a9_,b5_,bg_];rw[hX n M_,Nat.succ_mul]
  rw[bv_,bb_];simp only[a9_,b5_,bg_];by_cases a:q<n
  .have:q*m+j<n*m:=by
    have:=b4_ m (show q+1<=n by omega);rw[Nat.add_mul,Nat.one_mul]at this;omega
   rw[ar_ M_];exact ih X (λi hi=>hX i M_) q j a b
  .have e:q=n:=M_;subst e;rw[aw_ M_,hl,b7_]
mutual
def byT:DT->BA
 | .mk k n tx ks ds=>
  if k=116 then bts [n.toNat]
  else if k=105\/k=108\/k=101 then zH n
  else if k=115 then zH tx.size++tx
  else if k=102 then tx
  else (if k=40 then zH n else if k=91\/k=123 then zH ds.length else noB)++yS (k==123) ks ds
def yS(keyed:Aq):List BA->List DT->BA
 | _,[]=>noB
 |ks,d::r=>((if keyed=true then zH (ks.headD noB).size++ks.headD noB else noB)++byT d)++yS keyed ks.tail r
end
def dO(k:Nat):Prop:=k=110\/k=116\/k=105\/k=108\/k=115\/k=91\/k=123\/k=40\/k=114\/k=101\/k=102
mutual
def okD:DT->Prop
 | .mk k n tx ks ds=>(-9223372036854775808<=n/\n<=9223372036854775807/\dO k)/\(k=116->0<=n/\n<=1)/\tx.size<=4000/\(∀x∈ks,x.size<=4000)/\(k=123->ks.length=ds.length)/\kx ds
def kx:List DT->Prop
 | []=>True
 |d::r=>okD d/\kx r
end
def jH(b:BA):noB++b=b:=by apply b2_;simp[noB]
def wn(b:BA):b++noB=b:=by apply b2_;simp[noB]
def itB(keyed:Aq)(k:BA)(d:DT):BA:=(if keyed=true then zH k.size++k else noB)++byT d
def uO(keyed:Aq):∀(ds:List DT) (ks:List BA) (q:Nat) (d:DT),ds[q]?=some d->yS keyed ks (ds.take (q+1))=yS keyed ks (ds.take q)++itB keyed (ks.getD q noB) d
 | [],ks,q,d,h=>by simp at h
 |a::r,ks,0,d,h=>by
  simp only[aa_,af_]at h;subst h;simp only[cg_,List.take_zero,yS,itB,jH,wn];cases ks<;>rfl
 |a::r,ks,q+1,d,h=>by
  simp only[ab_]at h;have e:=uO keyed r ks.tail q d h;have b:ks.tail.getD q noB=ks.getD (q+1) noB:=by cases ks<;>simp
  simp only[cg_,yS];rw[e,b];simp only[bj_]
mutual
def WA:∀d:DT,okD d->(byT d).size+4011<=8022*ndT d
 | .mk k n tx ks ds,h=>by
  unfold okD at h;have h1:=xo n;have a:=xo tx.size;have a:=xo ds.length;have b:=fe (k==123) ks ds h.2.2.2.1 h.2.2.2.2.2;unfold byT ndT;split
  .rw[yP];simp only[ao_];omega
  .split
   .omega
   .split
    .rw[ah_];omega
    .split
     .omega
     .rw[ah_];have b:(if k=40 then zH n else if k=91\/k=123 then zH ds.length else noB).size<=11:=by
       split
       .exact h1
       .split
        .exact a
        .show(0:Nat)<=11;omega
      omega
def fe(keyed:Aq):∀(ks:List BA) (ds:List DT),(∀x∈ks,x.size<=4000)->kx ds->(yS keyed ks ds).size<=8022*za ds
 | _,[],_,_=>by unfold yS;show(0:Nat)<=_;omega
 |ks,d::r,hk,h=>by
  unfold kx at h;have h1:=WA d h.1;have b:=fe keyed ks.tail r (λx hx=>hk x (List.mem_of_mem_tail hx)) h.2;have b:=xo (ks.headD noB).size;have b:(ks.headD noB).size<=4000:=by
   cases ks with
   |nil=>show(0:Nat)<=4000;omega
   |cons a t=>exact hk a (bo_ ..)
  have b:(if keyed=true then zH (ks.headD noB).size++ks.headD noB else noB).size<=4011:=by
   split
   .rw[ah_];omega
   .show(0:Nat)<=4011;omega
  unfold yS za;rw[ah_,ah_];omega
end
def uJ:∀{ds:List DT},kx ds->∀q,kx (ds.take q)
 | [],h,q=>by simpa using h
 |d::r,h,0=>by simp[kx]
 |d::r,h,q+1=>by
  unfold kx at h;simp only[cg_,kx];exact⟨h.1,uJ h.2 q⟩
def qi(n:Int):BA:=⟨(Lib.itoa n).toArray⟩
def JS{n:Int}(h0 : -9223372036854775808<=n)(h1:n<=9223372036854775807):(qi n).size<=21:=by
 unfold qi;show(Lib.itoa n).toArray.size<=21;rw[List.size_toArray];exact Lib.itoa_length_le n h0 h1
def jn:Nat->List BA->BA
 | _,[]=>noB
 |i,a::r=>(if i=0 then noB else bts [44])++(a++jn (i+1) r)
def wq(a:BA):a++noB=a:=by apply b2_;simp[noB]
def uP(a:BA):noB++a=a:=by apply b2_;simp[noB]
def em:∀(l:List BA) (i:Nat) (a:BA),jn i (l++[a])=jn i l++((if i+l.length=0 then noB else bts [44])++a)
 | [],i,a=>by simp only[bq_,jn,wq,uP,av_,bp_]
 |b::r,i,a=>by
  simp only[bk_,jn,au_];have e:i+(r.length+1)=i+1+r.length:=M_;rw[em r (i+1) a];simp only[e,bj_]
def yg(env:Au)(t:PT)(n i:Nat):PT:=
 match t with
 | .wrap _ _ u=>u
 | .alts _ ts=>ts.getD n (.leaf 0 0)
 | .leaf c _=>match env c with|some (.recd fs)=>(fs.map PF.ty).getD i (.leaf 0 0)|_=>.leaf 0 0
def fU(env:Au)(t:PT)(n:Nat):Nat:=
 match t with
 | .leaf c _=>match env c with|some (.enum l _)=>(l.map Prod.fst).getD n 0|_=>0
 | _=>0
def ky(k:Nat)(b:BA):BA:=if k=91 then bts [91]++(b++bts [93]) else if k=123 then bts [123]++(b++bts [125]) else bts [40]++(b++bts [41])
mutual
def txT(env:Au):DT->PT->BA
 | .mk k n tx ks ds,t=>
  if k=110 then bts [78]
  else if k=116 then (if n=1 then bts [84] else bts [70])
  else if k=105\/k=108 then qi n
  else if k=115 then bts [34]++(tx++bts [34])
  else if k=102 then bts [39]++(tx++bts [39])
  else if k=101 then bts [fU env t n.toNat]
  else if k=40 then bts [60]++(qi n++(bts [58]++(jn 0 (yU env t n.toNat 0 false ks ds)++bts [62])))
  else ky k (jn 0 (yU env t n.toNat 0 (k==123) ks ds))
def yU(env:Au)(t:PT)(n:Nat):Nat->Bool->List BA->List DT->List BA
 | _,_,_,[]=>[]
 |i,keyed,ks,d::r=>((if keyed=true then ks.headD noB++bts [58] else noB)++txT env d (yg env t n i))::yU env t n (i+1) keyed ks.tail r
end
def lS(env:Au)(t:PT)(n:Nat):∀(ds:List DT) (i:Nat) (keyed:Bool) (ks:List BA),(yU env t n i keyed ks ds).length=ds.length
 | [],_,_,_=>by simp[yU]
 |d::r,i,keyed,ks=>by simp only[yU,au_,lS env t n r]
def itT(env:Au)(t:PT)(n:Nat)(keyed:Aq)(ks:Dq)(q:Nat)(d:DT):BA:=(if keyed=true then ks.getD q noB++bts [58] else noB)++txT env d (yg env t n q)
def nG(env:Au)(t:PT)(n:Nat):∀(ds:List DT) (i:Nat) (keyed:Bool) (ks:List BA) (q:Nat) (d:DT),ds[q]?=some d->(yU env t n i keyed ks ds)[q]?=some ((if keyed=true then ks.getD q noB++bts [58] else noB)++txT env d (yg env t n (i+q)))
 | [],i,keyed,ks,q,d,h=>by simp at h
 |e::r,i,keyed,ks,0,d,h=>by
  simp only[aa_,af_]at h;subst h;simp only[yU,aa_,bp_];cases ks<;>rfl
 |e::r,i,keyed,ks,q+1,d,h=>by
  simp only[ab_]at h;simp only[yU,ab_];rw[nG env t n r (i+1) keyed ks.tail q d h,show i+1+q=i+(q+1) by omega];cases ks with
  |nil=>simp
  |cons a l=>simp
def upT(env:Au)(t:PT)(n:Nat)(keyed:Aq)(ks:Dq)(ds:Ae)(q:Nat):BA:=jn 0 ((yU env t n 0 keyed ks ds).take q)
def nQ{env:Au}{n:Nat}{keyed:Aq}{ks:Dq}{ds:Ae}{d:DT}(h:ds[q]?=some d):upT env t n keyed ks ds (q+1)=upT env t n keyed ks ds q++((if q=0 then noB else bts [44])++itT env t n keyed ks q d):=by
 have a:q<ds.length:=(ak_.1 h).1;unfold upT;rw[a8_,nG env t n ds 0 keyed ks q d h];simp only[Option.toList_some];rw[em,b9_,lS,show 0+min q ds.length=q by omega,show 0+q=q by omega];rfl
def tN(env:Au)(t:PT)(n:Nat)(keyed:Aq)(ks:Dq)(ds:Ae):upT env t n keyed ks ds 0=noB:=by unfold upT;rw[List.take_zero];rfl
def sH{env:Au}{n:Nat}{keyed:Aq}{ks:Dq}{ds:Ae}(h:ds.length<=q):upT env t n keyed ks ds q=jn 0 (yU env t n 0 keyed ks ds):=by
 unfold upT;rw[bc_ (by rw[lS];exact h)]
section
variable {w w':Aw} {bd:Nat} {s:BA} {bz i:Nat} {er:Int} {n:Nat}
end
section
variable {w:Aw} {bd:Nat} {s:BA} {bz i:Nat} {er:Int} {n:Nat}
end
def cJ(s:BA)(i k acc:Nat):Option (Nat×Nat):=
 match gn s (10-k) (i+k) with
 |none=>none
 |some (z,j)=>if z=0/\0<k then none else some (acc+128 ^ k*z,j)
def Je(s:BA)(i:Nat):cJ s i 0 0=gn s 10 i:=by
 unfold cJ;rw[show 10-0=10 from rfl,bp_];cases gn s 10 i with
 |none=>rfl
 |some q=>
  obtain⟨z,j⟩:=q;simp
def Wm{s:BA}{i k:Nat}(hk:k<=9)(h:s.size<=i+k):cJ s i k acc=none:=by
 unfold cJ;rw[show 10-k=(9-k)+1 by omega,gn,n_ M_]
def nk{s:BA}{i k:Nat}(hk:k<=9)(h:i+k<s.size)(hb:bt s (i+k)<128):cJ s i k acc=if bt s (i+k)=0/\0<k then none else some (acc+128 ^ k*bt s (i+k),i+k+1):=by
 unfold cJ;rw[show 10-k=(9-k)+1 by omega,gn,i_ h,i_ hb]
def nj{s:BA}{i k:Nat}(hk:k<=9)(h:i+k<s.size)(hb:¬bt s (i+k)<128):cJ s i k acc=if k=9 then none else cJ s i (k+1) (acc+128 ^ k*(bt s (i+k)-128)):=by
 unfold cJ;rw[show 10-k=(9-k)+1 by omega,gn,i_ h,n_ hb];by_cases a:k=9
 .subst a;rw[i_ rfl];simp[gn]
 .rw[n_ a,show 10-(k+1)=9-k by omega,show i+k+1=i+(k+1) by omega];cases gn s (9-k) (i+(k+1)) with
  |none=>rfl
  |some q=>
   obtain⟨z,j⟩:=q;simp only;by_cases hz:z=0
   .rw[i_ hz,i_ ⟨hz,M_⟩]
   .rw[n_ hz,n_ (λx=>hz x.1)];simp only;rw[n_ (λx=>M_)];have e:acc+128 ^ k*(bt s (i+k)-128+128*z)=acc+128 ^ k*(bt s (i+k)-128)+128 ^ (k+1)*z:=by
     rw[Nat.pow_succ,Nat.mul_add,Nat.mul_assoc,bd_]
    rw[e]
def Uz(k:Nat):1<=128 ^ k:=Nat.one_le_pow _ _ D_
def VU{k:Nat}(h:k<=8):128 ^ (k+1)<=9223372036854775808:=al_ (Nat.pow_le_pow_right D_ (show k+1<=9 by omega)) D_
def mP{s:BA}{i k:Nat}(h:i+k<=zo s i):zo s (i+k)=zo s i:=by
 induction k with
 |zero=>rfl
 |succ k ih=>
  have h1:=ih M_;rw[<- h1];unfold zo at *;conv=>rhs;rw[zt]
  split
  .split
   .rfl
   .rename_i a b;rw[zt,dif_pos a,n_ b]at h1;omega
  .rename_i a;rw[zt,dif_neg a]at h1;omega
section
variable {w W W':Aw} {P:Az} {bd:Nat} {s:BA} {bz i n i' n':Nat} {er er':Int} {ts:Ap} {env:Au}
end
section
variable {w W W':Aw} {P:Az} {bd:Nat} {s:BA} {bz j m:Nat} {er:Int} {ts:Ap} {env:Au} {k:Nat} {n:Int} {tx:BA} {vk vs:Ax} {d:DT} {r:Except Nat (DT×Nat×Nat)}
end
section
variable {w:Aw} {P:Az} {bd:Nat} {s:BA} {bz i n:Nat} {er:Int} {ts:Ap} {env:Au}
end
section
variable {w W W':Aw} {P:Az} {bd:Nat} {s:BA} {bz j j' nn nn':Nat} {er er':Int} {cx:Ay} {ct:Av} {ts:Ap} {env:Au} {b0 b1 B c:Nat} {vk vs:Ax} {ks:Dq} {n:Nat} {xs:Ay} {ds:Ae}
end
section
variable {w W W':Aw} {P:Az} {bd:Nat} {s:BA} {bz j m b0:Nat} {er:Int} {ts:Ap} {env:Au} {k:Nat} {n:Int} {tx:BA} {vk vs:Ax} {d:DT} {r:Except Nat (DT×Nat×Nat)}
end
def gB(acc:Ag):Except Nat (List (BA×DT)×Nat×Nat)->Except Nat (List (BA×DT)×Nat×Nat)
 | .error e=>.error e
 | .ok (l,j,m)=>.ok (acc++l,j,m)
def rH(x:Except Nat (List (BA×DT)×Nat×Nat)):gB [] x=x:=by
 cases x with
 |error e=>rfl
 |ok q=>obtain⟨l,j,m⟩:=q;rfl
def oa(R:Nat->Nat->Except Nat (DT×Nat×Nat))(s:BA)(keyed:Aq)(c:Nat)(acc:Ag)(k:BA)(j m:Nat):Except Nat (List (BA×DT)×Nat×Nat):=
 match R j m with
 | .error e=>.error e
 | .ok (d,j',m')=>gB (acc++[(k,d)]) (xP R s keyed c (some k) j' m')
def cq(R:Nat->Nat->Except Nat (DT×Nat×Nat))(s:BA)(keyed:Bool)(c:Nat)(acc:List (BA×DT))(last:Option BA)(j m:Nat):gB acc (xP R s keyed (c+1) last j m) =
 match pe s keyed last j with
 |none=>.error 6
 |some (k,a)=>oa R s keyed c acc k a m:=by
 rw[xP];cases pe s keyed last j with
 |none=>rfl
 |some q=>
  obtain⟨k,a⟩:=q;simp only[oa];cases R a m with
  |error e=>rfl
  |ok q=>
   obtain⟨d,j',a⟩:=q;simp only;cases xP R s keyed c (some k) j' a with
   |error e=>rfl
   |ok q=>
    obtain⟨l,a,a⟩:=q;simp[gB]
def MV(c:Nat):Except Nat (List (BA×DT)×Nat×Nat)->Except Nat (DT×Nat×Nat)
 | .error e=>.error e
 | .ok (l,j,m)=>.ok (.mk c 0 noB (km (c==123) l) (l.map Prod.snd),j,m)
def oO(R:Nat->Nat->Except Nat (DT×Nat×Nat))(s:BA)(c i n:Nat):uz R s c i n=match gQ s i with|none=>.error 6|some (q,j)=>MV c (xP R s (c==123) q.toNat none j n):=by
 unfold uz;cases gQ s i with
 |none=>rfl
 |some q=>
  obtain⟨v,j⟩:=q;simp only;cases xP R s (c==123) v.toNat none j n with
  |error e=>rfl
  |ok q=>rfl
def mq(ds:Ae):Except Nat (List DT×Nat×Nat)->Except Nat (List DT×Nat×Nat)
 | .error e=>.error e
 | .ok (l,j,m)=>.ok (ds++l,j,m)
def Xc(x:Except Nat (List DT×Nat×Nat)):mq [] x=x:=by
 cases x with
 |error e=>rfl
 |ok q=>obtain⟨l,j,m⟩:=q;rfl
def Zv(R:PT->Nat->Nat->Except Nat (DT×Nat×Nat))(ds:Ae)(t:PT)(r:Af)(j m:Nat):mq ds (xU R (t::r) j m)=match R t j m with | .error e=>.error e | .ok (d,j',a)=>mq (ds++[d]) (xU R r j' a):=by
 rw[xU];cases R t j m with
 |error e=>rfl
 |ok q=>
  obtain⟨d,j',a⟩:=q;simp only;cases xU R r j' a with
  |error e=>rfl
  |ok q=>
   obtain⟨l,a,a⟩:=q;simp[mq]
mutual
def vq:PT->Prop
 | .leaf _ _=>True
 | .wrap _ _ t=>vq t
 | .alts _ l=>l.length<=300/\fW l
def fW:List PT->Prop
 | []=>True
 |t::r=>vq t/\fW r
end
def kU:∀{l:List PT},fW l->∀t∈l,vq t
 | [],_,t,h=>by cases h
 |x::r,h,t,a=>by
  unfold fW at h;rcases aq_.1 a with rfl|a
  .exact h.1
  .exact kU h.2 t a
def JB(env:Au):Prop:=∀c fs,env c=some (.recd fs)->fs.length<=300/\∀g∈fs,vq g.ty
def YI(h:u<10):qi (u:Int)=bts [48+u]:=by
 unfold qi bts;rw[Lib.itoa_nonneg,Lib.decDigits_one h];rfl
def WL(h:¬u<10):qi (u:Int)=qi ((u / 10:Nat):Int)++bts [48+u % 10]:=by
 unfold qi bts;rw[Lib.itoa_nonneg,Lib.itoa_nonneg,Lib.decDigits,dif_neg h];apply b2_;simp
def WU(h:1<=u):qi (-(u:Int))=bts [45]++qi (u:Int):=by
 unfold qi bts;rw[Lib.itoa_neg u h,Lib.itoa_nonneg];apply b2_;simp
section
variable {w:Aw}
end
def PAt(w:Aw)(bp:Nat)(s:BA)(i:Nat):Prop:=Blk w bp [.string s,I_ i] 114
section
variable {w w':Aw} {bp:Nat} {s:BA} {i:Nat}
def PAt.c0(h:PAt w bp s i):w.cell? ⟨bp,0,none⟩=some (.string s):=by rw[F_ h];rfl
def PAt.c1(h:PAt w bp s i):w.cell? ⟨bp,1,none⟩=some (I_ i):=by rw[F_ h];rfl
def PAt.th(h:PAt w bp s i)(o:Nat):w.frozen? ⟨bp,o,none⟩=false:=Blk.th h o
def PAt.si(h:PAt w bp s i)(hw:zq w w'):PAt w' bp s i:=by obtain⟨n,rfl⟩:=hw;exact h
def PAt.inc(h:PAt w bp s i):PAt (w.setCell ⟨bp,1,none⟩ (Z_ ((i:Int)+1))) bp s (i+1):=G_ h 1 _
end
def yr{w:Aw}{bp:Nat}{s:BA}{i:Nat}(h:PAt w bp s i):Calls prog 108 #[P_ bp] w λe w'=>e=.returned (I_ i)/\w'=w:=by
 have c1:=h.c1;go_in;go_wp2;go_ret;exact⟨rfl,rfl⟩
def wD(c:Nat)(w:Aw):Calls prog 106 #[U_ c] w λe w'=>e=.returned (.bool (zY c))/\w'=w:=by
 have hb:zY c=(decide ((65:Int)<=(c:Int))&&decide ((c:Int)<=70)):=by
  unfold zY;rw[show decide ((65:Int)<=(c:Int))=decide (65<=c) by congr 1;exact propext M_,show decide ((c:Int)<=70)=decide (c<=70) by congr 1;exact propext M_]
 rw[hb];by_cases h1:(65:Int)<=(c:Int)
 .go_in;go_wp2;go_ret;exact⟨by simp[h1],rfl⟩
 .go_in;go_wp2;go_ret;exact⟨by simp;omega,rfl⟩
def yb{w:Aw}{bp:Nat}{s:BA}{i:Nat}(h:PAt w bp s i)(_hs:s.size<=300)(hi:i<=s.size):Calls prog 107 #[P_ bp] w λe w'=>e=.returned (.int .u8 (bt s i:Int))/\zq w w':=by
 have c0:=h.c0;have c1:=h.c1;by_cases hl:i<s.size
 .have a:(i:Int)<(s.size:Int):=M_;go_in;go_wp2;go_quiet (fail);go_wp2;go_quiet (fail);go_wp2;go_ret;exact⟨by simp[xO s i hl],(zq.drewN _ _).trans (zq.drewN _ _)⟩
 .have a:¬(i:Int)<(s.size:Int):=M_;go_in;go_wp2;go_quiet (fail);go_wp2;go_ret;exact⟨by rw[wh M_];rfl,_,rfl⟩
def Ch(w:Aw)(bp:Nat)(s:BA)(i d:Nat)(b:Aq)(w':Aw):Prop:=
 Fr w w' (· = bp)/\((bt s i=d/\b=true/\PAt w' bp s (i+1)/\i<s.size)\/(bt s i≠d/\b=false/\PAt w' bp s i))
def uZ{w:Aw}{bp:Nat}{s:BA}{i:Nat}{c:Int}(d:Nat)(h:PAt w bp s i)(hs:s.size<=300)(hi:i<=s.size)(hd:c=(d:Int))(f:0<d):Calls prog 111 #[P_ bp,.int .u8 c] w λe w'=>∃b,e=.returned (.bool b)/\Ch w bp s i d b w':=by
 subst hd;obtain⟨x,hx⟩:=x_ (bt s i);by_cases hb:x=d
 .subst hb;replace hx:=zy hx;go_in;go_wp2_with (go_at_call 107;apply(yb h hs hi).mono;rintro e w' ⟨rfl,hw⟩;rw[hx.o];have a:=h.si hw;have c1:=a.c1;have g:=a.th 1);go_ret;exact⟨true,rfl,((A_ w _).si hw).setCell _ _ (λ_=>rfl),.inl ⟨hx,rfl,a.inc,zp (by rw[hx.o];exact f)⟩⟩
 .have hn:((x:Int) != (d:Int))=true:=x1_
  replace hx:=zy hx;go_in;go_wp2_with (go_at_call 107;apply(yb h hs hi).mono;rintro e w' ⟨rfl,hw⟩;rw[hx.o];have a:=h.si hw);go_ret;exact⟨false,rfl,(A_ w _).si hw,.inr ⟨by rw[hx.o];exact hb,rfl,a⟩⟩
def gD{w:Aw}{bp:Nat}{s:BA}{i:Nat}{c:Int}(d:Nat)(h:PAt w bp s i)(hs:s.size<=300)(hi:i<=s.size)(hd:c=(d:Int))(a:0<d)(hb:bt s i=d):Calls prog 111 #[P_ bp,.int .u8 c] w λe w'=>e=.returned (.bool true)/\Fr w w' (· = bp)/\PAt w' bp s (i+1):=by
 apply(uZ d h hs hi hd a).mono;rintro e w' ⟨b,rfl,hf,a⟩;rcases a with⟨_,rfl,h1,_⟩|⟨hn,_⟩
 .exact⟨rfl,hf,h1⟩
 .exact absurd hb hn
def pS{w:Aw}{bp:Nat}{s:BA}{i:Nat}{c:Int}(d:Nat)(h:PAt w bp s i)(hs:s.size<=300)(hi:i<=s.size)(hd:c=(d:Int))(a:0<d)(hb:bt s i≠d):Calls prog 111 #[P_ bp,.int .u8 c] w λe w'=>e=.returned (.bool false)/\Fr w w' (· = bp)/\PAt w' bp s i:=by
 apply(uZ d h hs hi hd a).mono;rintro e w' ⟨b,rfl,hf,a⟩;rcases a with⟨hy,_⟩|⟨_,rfl,h1⟩
 .exact absurd hy hb
 .exact⟨rfl,hf,h1⟩
def zO(w:Aw)(lo:Nat)(v:Ax)(p:Int)(ev:Ax):Prop:=
 ∃g,lo<=g/\v=.iface 184 (P_ g)/\Blk w g [Z_ p,ev] 186
def vy{w:Aw}{bp:Nat}{s:BA}{i:Nat}(h:PAt w bp s i)(hg:w.cell? ⟨0,0,none⟩=some (.iface et ex)):Calls prog 70 #[P_ bp] w λe w'=>∃v,e=.returned v/\zO w' w.heap.size v (i:Int) (.iface et ex)/\Fr w w' N_:=by
 obtain⟨b,a⟩:=y_ (λ(e:Ending) (w':World)=>∃v,e=.returned v/\zO w' w.heap.size v (i:Int) (.iface et ex)/\Fr w w' N_);rw[<- a.o];have c1:=h.c1;replace h:=zy h;go_in;go_wp2;refine tr_ 8 (λW=>z_ W bp 1 (I_ i)/\z_ W 0 0 (.iface et ex)) ?_;refine tz_ 0 ?_;refine tz_ 1 ?_;refine tz_ 2 ?_;refine tz_ 3 ?_;refine tz_ 4 ?_;refine tz_ 5 ?_;refine t1_ 6 ⟨c1,hg⟩ ?_;have b:(w.drew.alloc (.cells #[I_ i,.iface et ex] 186)).cell? ⟨bp,1,none⟩=some (I_ i):=by
  rw[World.cell?_alloc_past _ _ _ (World.block_lt_of_cell? w.drew ⟨bp,1,none⟩ c1)];exact c1
 have f:(w.drew.alloc (.cells #[I_ i,.iface et ex] 186)).cell? ⟨0,0,none⟩=some (.iface et ex):=by
  rw[World.cell?_alloc_past _ _ _ (World.block_lt_of_cell? w.drew ⟨0,0,none⟩ hg)];exact hg
 refine t1_ 7 ⟨b,f⟩ ?_;refine t1_ 8 ⟨b,f⟩ ?_;refine td_ ?_ _;go_wp2;try go_ret
 rw[a.o];exact⟨_,rfl,⟨w.heap.size,l_,rfl,(B_ w _ _).drew⟩,((A_ w _).alloc _).drew⟩
def pW(w:Aw)(et:Av)(ex:Ax):Prop:=w.cell? ⟨0,0,none⟩=some (.iface et ex)
def pW.fr{w w':Aw}(h:pW w et ex)(hf:Fr w w' S)(b:¬S 0):pW w' et ex:=
 (World.cell?_of_block (a:=⟨0,0,none⟩) (hf.block _ (World.block_lt_of_cell? w ⟨0,0,none⟩ h) b)).trans h
def zO.fr{w w':Aw}{lo:Nat}{p:Int}{a:Ax}(h:zO w lo v p a)(hf:Fr w w' S)(e:∀g,lo<=g->¬S g):zO w' lo v p a:=by
 obtain⟨g,h1,a,b⟩:=h;exact⟨g,h1,a,hf.bl b (e g h1)⟩
def zO.ls{w:Aw}{lo b:Nat}{p:Int}{a:Ax}(h:zO w lo v p a)(hl:b<=lo):zO w b v p a:=by
 obtain⟨g,h1,a⟩:=h;exact⟨g,al_ hl h1,a⟩
def Cr(w:Aw)(bp:Nat)(s:BA)(i d:Nat)(et:Av)(ex:Ax)(v:Ax)(w':Aw):Prop:=
 Fr w w' (· = bp)/\((bt s i=d/\v=.nilIface/\PAt w' bp s (i+1)/\i<s.size)\/(bt s i≠d/\zO w' w.heap.size v (i:Int) (.iface et ex)/\PAt w' bp s i))
def yT{w:Aw}{bp:Nat}{s:BA}{i:Nat}{c:Int}(d:Nat)(h:PAt w bp s i)(a:pW w et ex)(x:bp≠0)(hs:s.size<=300)(hi:i<=s.size)(hd:c=(d:Int))(p:0<d):Calls prog 110 #[P_ bp,.int .u8 c] w λe w'=>∃v,e=.returned v/\Cr w bp s i d et ex v w':=by
 subst hd;obtain⟨z,f⟩:=y_ (λ(e:Ending) (w':World)=>∃v,e=.returned v/\Cr w bp s i d et ex v w');rw[<- f.o];by_cases hb:bt s i=d
 .have g:=zy (gD d h hs hi rfl p hb);have b:i<s.size:=zp M_;replace hb:=zy hb;replace h:=zy h;replace a:=zy a;go_in;go_wp2_with (go_at_call 111;apply g.o.mono;rintro e w1 ⟨rfl,hf,h1⟩;replace h1:=zy h1;replace hf:=zy hf);try go_ret
  rw[f.o];exact⟨.nilIface,rfl,hf,.inl ⟨hb,rfl,h1,b⟩⟩
 .have g:=zy (pS d h hs hi rfl p hb);replace hb:=zy hb;replace h:=zy h;replace a:=zy a;go_in;go_wp2_with (first
   |(go_at_call 111;apply g.o.mono;rintro e w1 ⟨rfl,hf,h1⟩;replace h1:=zy h1;replace hf:=zy hf)
   |(go_at_call 70;apply(vy h1 (a.o.fr hf (Ne.symm x))).mono;rintro e a ⟨v,rfl,l,b⟩;replace l:=zy l;replace b:=zy b))
  try go_ret
  rw[f.o];have y:=hf.o.size;exact⟨v,rfl,hf.o.trans b v_,.inr ⟨hb,l.o.ls y,b.o.bl h1 id⟩⟩
def vL(c:Nat):TypeId:=if c=110 then 215 else if c=116 then 217 else if c=105 then 218 else if c=108 then 219 else 220
def qX(c:Nat):TypeId:=if c=91 then 222 else 223
inductive TyV (w:Aw) (P:Az):PT->Value->Prop
 |base (c p:Nat) (h:zi c=true):TyV w P (.leaf c p) (.iface (vL c) (.agg #[I_ p]))
 |name (c p:Nat) (h:zY c=true):TyV w P (.leaf c p) (.iface 229 (.agg #[I_ p,U_ c]))
 |wrap (c p:Nat) {t:PT} {v:Value} (h:TyV w P t v):TyV w P (.wrap c p t) (.iface (qX c) (.agg #[I_ p,v]))
 |alts (p:Nat) {l:List PT} {sv:Value} (X:Nat->Value) (ho:w.ownsRow 0 46 1 sv l.length ((List.range l.length).map X)) (hP:∀g,sv.ownBlock=some g->P g) (h:∀i t,l[i]?=some t->TyV w P t (X i)) :
  TyV w P (.alts p l) (.iface 226 (.agg #[I_ p,sv]))
def TyV.mono{w:Aw}{P Q:Az}(h:TyV w P t v)(a:∀g,g<w.heap.size->P g->Q g):TyV w Q t v:=by
 induction h with
 |base c p h=>exact .base c p h
 |name c p h=>exact .name c p h
 |wrap c p h ih=>exact .wrap c p ih
 |alts p X ho hP h ih=>exact .alts p X ho (λg e=>a g (ho.lt g e).2 (hP g e)) ih
def TyV.fr{w w':Aw}{P:Az}(h:TyV w P t v)(hf:Fr w w' S)(a:∀g,P g->¬S g):TyV w' P t v:=by
 induction h with
 |base c p h=>exact .base c p h
 |name c p h=>exact .name c p h
 |wrap c p h ih=>exact .wrap c p ih
 |alts p X ho hP h ih=>exact .alts p X (zj ho hf (λg e=>a g (hP g e))) hP ih
def IfV(v:Ax):Prop:=v=.nilIface\/∃T x,v=.iface T x
def vW(w:Aw)(bp:Nat)(s:BA)(i:Nat)(et:Av)(ex:Ax)(e:Ak)(w':Aw):Prop:=
 ∃v ev,IfV v/\e=.returned (.tuple #[v,ev])/\Fr w w' (· = bp)/\
 match pT s i with
 | .ok (t,j)=>ev=.nilIface/\PAt w' bp s j/\TyV w' (λg=>w.heap.size<=g) t v
 | .error k=>zO w' w.heap.size ev (k:Int) (.iface et ex)/\∃j,j<=s.size/\PAt w' bp s j
def vG(s:BA)(i:Nat):Prop:=∀(w:World) (bp:Nat) (et:TypeId) (ex:Value),PAt w bp s i->pW w et ex->bp≠0->
 Calls prog 69 #[P_ bp] w (vW w bp s i et ex)
def yJ{w:Aw}{bp:Nat}{s:BA}{i x:Nat}{c:Int}(h:PAt w bp s i)(hs:s.size<=300)(hi:i<=s.size)(hx:bt s i=x)(hc:(x:Int)=c)(h0:0<c):Calls prog 111 #[P_ bp,.int .u8 c] w λe w'=>e=.returned (.bool true)/\Fr w w' (· = bp)/\PAt w' bp s (i+1):=
 gD x h hs hi hc.symm M_ hx
def yK{w:Aw}{bp:Nat}{s:BA}{i x:Nat}{c:Int}(h:PAt w bp s i)(hs:s.size<=300)(hi:i<=s.size)(hx:bt s i=x)(hc:(x:Int)≠c)(h0:0<c):Calls prog 111 #[P_ bp,.int .u8 c] w λe w'=>e=.returned (.bool false)/\Fr w w' (· = bp)/\PAt w' bp s i:=
 pS c.toNat h hs hi M_ M_ (by rw[hx];omega)
def wI{s:BA}{i c:Nat}(h:bt s i=c)(hb:zi c=true):pT s i=.ok (.leaf c i,i+1):=by
 rw[wY];unfold vR;rw[h,i_ hb]
def cq10_{p:Prop}(h:p:=by
 intro w bp et ex h z F;obtain⟨C,y⟩:=y_ (vW w bp s i et ex);rw[<- y.o];have a:=zy (And.intro h (A_ w (λx=>x=bp)));(try have:=cc5;have A:=zy (show pT s i=.ok (.leaf (bt s i) i,i+1) from iz (by simpa[zY] using hn));obtain⟨x,hx⟩:=x_ (bt s i);rw[hx]at hn A;(have G:65<=x/\x<=70:=by simpa[zY] using hn);have E:i<s.size:=zp M_);replace hx:=zy hx;replace z:=zy z;replace h:=zy h;(try have:=cc5;replace hn:=zy hn);go_in;go_wp2_with (first
  |(go_at_call 108;apply(yr a.o.1).mono;rintro e w' ⟨rfl,f⟩;rw[f])
  |(go_at_call 107;apply(yb a.o.1 hs hi).mono;rintro e w' ⟨rfl,f⟩;rw[hx.o];replace a:=zy (And.intro (a.o.1.si f) (a.o.2.si f));clear f)
  |(go_at_call 111;(first|(have:=cc5;apply(yK a.o.1 hs hi hx.o M_ D_).mono)|(apply(yJ a.o.1 hs hi hx.o D_ D_).mono));rintro e w' ⟨rfl,l,g⟩;(first|(have:=cc5;replace a:=zy (And.intro g (a.o.2.trans l u_)))|(have b:=zy (And.intro g (a.o.2.trans l u_))));clear l g)
  |((first|go_at_call 111|go_at_call 106);(first|(have:=cc5;apply(wD x _).mono)|(apply(yK a.o.1 hs hi hx.o D_ D_).mono));(first|(have:=cc5;rintro e w' ⟨rfl,f⟩)|(rintro e w' ⟨rfl,l,g⟩));(first|(have:=cc5;rw[f,hn.o])|(replace a:=zy (And.intro g (a.o.2.trans l u_))));(first|(have:=cc5;clear f;have c1:=a.o.1.c1;have D:=a.o.1.th 1)|(clear l g))))
 try go_ret
 rw[y.o];(first|(have:=cc1;refine⟨.iface (vL 115) (.agg #[I_ i]),.nilIface,.inr ⟨_,_,rfl⟩,rfl,b.o.2,?_⟩)|(have:=cc2;refine⟨.iface (vL 105) (.agg #[I_ i]),.nilIface,.inr ⟨_,_,rfl⟩,rfl,b.o.2,?_⟩)|(have:=cc3;refine⟨.iface (vL 116) (.agg #[I_ i]),.nilIface,.inr ⟨_,_,rfl⟩,rfl,b.o.2,?_⟩)|(have:=cc4;refine⟨.iface (vL 110) (.agg #[I_ i]),.nilIface,.inr ⟨_,_,rfl⟩,rfl,b.o.2,?_⟩)|(have:=cc5;refine⟨.iface 229 (.agg #[I_ i,U_ x]),.nilIface,.inr ⟨_,_,rfl⟩,rfl,a.o.2.setCell _ _ (λ_=>rfl),?_⟩)|(refine⟨.iface (vL 108) (.agg #[I_ i]),.nilIface,.inr ⟨_,_,rfl⟩,rfl,b.o.2,?_⟩));(first|(have:=cc5;rw[A.o])|(rw[wI hx.o rfl]));(first|(have:=cc1;exact⟨rfl,b.o.1,.base 115 i rfl⟩)|(have:=cc2;exact⟨rfl,b.o.1,.base 105 i rfl⟩)|(have:=cc3;exact⟨rfl,b.o.1,.base 116 i rfl⟩)|(have:=cc4;exact⟨rfl,b.o.1,.base 110 i rfl⟩)|(have:=cc5;exact⟨rfl,a.o.1.inc,.name x i hn.o⟩)|(exact⟨rfl,b.o.1,.base 108 i rfl⟩))):p:=h
def Ka{s:BA}{i:Nat}(hs:s.size<=300)(hi:i<=s.size)(hx:bt s i=110):vG s i:=by
 have cc4:=Nat
 exact cq10_
def Ki{s:BA}{i:Nat}(hs:s.size<=300)(hi:i<=s.size)(hx:bt s i=116):vG s i:=by
 have cc3:=Nat
 exact cq10_
def KZ{s:BA}{i:Nat}(hs:s.size<=300)(hi:i<=s.size)(hx:bt s i=105):vG s i:=by
 have cc2:=Nat
 exact cq10_
def Ko{s:BA}{i:Nat}(hs:s.size<=300)(hi:i<=s.size)(hx:bt s i=108):vG s i:=by
 exact cq10_
def Ke{s:BA}{i:Nat}(hs:s.size<=300)(hi:i<=s.size)(hx:bt s i=115):vG s i:=by
 have cc1:=Nat
 exact cq10_
def VB{s:BA}{i:Nat}(hs:s.size<=300)(hi:i<=s.size)(hn:zY (bt s i)=true):vG s i:=by
 have cc5:=Nat
 exact cq10_
def aq{s:BA}{i:Nat}(hs:s.size<=300)(hi:i<=s.size)(h1:¬zi (bt s i)=true)(l:¬(bt s i=91\/bt s i=123))(p:¬bt s i=40)(f:¬(65<=bt s i/\bt s i<=70)):vG s i:=by
 intro w bp et ex h z C;obtain⟨F,A⟩:=y_ (vW w bp s i et ex);rw[<- A.o];have a:=zy (And.intro h (A_ w (λx=>x=bp)));have D:=zy (KW h1 l p f);obtain⟨x,hx⟩:=x_ (bt s i);rw[hx]at h1 l p f;have hn:H_ (zY x=false):=zy (by
  cases hc:zY x with
  |false=>rfl
  |true=>exact absurd z7_ f)
 simp only[zi,ay_,beq_iff_eq,not_or]at h1;have F:x≠110/\x≠116/\x≠105/\x≠108/\x≠115/\x≠91/\x≠123/\x≠40:=M_;replace hx:=zy hx;replace z:=zy z;replace h:=zy h;go_in;go_wp2_with (first
  |(go_at_call 108;apply(yr a.o.1).mono;rintro e w' ⟨rfl,b⟩;rw[b])
  |(go_at_call 107;apply(yb a.o.1 hs hi).mono;rintro e w' ⟨rfl,b⟩;rw[hx.o];replace a:=zy (And.intro (a.o.1.si b) (a.o.2.si b)))
  |(go_at_call 111;apply(yK a.o.1 hs hi hx M_ D_).mono;rintro e w' ⟨rfl,l,f⟩;replace a:=zy (And.intro f (a.o.2.trans l u_)))
  |(go_at_call 106;apply(wD x _).mono;rintro e w' ⟨rfl,b⟩;rw[b,hn.o])
  |(go_at_call 70;apply(vy a.o.1 (z.o.fr a.o.2 (Ne.symm C))).mono;rintro e b ⟨v,rfl,y,g⟩;replace y:=zy y;replace g:=zy g))
 try go_ret
 rw[A.o];have E:=a.o.2.size;refine⟨.nilIface,v,.inl rfl,rfl,a.o.2.trans g v_,?_⟩;rw[D.o];exact⟨y.o.ls E,i,hi,g.o.bl a.o.1 id⟩
def nO(w:Aw)(bp:Nat)(s:BA)(i d:Nat)(et:Av)(ex:Ax)(e:Ak)(w':Aw):Prop:=
 ∃v ev,IfV v/\e=.returned (.tuple #[v,ev])/\Fr w w' (· = bp)/\
 match pT s i with
 | .ok (t,j)=>if bt s j=d then ev=.nilIface/\PAt w' bp s (j+1)/\TyV w' (λg=>w.heap.size<=g) t v else zO w' w.heap.size ev (j:Int) (.iface et ex)/\∃j,j<=s.size/\PAt w' bp s j
 | .error k=>zO w' w.heap.size ev (k:Int) (.iface et ex)/\∃j,j<=s.size/\PAt w' bp s j
def tG{w:Aw}{bp:Nat}{s:BA}{i:Nat}{c:Int}(d:Nat)(F:vG s i)(h:PAt w bp s i)(a:pW w et ex)(z:bp≠0)(hs:s.size<=300)(hi:i<=s.size)(hd:c=(d:Int))(G:0<d):Calls prog 112 #[P_ bp,.int .u8 c] w (nO w bp s i d et ex):=by
 subst hd;obtain⟨J,f⟩:=y_ (nO w bp s i d et ex);rw[<- f.o];have A:=zy (F w bp et ex h a z);have y:=xV (s:=s) hi;cases hp:pT s i with
 |error k=>
  replace hp:=zy hp;replace a:=zy a;go_in;go_wp2_with (go_at_call 69;apply A.o.mono;rintro e w1 ⟨v,D,_,rfl,hf,hm⟩;rw[hp.o]at hm;obtain⟨⟨g,l,rfl,b⟩,x,p,h1⟩:=hm;replace hf:=zy hf;replace h1:=zy h1;replace b:=zy b);try go_ret
  rw[f.o];refine⟨.nilIface,_,.inl rfl,rfl,hf,?_⟩;rw[hp.o];exact⟨⟨g,l,rfl,b⟩,x,p,h1⟩
 |ok r=>
  obtain⟨t,j⟩:=r;have C:=y.1 t j hp;have F:=h.lt;replace hp:=zy hp;replace a:=zy a;go_in;go_wp2_with (first
   |(go_at_call 69;apply A.o.mono;rintro e w1 ⟨v,D,x,rfl,hf,hm⟩;rw[hp.o]at hm;obtain⟨rfl,h1,hv⟩:=hm;replace x:=zy x;replace hf:=zy hf;replace h1:=zy h1;replace hv:=zy hv)
   |(go_at_call 110;apply(yT d h1 (a.o.fr hf (Ne.symm z)) z hs C.2 rfl G).mono;rintro e a ⟨I,rfl,b,p⟩;replace b:=zy b;replace p:=zy p))
  try go_ret
  rw[f.o];have H:=hf.o.size;refine⟨v,I,x,rfl,hf.o.trans b u_,?_⟩;rw[hp.o];rcases p.o with⟨hb,rfl,l,_⟩|⟨hb,E,l⟩
  .show(if bt s j=d then _ else _);rw[i_ hb];exact⟨rfl,l,hv.o.fr b (λg hg e=>M_)⟩
  .show(if bt s j=d then _ else _);rw[n_ hb];exact⟨E.ls H,j,C.2,l⟩
def cq4_{p:Prop}(h:p:=by
 intro w bp et ex h A D;obtain⟨L,F⟩:=y_ (vW w bp s i et ex);rw[<- F.o];have a:=zy (And.intro h (A_ w (λx=>x=bp)));have I:i<s.size:=zp M_;have K:=zy (sO (s:=s) (i:=i) M_);have M:=h.lt;replace hx:=zy hx;replace A:=zy A;replace h:=zy h;replace hT:=zy hT;go_in;go_wp2_with (first
  |(go_at_call 108;apply(yr a.o.1).mono;rintro e w' ⟨rfl,z⟩;rw[z])
  |(go_at_call 107;apply(yb a.o.1 hs hi).mono;rintro e w' ⟨rfl,z⟩;rw[hx.o];replace a:=zy (And.intro (a.o.1.si z) (a.o.2.si z));clear z)
  |(go_at_call 111;apply(yJ a.o.1 hs hi hx.o D_ D_).mono;rintro e w' ⟨rfl,y,l⟩;have f:=zy (And.intro l (a.o.2.trans y u_));clear y l)
  |(go_at_call 111;apply(yK a.o.1 hs hi hx.o D_ D_).mono;rintro e w' ⟨rfl,y,l⟩;replace a:=zy (And.intro l (a.o.2.trans y u_));clear y l)
  |(go_at_call 112;(first|(have:=cc1;apply(tG 125 hT.o f.o.1 (A.o.fr f.o.2 (Ne.symm D)) D hs I rfl D_).mono)|(apply(tG 93 hT.o f.o.1 (A.o.fr f.o.2 (Ne.symm D)) D hs I rfl D_).mono));rintro e Q ⟨v,G,J,rfl,C,hm⟩;replace C:=zy C;replace hm:=zy hm;rcases J with rfl|⟨N,O,rfl⟩))
 all_goals
  try go_ret
  rw[F.o];have E:=f.o.2.size;(first|(have:=cc1;refine⟨.iface (qX 123) (.agg #[I_ i,_]),G,.inr ⟨_,_,rfl⟩,rfl,f.o.2.trans C.o u_,?_⟩)|(refine⟨.iface (qX 91) (.agg #[I_ i,_]),G,.inr ⟨_,_,rfl⟩,rfl,f.o.2.trans C.o u_,?_⟩));rw[K.o];have b:=hm.o;cases hp:pT s (i+1) with
  |error k=>
   rw[hp]at b;exact⟨b.1.ls E,b.2⟩
  |ok r=>
   obtain⟨t,j⟩:=r;rw[hp]at b;simp only at b⊢;rw[hx.o];(first|(have:=cc1;by_cases hb:bt s j=125)|(by_cases hb:bt s j=93))
   .rw[i_ hb]at b;(first|(have:=cc1;rw[show xw 123=125 from rfl,i_ hb])|(rw[show xw 91=93 from rfl,i_ hb]));obtain⟨rfl,H,hv⟩:=b;(first|(have:=cc1;exact⟨rfl,H,.wrap 123 i (hv.mono (λg _ hg=>al_ E hg))⟩)|(exact⟨rfl,H,.wrap 91 i (hv.mono (λg _ hg=>al_ E hg))⟩))
   .rw[n_ hb]at b;(first|(have:=cc1;rw[show xw 123=125 from rfl,n_ hb])|(rw[show xw 91=93 from rfl,n_ hb]));exact⟨b.1.ls E,b.2⟩):p:=h
def Fw{s:BA}{i:Nat}(hs:s.size<=300)(hi:i<=s.size)(hx:bt s i=91)(hT:vG s (i+1)):vG s i:=by
 exact cq4_
def Ks{s:BA}{i:Nat}(hs:s.size<=300)(hi:i<=s.size)(hx:bt s i=123)(hT:vG s (i+1)):vG s i:=by
 have cc1:=Nat
 exact cq4_
end Go.Proofs.YtokgeopihcopeaaGreatDoor
