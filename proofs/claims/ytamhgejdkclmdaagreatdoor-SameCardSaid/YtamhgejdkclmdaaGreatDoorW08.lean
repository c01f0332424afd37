import Derived.Test.YtamhgejdkclmdaaGreatDoorW07
import Derived.Laws.BitsLemmas
import Derived.Laws.BytesArg
import Derived.Lib.ItoaLen
set_option maxHeartbeats 16000000
set_option maxRecDepth 100000
set_option linter.defProp false
set_option linter.unusedSimpArgs false
open Go.Proofs.Tryz
namespace Go.Proofs.YtamhgejdkclmdaaGreatDoor
open Go.RowKit
variable {q acc u:Nat}{t:PT}{et:Av}{ex v:Ax}{keyed:Ar}{S:Az}
def nZ:∀(l:List (List Value)),(∀x∈l,x.length=10)->∀(q p:Nat) (x:List Value),l[q]?=some x->p<10->l.flatten[10*q+p]?=x[p]?
 | [],_,q,p,x,h,_=>by simp at h
 |y::r,hl,q,p,x,h,hp=>by
  have hy:=hl y x8_;rw[List.flatten_cons];cases q with
  |zero=>
   simp only[aa_,af_]at h;subst h;rw[Nat.mul_zero,bx_,aq_ M_]
  |succ q=>
   rw[ab_]at h;rw[au_ M_,show 10*(q+1)+p-y.length=10*q+p by omega];exact nZ r (λz hz=>hl z (by simp[hz])) q p x h hp
def au{s:BA}{b:Nat}{fs:An}{num:Nat}{f:PF}(hf:fs[q]?=some f)(hn:(jN b (fs.map PF.ty))[q]?=some num)(p:Nat)(hp:p<10):(yB s b fs)[10*q+p]?=(iL s f num)[p]?:=by
 unfold yB;refine nZ _ (λx hx=>?_) q p _ ?_ hp
 .obtain⟨i,hi⟩:=bp_ hx;rw[List.getElem?_zipWith]at hi;split at hi
  .simp only[af_]at hi;subst hi;rfl
  .cases hi
 .rw[List.getElem?_zipWith,hf,hn]
def We{s:BA}{ts:Ap}{b:Nat}{fs:An}(h:cX ts (jN b (fs.map PF.ty)) (fs.map PF.ty)):GQ s ts fs (yB s b fs):=by
 intro q f hf;obtain⟨num,hn,e⟩:=XD h q f.ty (by rw[as_,hf];rfl);have a:=λp hp=>au (s:=s) hf hn p hp;refine⟨⟨num,e,a 1 M_⟩,a 0 M_,a 2 M_,?_,?_,λp g e=>?_⟩
 .rw[a 3 M_];rfl
 .rw[a 4 M_];rfl
 .rw[a p e]
  match p,g,e with
  | 5,_,_=>exact⟨_,rfl,_,rfl⟩
  | 6,_,_=>exact⟨_,rfl,_,rfl⟩
  | 7,_,_=>exact⟨_,rfl,_,rfl⟩
  | 8,_,_=>exact⟨_,rfl,_,_,_,rfl⟩
  | 9,_,_=>exact⟨_,rfl,_,_,_,rfl⟩
def QB{w W:Aw}{X Xk:Az}{br bz B:Nat}{s:BA}{tv0 u0 tv u:Ax}{ds:Aq}{j:Nat}{bad:Ar}{wg MX:Int}{F:Ap}{US:As}{zs:Ay}{rt:Ax}(M:WM w X br bz B s tv0 u0 ds j bad wg MX (xH 0 ds++F) US Xk zs tv u W)(G:zs[30]?=some rt):SZ W (λg=>g<W.heap.size/\¬Xk g) (λg=>Xk g/\B<=g) bz s (xH 0 ds++F) (zx ds) rt:=by
 obtain⟨xs,hx,hk⟩:=M.R.tys;refine⟨λg hg h=>h.2 hg.1,⟨M.R.z.lt,λh=>(M.R.av _ h).2.2.1 rfl⟩,tv,zs,M.R.z,G,⟨xs,yr hx,λg e=>⟨(hx.lt g e).2,λh=>(M.R.av g h).2.2.2.1 e⟩,λk t F=>?_⟩,λk G=>?_⟩
 .obtain⟨sv,a,b,c,d⟩:=hk k t F;exact⟨sv,a,b,yr c.1,λg e=>⟨(c.1.lt g e).2,λh=>d g h e⟩⟩
 .obtain⟨so,fv,sb,o,n,F,ys,h1,A,F,y⟩:=M.D.2 k G;have C:∀g,fv.ownBlock=some g->Xk g/\B<=g:=λg e=>⟨F g e,(A.lt g e).1⟩;cases hl:vf 0 (65+k) ds with
  |none=>
   rw[hl]at y;obtain⟨E,rfl⟩:=y;have he:zx ds (65+k)=none:=by unfold zx;rw[hl];rfl
   have hf:xY (zx ds) k=[]:=zg_
   refine⟨so,fv,sb,o,n,ys,h1,by rw[hf];exact yr A,C,by rw[hf];intro q f p;simp at p,by rw[he];exact E⟩
  |some q=>
   obtain⟨pb,b⟩:=q;rw[hl]at y;have he:zx ds (65+k)=some pb:=by unfold zx;rw[hl];rfl
   obtain⟨F,e',H⟩:=FB hl;cases pb with
   |recd fs=>
    obtain⟨d1,rfl,rfl,_⟩:=y;have hf:xY (zx ds) k=fs:=zg_
    refine⟨so,fv,sb,o,n,_,h1,by rw[hf];exact yr A,C,?_,by rw[he];exact d1⟩;rw[hf];refine We (pf _ _ _ (λq x p=>?_));have:=H q x p;rw[e',bx_,aq_ (ai_.1 this).1];exact this
   |enum l un=>
    obtain⟨d1,rfl,E,d3,_⟩:=y;have hf:xY (zx ds) k=[]:=zg_
    exact⟨so,fv,sb,o,n,ys,h1,by rw[hf];exact yr A,C,by rw[hf];intro q f p;simp at p,by rw[he];exact⟨d1,E,d3⟩⟩
   |bytes m=>
    obtain⟨d1,rfl,_,E⟩:=y;have hf:xY (zx ds) k=[]:=zg_
    exact⟨so,fv,sb,o,n,ys,h1,by rw[hf];exact yr A,C,by rw[hf];intro q f p;simp at p,by rw[he];exact⟨d1,E⟩⟩
def Ku(ts:Ap)(t:PT):isT (ts++flat ts.length t) (ts.length+(flat ts.length t).length-1) t:=
 rZ _ t _ (λq x a=>by rw[au_ M_,cg_];exact a)
def xF.sortAt{W:Aw}{X:Az}{B:Nat}{s:BA}{zs:Ay}{ds:Aq}(h:xF W X B s zs ds){k:Nat}(hk:k<6):∃so:Int,zs[5*k]?=some (.int .u8 so)/\(so==0)=(zx ds (65+k)).isNone:=by
 obtain⟨so,fv,sb,o,n,a,ys,h1,a,a,a⟩:=h.2 k hk;refine⟨so,h1 0 M_,?_⟩;unfold zx;cases hl:vf 0 (65+k) ds with
 |none=>rw[hl]at a;rw[a.1];rfl
 |some q=>
  obtain⟨pb,b⟩:=q;rw[hl]at a;have:=a.sort;simp only[bh_,Option.isNone_some,beq_eq_false_iff_ne];exact this
mutual
def uh:∀(t:PT),shT t->∀u∈za t,zo u.1=true
 | .leaf c p,h,u,hu=>by
  simp only[za]at hu;cases hb:zr c with
  |true=>rw[hb]at hu;simp at hu
  |false=>
   rw[hb]at hu;simp only[be_,if_false,a2_]at hu;subst hu;simp only[shT,hb]at h;exact h.resolve_left D_
 | .wrap c p t,h,u,hu=>uh t h.2 u hu
 | .alts p l,h,u,hu=>kT l h.2 u hu
def kT:∀(l:List PT),az l->∀u∈zZ l,zo u.1=true
 | [],_,u,hu=>by simp[zZ]at hu
 |t::r,h,u,hu=>by
  simp only[zZ]at hu;rcases a4_.1 hu with hu|hu
  .exact uh t h.1 u hu
  .exact kT r h.2 u hu
end
def Xe:∀(l:List PT),(∀t∈l,shT t)->az l
 | [],_=>trivial
 |t::r,h=>⟨h t (by simp),Xe r (λu hu=>h u (by simp[hu]))⟩
def nI{N:Nat}:∀(ds:List PD),(∀d∈ds,shB N d.body)->∀u∈jb ds,zo u.1=true
 | [],_,u,hu=>by simp[jb]at hu
 |d::r,h,u,hu=>by
  simp only[jb]at hu;rcases a4_.1 hu with hu|hu
  .have hb:=h d x8_;cases hd:d.body with
   |recd fs=>
    rw[hd]at hb hu;refine kT _ (Xe _ (λt a=>?_)) u hu;obtain⟨f,hf,rfl⟩:=a3_.1 a;exact hb.1 f hf
   |enum l o=>rw[hd]at hu;simp[PB.us]at hu
   |bytes n=>rw[hd]at hu;simp[PB.us]at hu
  .exact nI r (λd hd=>h d (by simp[hd])) u hu
def mc{us:As}{p:Nat×Nat}(h:us[q]?=some p):(ju us)[2*q]?=some (U_ p.1)/\(ju us)[2*q+1]?=some (I_ p.2):=by
 induction us generalizing q with
 |nil=>simp at h
 |cons x r ih=>
  cases q with
  |zero=>simp only[aa_,af_]at h;subst h;exact⟨rfl,rfl⟩
  |succ q=>
   rw[ab_]at h;obtain⟨a,b⟩:=ih h;refine⟨?_,?_⟩
   .rw[show 2*(q+1)=2*q+1+1 by omega];exact a
   .rw[show 2*(q+1)+1=2*q+1+1+1 by omega];exact b
def QQ{env:Au}{us:As}{u:Nat×Nat}(h:us[q]?=some u)(m:Int):wrU env (us.take (q+1)) m=if (env u.1).isNone=true then zK (u.2:Int) (wrU env (us.take q) m) else wrU env (us.take q) m:=by
 rw[a6_,h];unfold wrU;rw[List.foldl_append];rfl
def zu(s:BA):Int×Int:=
 if 300<s.size then (1,0)
 else match zi s with
  | .error k=>(2,(k:Int))
  | .ok (ds,t)=>
   if 0<=wrU (zx ds) (jb ds++za t) (jO [] ds (-1)) then (3,wrU (zx ds) (jb ds++za t) (jO [] ds (-1)))
   else if 0<=mix t (qb ds (-1)) then (4,mix t (qb ds (-1)))
   else if 0<=xv s (zx ds) 6 then (5,xv s (zx ds) 6)
   else (0,0)
def Gh(W:Aw)(lo:Nat)(s:BA)(zv:Ax):Prop:=
 ∃(bz:Nat) (ds:List PD) (t:PT) (ts:List TR) (root:Nat) (P1 P2:Nat->Prop),zv=P_ bz/\zi s=.ok (ds,t)/\SZ W P1 P2 bz s ts (zx ds) (I_ root)/\isT ts root t/\jT (zx ds)/\okT (zx ds) t/\
  (∀g,P1 g\/P2 g->g<W.heap.size)/\(∀g,P2 g->lo<=g)/\ts=xH 0 ds++flat (xH 0 ds).length t/\ts.length<=300
def fJ(w:Aw)(s:BA)(e:Ak)(w':Aw):Prop:=
 ∃zv,e=.returned (.tuple #[zv,Z_ (zu s).1,Z_ (zu s).2])/\Fr w w' N_/\if (zu s).1=0 then Gh w' w.heap.size s zv else zv=.pointer none
def eJ:List Value:=zN++zN++zN++zN++zN++zN++[O_]
def pw(w:Aw)(s:BA):World:=
 (w.alloc (.cells (Value.slice none 0 0::eJ).toArray 45)).alloc (.cells #[.string s,O_,.bool false,P_ w.heap.size,L_,Z_ (-1),Z_ (-1)] 48)
def BI(w:Aw)(s:BA)(hs:s.size<=300):Rep (pw w s) N_ (w.heap.size+1) w.heap.size (w.heap.size+2) s 0 false (-1) (-1) [] [] eJ (L_) (L_):=by
 refine⟨?_,(B_ w _ _).alloc _,⟨[],World.ownsRow_nil _ _ _ _,λk t a=>by simp at a⟩,World.ownsRow_nil _ _ _ _,λg hg=>by simp[Value.ownBlock]at hg,M_,M_,by simp[pw],M_,al_ _,hs,al_ _,al_ _,λg hg=>hg.elim⟩;have:=B_ (w.alloc (.cells (Value.slice none 0 0::eJ).toArray 45)) #[.string s,O_,.bool false,P_ w.heap.size,L_,Z_ (-1),Z_ (-1)] 48;have e:(w.alloc (.cells (Value.slice none 0 0::eJ).toArray 45)).heap.size=w.heap.size+1:=x8_
 rw[e]at this;exact this
def Fq(w:Aw)(s:BA):xF (pw w s) N_ (w.heap.size+2) s eJ []:=by
 refine⟨rfl,λk hk=>⟨0,L_,⟨#[]⟩,0,0,0,[],λp hp=>?_,World.ownsRow_nil _ _ _ _,λg hg=>by simp[Value.ownBlock]at hg,?_⟩⟩
 .match k,hk with
  | 0,_=>match p,hp with|0,_=>rfl|1,_=>rfl|2,_=>rfl|3,_=>rfl|4,_=>rfl
  | 1,_=>match p,hp with|0,_=>rfl|1,_=>rfl|2,_=>rfl|3,_=>rfl|4,_=>rfl
  | 2,_=>match p,hp with|0,_=>rfl|1,_=>rfl|2,_=>rfl|3,_=>rfl|4,_=>rfl
  | 3,_=>match p,hp with|0,_=>rfl|1,_=>rfl|2,_=>rfl|3,_=>rfl|4,_=>rfl
  | 4,_=>match p,hp with|0,_=>rfl|1,_=>rfl|2,_=>rfl|3,_=>rfl|4,_=>rfl
  | 5,_=>match p,hp with|0,_=>rfl|1,_=>rfl|2,_=>rfl|3,_=>rfl|4,_=>rfl
 .exact⟨rfl,rfl⟩
def PI{w w1:Aw}{s:BA}{tv u:Ax}(st:zR (pw w s) w1 (w.heap.size+1) w.heap.size (L_) (L_) tv u):Fr w w1 N_:=
 (show Fr w (pw w s) N_ from((A_ w _).alloc _).alloc _).trans st.fr (λx hx e=>by
  rcases e with e|e|e|e
  .omega
  .omega
  .simp[Value.ownBlock]at e
  .simp[Value.ownBlock]at e)
def kK{w w1 W:Aw}{s:BA}{a b:Int}(h:zu s=(a,b))(ha:a≠0)(hf:Fr w w1 N_)(e:zq w1 W):fJ w s (.returned (.tuple #[.pointer none,Z_ a,Z_ b])) W:=by
 refine⟨.pointer none,by rw[h],hf.si e,?_⟩;rw[h];rw[n_ ha]
def KG{w:Aw}{s:BA}:Calls prog 5 #[.string s] w (fJ w s):=by
 refine hq_ λd6 E=>?_;by_cases hl:300<s.size
 .have b8:(300:Int)<(s.size:Int):=M_;go_in;go_wp2;refine bodyPost_ret (v:=.tuple #[.pointer none,Z_ 1,O_]) xm_ rfl ?_;rw[E.o];exact kK (by unfold zu;rw[i_ hl]) D_ (A_ _ _) (zq.refl _)
 .have b8:¬(300:Int)<(s.size:Int):=M_;have hs:s.size<=300:=M_;have R0:=zy (BI w s hs);have D0:=zy (Fq w s);cases hp:zi s with
  |error k=>
   have b:=zy (show zu s=(2,(k:Int)) by unfold zu;rw[n_ hl,hp]);replace hp:=zy hp;go_in;go_wp2_with (go_at_call 11;apply(tK R0 D0).mono;rintro e w1 ⟨rfl,A⟩;unfold jf at A;rw[hp.o]at A;obtain⟨Xk,zs,tv,u,wg,MX,TS,US,J,a4,_⟩:=A;have a6:=J.here.c2;have d7:=J.here.c1;replace J:=zy J;replace a4:=zy a4);go_quiet (fail);go_wp2;refine bodyPost_ret (v:=.tuple #[.pointer none,Z_ 2,I_ k]) xm_ rfl ?_;rw[E.o];exact kK b D_ (PI a4) xo_
  |ok r=>
   obtain⟨ds,t⟩:=r;obtain⟨us,H⟩:=e_ (jb ds++za t);have Q:=jC hp;have a0:∀x∈us,zo x.1=true:=λx hx=>by
    rw[H]at hx;rcases a4_.1 hx with hx|hx
    .exact nI ds Q.1 x hx
    .exact uh t Q.2 x hx
   replace hp:=zy hp;replace H:=zy H;replace a0:=zy a0;replace Q:=zy Q;go_in;go_wp2_with (go_at_call 11;apply(tK R0 D0).mono;rintro e w1 ⟨rfl,A⟩;unfold jf at A;rw[hp.o]at A;obtain⟨Xk,zs,tv,u,y,Y⟩:=A;rw[<- H.o]at y;have a6:=y.R.here.c2;replace y:=zy y;replace Y:=zy Y);obtain⟨ua,uc,rfl⟩:=zw y.o.R.uses;obtain⟨V,T⟩:=e_ (jO [] ds (-1));replace T:=zy T;have e3:us.length<=300:=by have:=y.o.R.ul;omega
   have start:∃q:Nat,q<=us.length/\us.length+1-q<=us.length+1/\Value.int .i64 0=I_ q/\WM (pw w s) (λx=>False) (w.heap.size+1) w.heap.size (w.heap.size+2) s (L_) (L_) ds s.size false (wrU (zx ds) (us.take q) V) (mix t (qb ds (-1))) (xH 0 ds++flat (xH 0 ds).length t) us Xk zs tv (.slice ua us.length uc) w1:=⟨0,M_,M_,rfl,by rw[T.o];exact y⟩;replace start:=zy start;go_loopg [6] (us.length+1) (λmm v6 W=>∃q:Nat,q<=us.length/\us.length+1-q<=mm/\v6=I_ q/\WM (pw w s) (λx=>False) (w.heap.size+1) w.heap.size (w.heap.size+2) s (L_) (L_) ds s.size false (wrU (zx ds) (us.take q) V) (mix t (qb ds (-1))) (xH 0 ds++flat (xH 0 ds).length t) us Xk zs tv (.slice ua us.length uc) W);case atStart=>exact start
   case round=>
    obtain⟨q,hq,e1,rfl,M⟩:=hrel;obtain⟨m,hm⟩:=x_ (wrU (zx ds) (us.take q) V);rw[hm]at M;replace hm:=zy hm;have c4:=M.R.here.c4;have c3:=M.R.here.c3;have c5:=M.R.here.c5;have c6:=M.R.here.c6;by_cases b9:q<us.length
    .have d2:(q:Int)<(us.length:Int):=M_;obtain⟨x,hx⟩:∃x,us[q]?=some x:=⟨_,ak_ b9⟩;have a1:=a0.o x (ag_ hx);have a3:=zy (QQ (env:=zx ds) hx V);obtain⟨gu,cu,a9⟩:=zp M.R.uses M_;simp only[Value.slice.injEq,true_and]at a9;obtain⟨rfl,rfl⟩:=a9;have U:=zt M.R.uses rfl (mc hx).1;have I:=zt M.R.uses rfl (mc hx).2;rw[bi_]at U I;obtain⟨c,b7⟩:=x;simp only at U I a1 a3;have d9:65<=c/\c<=70:=by simpa[zo] using a1
     obtain⟨C,N⟩:∃k,c=65+k:=⟨c-65,M_⟩;obtain⟨so,b5,a2⟩:=M.D.sortAt (k:=C) M_;have z0:wr.cell? ⟨w.heap.size,1+C*5,none⟩=some (.int .u8 so):=by
      rw[M.R.z.cell,show 1+C*5=5*C+1 by omega,ab_];exact b5
     rw[<- N]at a2;have e4:=tJ C c N M_;have e0:(C:Int)<6:=M_;have d8:(c:Int)-65=(C:Int):=M_;replace M:=zy M;replace N:=zy N;cases hb:(zx ds c).isNone with
     |true=>
      rw[hb]at a2;replace hb:=zy hb;go_wp2;go_quiet (fail);have a:=zy (M.o.si (zq.drewN wr nq));have K:=a.o.R.here.c4;have L:(wr.drewN nq).cell? ⟨gu,q*2+1,none⟩=some (I_ b7):=I;generalize wr.drewN nq=W2 at *;go_wp2_with (go_at_call 12;apply(qe a.o.R).mono;rintro e O ⟨rfl,p,F⟩;have G:=zy (a.o.call p F));go_roundg (us.length+1-(q+1));case measure=>omega
      case rel=>exact⟨q+1,M_,l_,by simp,by rw[a3.o,hm.o,i_ hb.o];exact G⟩
     |false=>
      rw[hb]at a2;replace hb:=zy hb;go_wp2;go_quiet (fail);have a:=zy (M.o.si (zq.drewN wr nq));generalize wr.drewN nq=W2 at *;go_wp2;go_roundg (us.length+1-(q+1));case measure=>omega
      case rel=>exact⟨q+1,M_,l_,by simp,by rw[a3.o,hm.o,n_ zk_];exact a⟩
    .have d2:¬(q:Int)<(us.length:Int):=M_;have O:wrU (zx ds) (jb ds++za t) (jO [] ds (-1))=m:=by rw[<- H.o,<- T.o,<- hm.o,bc_ M_]
     obtain⟨mx,G⟩:=e_ (mix t (qb ds (-1)));simp only[<- G]at c6;have b:zu s=if 0<=m then (3,m) else if 0<=mx then (4,mx) else if 0<=xv s (zx ds) 6 then (5,xv s (zx ds) 6) else (0,0):=by
      unfold zu;rw[n_ hl,hp.o];simp only;rw[O,<- G]
     have L:=zy (PI M.st);replace O:=zy O;replace G:=zy G;by_cases b4:0<=m
     .rw[i_ b4]at b;replace b:=zy b;replace M:=zy M;go_wp2;go_quiet (fail);go_wp2;refine bodyPost_ret (v:=.tuple #[.pointer none,Z_ 3,Z_ m]) xm_ rfl ?_;rw[E.o];exact kK b D_ L xo_
     .rw[n_ b4]at b;by_cases b6:0<=mx
      .rw[i_ b6]at b;replace b:=zy b;replace M:=zy M;go_wp2;go_quiet (fail);go_wp2;refine bodyPost_ret (v:=.tuple #[.pointer none,Z_ 4,Z_ mx]) xm_ rfl ?_;rw[E.o];exact kK b D_ L xo_
      .rw[n_ b6]at b;have p:=ue (m0:=jO [] ds (-1)) (m1:=-1) hs hp (by rw[O.o];omega) (by rw[<- G.o];omega);have Z:=QB M Y;have a5:=zy (show jZ wr _ _ w.heap.size s _ (zx ds) _ wr from⟨Z,A_ _ _,λg hg=>hg.1,λg hg=>(M.R.av g hg.1).1⟩);have a7:¬(Xk (w.heap.size+1)/\w.heap.size+2<=w.heap.size+1):=λh=>by omega
       obtain⟨dv,F⟩:=e_ (xv s (zx ds) 6);rw[<- F]at b;replace b:=zy b;replace F:=zy F;have B3:=zy M.R.here;replace M:=zy M;replace p:=zy p;by_cases a8:0<=dv
       .have K:=zy (show zu s=(5,dv) by rw[b.o,i_ a8]);go_wp2_with (go_at_call 13;apply(mD a5 hs p.o.1 (λk _=>p.o.2.2.1 k) (λk f _ hf=>p.o.2.2.2 k f hf)).mono;rintro e w2 ⟨rfl,a⟩;rw[<- F.o];have X:=(a.fr.bl B3 a7).cell 3;simp only[RV.cells,aa_,ab_]at X;replace a:=zy a);refine bodyPost_ret (v:=.tuple #[.pointer none,Z_ 5,Z_ dv]) xm_ rfl ?_;rw[E.o];exact kK K D_ (L.o.trans a.o.fr (λx hx e=>by have:=e.2;omega)) (zq.refl _)
       .have K:=zy (show zu s=(0,0) by rw[b.o,n_ a8]);go_wp2_with (go_at_call 13;apply(mD a5 hs p.o.1 (λk _=>p.o.2.2.1 k) (λk f _ hf=>p.o.2.2.2 k f hf)).mono;rintro e w2 ⟨rfl,a⟩;rw[<- F.o];have X:=(a.fr.bl B3 a7).cell 3;simp only[RV.cells,aa_,ab_]at X;replace a:=zy a);refine bodyPost_ret (v:=.tuple #[P_ w.heap.size,O_,O_]) xm_ rfl ?_;rw[E.o];refine⟨_,by rw[K.o],L.o.trans a.o.fr (λx hx e=>by have:=e.2;omega),?_⟩;rw[K.o,i_ rfl];have e2:=a.o.fr.size;exact⟨w.heap.size,ds,t,_,_,_,_,rfl,hp,a.o.Z,Ku _ _,p.o.1,p.o.2.1,λg hg=>by rcases hg with hg|hg;have:=a.o.l1 g hg;omega;have:=a.o.l2 g hg;omega,λg hg=>by have:=hg.2;omega,rfl,aj_ M.o.R.tl hs⟩
def iY:Nat->Nat->List Nat
 | 0,z=>[z]
 |f+1,z=>if z<128 then [z] else (z % 128+128)::iY f (z / 128)
def leb(z:Nat):List Nat:=iY 10 z
def bts(l:Ao):BA:=⟨(l.map UInt8.ofNat).toArray⟩
def YO(a b:Ao):bts (a++b)=bts a++bts b:=by
 unfold bts;apply b5_;simp
def zU(l:Ao):(bts l).size=l.length:=by unfold bts;show(l.map UInt8.ofNat).toArray.size=_;simp
def Wo(n:Int):Nat:=if n<0 then 2*(-(n+1)).toNat+1 else 2*n.toNat
def xU(n:Int):BA:=bts (leb (Wo n))
mutual
def ndT:DT->Nat
 | .mk _ _ _ _ ds=>1+zY ds
def zY:List DT->Nat
 | []=>0
 |d::r=>ndT d+zY r
end
def lN:∀a b:List DT,zY (a++b)=zY a+zY b
 | [],b=>by simp[zY]
 |d::r,b=>by simp only[bf_,zY,lN r b];omega
def jS:∀ds:List DT,ds.length<=zY ds
 | []=>l_
 |d::r=>by
  have:=jS r;have h1:1<=ndT d:=by obtain⟨_,_,_,_,_⟩:=d;unfold ndT;omega
  simp only[ay_,zY];omega
def xM{ds:Ae}{d:DT}(h:ds[q]?=some d):zY (ds.take (q+1))=zY (ds.take q)+ndT d/\zY (ds.take q)+ndT d<=zY ds:=by
 have e:ds.take (q+1)=ds.take q++[d]:=by rw[a6_,h];rfl
 have a:zY (ds.take (q+1))=zY (ds.take q)+ndT d:=by rw[e,lN];simp[zY]
 refine⟨a,?_⟩;rw[<- a];conv=>rhs;rw[<- List.take_append_drop (q+1) ds,lN]
 omega
def mM{m:Nat}:∀(n:Nat) (X:Nat->List Value),(∀i,i<n->(X i).length=m)->∀q j,q<n->j<m->((List.range n).flatMap X)[q*m+j]?=(X q)[j]?:=by
 intro n;induction n with
 |zero=>intro X _ q j a;omega
 |succ n ih=>
  intro X hX q j a b;have hl:((List.range n).flatMap X).length=n*m:=by
   clear ih a;induction n with
   |zero=>simp
   |succ n ih2=>
    rw[br_,a9_,ah_,ih2 (λi hi=>hX i M_)];simp only[a7_,b7_,bd_];rw[hX n M_,Nat.succ_mul]
  rw[br_,a9_];simp only[a7_,b7_,bd_];by_cases f:q<n
  .have:q*m+j<n*m:=by
    have:=b6_ m (show q+1<=n by omega);rw[Nat.add_mul,Nat.one_mul]at this;omega
   rw[aq_ M_];exact ih X (λi hi=>hX i M_) q j f b
  .have e:q=n:=M_;subst e;rw[au_ M_,hl,cg_]
mutual
def byT:DT->BA
 | .mk k n tx ks ds=>
  if k=116 then bts [n.toNat]
  else if k=105\/k=108\/k=101 then xU n
  else if k=115 then xU tx.size++tx
  else if k=102 then tx
  else (if k=40 then xU n else if k=91\/k=123 then xU ds.length else noB)++qg (k==123) ks ds
def qg(keyed:Ar):List BA->List DT->BA
 | _,[]=>noB
 |ks,d::r=>((if keyed=true then xU (ks.headD noB).size++ks.headD noB else noB)++byT d)++qg keyed ks.tail r
end
def tk(k:Nat):Prop:=k=110\/k=116\/k=105\/k=108\/k=115\/k=91\/k=123\/k=40\/k=114\/k=101\/k=102
mutual
def okD:DT->Prop
 | .mk k n tx ks ds=>(-9223372036854775808<=n/\n<=9223372036854775807/\tk k)/\(k=116->0<=n/\n<=1)/\tx.size<=4000/\(∀x∈ks,x.size<=4000)/\(k=123->ks.length=ds.length)/\qL ds
def qL:List DT->Prop
 | []=>True
 |d::r=>okD d/\qL r
end
def cF(b:BA):noB++b=b:=by apply b5_;simp[noB]
def PY(b:BA):b++noB=b:=by apply b5_;simp[noB]
def tL:∀{ds:List DT},qL ds->∀q,qL (ds.take q)
 | [],h,q=>by simpa using h
 |d::r,h,0=>by simp[qL]
 |d::r,h,q+1=>by
  unfold qL at h;simp only[List.take_succ_cons,qL];exact⟨h.1,tL h.2 q⟩
def vF(n:Int):BA:=⟨(Lib.itoa n).toArray⟩
def nU{n:Int}(h0 : -9223372036854775808<=n)(h1:n<=9223372036854775807):(vF n).size<=21:=by
 unfold vF;show(Lib.itoa n).toArray.size<=21;rw[List.size_toArray];exact Lib.itoa_length_le n h0 h1
def jn:Nat->List BA->BA
 | _,[]=>noB
 |i,a::r=>(if i=0 then noB else bts [44])++(a++jn (i+1) r)
def gF(a:BA):a++noB=a:=by apply b5_;simp[noB]
def bY(a:BA):noB++a=a:=by apply b5_;simp[noB]
def XR:∀(l:List BA) (i:Nat) (a:BA),jn i (l++[a])=jn i l++((if i+l.length=0 then noB else bts [44])++a)
 | [],i,a=>by simp only[bm_,jn,gF,bY,a1_,b3_]
 |b::r,i,a=>by
  simp only[bf_,jn,ay_];have e:i+(r.length+1)=i+1+r.length:=M_;rw[XR r (i+1) a];simp only[e,b9_]
def zD(env:Au)(t:PT)(n i:Nat):PT:=
 match t with
 | .wrap _ _ u=>u
 | .alts _ ts=>ts.getD n (.leaf 0 0)
 | .leaf c _=>match env c with|some (.recd fs)=>(fs.map PF.ty).getD i (.leaf 0 0)|_=>.leaf 0 0
def fW(env:Au)(t:PT)(n:Nat):Nat:=
 match t with
 | .leaf c _=>match env c with|some (.enum l _)=>(l.map Prod.fst).getD n 0|_=>0
 | _=>0
def eu(k:Nat)(b:BA):BA:=if k=91 then bts [91]++(b++bts [93]) else if k=123 then bts [123]++(b++bts [125]) else bts [40]++(b++bts [41])
mutual
def txT(env:Au):DT->PT->BA
 | .mk k n tx ks ds,t=>
  if k=110 then bts [78]
  else if k=116 then (if n=1 then bts [84] else bts [70])
  else if k=105\/k=108 then vF n
  else if k=115 then bts [34]++(tx++bts [34])
  else if k=102 then bts [39]++(tx++bts [39])
  else if k=101 then bts [fW env t n.toNat]
  else if k=40 then bts [60]++(vF n++(bts [58]++(jn 0 (vU env t n.toNat 0 false ks ds)++bts [62])))
  else eu k (jn 0 (vU env t n.toNat 0 (k==123) ks ds))
def vU(env:Au)(t:PT)(n:Nat):Nat->Bool->List BA->List DT->List BA
 | _,_,_,[]=>[]
 |i,keyed,ks,d::r=>((if keyed=true then ks.headD noB++bts [58] else noB)++txT env d (zD env t n i))::vU env t n (i+1) keyed ks.tail r
end
def lg(env:Au)(t:PT)(n:Nat):∀(ds:List DT) (i:Nat) (keyed:Bool) (ks:List BA),(vU env t n i keyed ks ds).length=ds.length
 | [],_,_,_=>by simp[vU]
 |d::r,i,keyed,ks=>by simp only[vU,ay_,lg env t n r]
def itT(env:Au)(t:PT)(n:Nat)(keyed:Ar)(ks:Dx)(q:Nat)(d:DT):BA:=(if keyed=true then ks.getD q noB++bts [58] else noB)++txT env d (zD env t n q)
def eD(env:Au)(t:PT)(n:Nat):∀(ds:List DT) (i:Nat) (keyed:Bool) (ks:List BA) (q:Nat) (d:DT),ds[q]?=some d->(vU env t n i keyed ks ds)[q]?=some ((if keyed=true then ks.getD q noB++bts [58] else noB)++txT env d (zD env t n (i+q)))
 | [],i,keyed,ks,q,d,h=>by simp at h
 |e::r,i,keyed,ks,0,d,h=>by
  simp only[aa_,af_]at h;subst h;simp only[vU,aa_,b3_];cases ks<;>rfl
 |e::r,i,keyed,ks,q+1,d,h=>by
  simp only[ab_]at h;simp only[vU,ab_];rw[eD env t n r (i+1) keyed ks.tail q d h,show i+1+q=i+(q+1) by omega];cases ks with
  |nil=>simp
  |cons a l=>simp
def upT(env:Au)(t:PT)(n:Nat)(keyed:Ar)(ks:Dx)(ds:Ae)(q:Nat):BA:=jn 0 ((vU env t n 0 keyed ks ds).take q)
def eB{env:Au}{n:Nat}{ks:Dx}{ds:Ae}{d:DT}(h:ds[q]?=some d):upT env t n keyed ks ds (q+1)=upT env t n keyed ks ds q++((if q=0 then noB else bts [44])++itT env t n keyed ks q d):=by
 have a:q<ds.length:=(ai_.1 h).1;unfold upT;rw[a6_,eD env t n ds 0 keyed ks q d h];simp only[Option.toList_some];rw[XR,ca_,lg,show 0+min q ds.length=q by omega,show 0+q=q by omega];rfl
def eP(env:Au)(t:PT)(n:Nat)(keyed:Ar)(ks:Dx)(ds:Ae):upT env t n keyed ks ds 0=noB:=by unfold upT;rw[List.take_zero];rfl
def Xt{env:Au}{n:Nat}{ks:Dx}{ds:Ae}(h:ds.length<=q):upT env t n keyed ks ds q=jn 0 (vU env t n 0 keyed ks ds):=by
 unfold upT;rw[bc_ (by rw[lg];exact h)]
section
variable {w w':Aw} {bd:Nat} {s:BA} {bz i:Nat} {er:Int} {n:Nat}
end
section
variable {w:Aw} {bd:Nat} {s:BA} {bz i:Nat} {er:Int} {n:Nat}
end
def uR(s:BA)(i k acc:Nat):Option (Nat×Nat):=
 match wB s (10-k) (i+k) with
 |none=>none
 |some (z,j)=>if z=0/\0<k then none else some (acc+128 ^ k*z,j)
def JX(s:BA)(i:Nat):uR s i 0 0=wB s 10 i:=by
 unfold uR;rw[show 10-0=10 from rfl,b3_];cases wB s 10 i with
 |none=>rfl
 |some q=>
  obtain⟨z,j⟩:=q;simp
def Wh{s:BA}{i k:Nat}(hk:k<=9)(h:s.size<=i+k):uR s i k acc=none:=by
 unfold uR;rw[show 10-k=(9-k)+1 by omega,wB,n_ M_]
def ng{s:BA}{i k:Nat}(hk:k<=9)(h:i+k<s.size)(hb:bt s (i+k)<128):uR s i k acc=if bt s (i+k)=0/\0<k then none else some (acc+128 ^ k*bt s (i+k),i+k+1):=by
 unfold uR;rw[show 10-k=(9-k)+1 by omega,wB,i_ h,i_ hb]
def nk{s:BA}{i k:Nat}(hk:k<=9)(h:i+k<s.size)(hb:¬bt s (i+k)<128):uR s i k acc=if k=9 then none else uR s i (k+1) (acc+128 ^ k*(bt s (i+k)-128)):=by
 unfold uR;rw[show 10-k=(9-k)+1 by omega,wB,i_ h,n_ hb];by_cases a:k=9
 .subst a;rw[i_ rfl];simp[wB]
 .rw[n_ a,show 10-(k+1)=9-k by omega,show i+k+1=i+(k+1) by omega];cases wB s (9-k) (i+(k+1)) with
  |none=>rfl
  |some q=>
   obtain⟨z,j⟩:=q;simp only;by_cases hz:z=0
   .rw[i_ hz,i_ ⟨hz,M_⟩]
   .rw[n_ hz,n_ (λx=>hz x.1)];simp only;rw[n_ (λx=>M_)];have e:acc+128 ^ k*(bt s (i+k)-128+128*z)=acc+128 ^ k*(bt s (i+k)-128)+128 ^ (k+1)*z:=by
     rw[Nat.pow_succ,Nat.mul_add,Nat.mul_assoc,bw_]
    rw[e]
def BO(k:Nat):1<=128 ^ k:=Nat.one_le_pow _ _ D_
def VH{k:Nat}(h:k<=8):128 ^ (k+1)<=9223372036854775808:=aj_ (Nat.pow_le_pow_right D_ (show k+1<=9 by omega)) D_
def mQ{s:BA}{i k:Nat}(h:i+k<=ze s i):ze s (i+k)=ze s i:=by
 induction k with
 |zero=>rfl
 |succ k ih=>
  have h1:=ih M_;rw[<- h1];unfold ze at *;conv=>rhs;rw[zJ]
  split
  .split
   .rfl
   .rename_i a b;rw[zJ,dif_pos a,n_ b]at h1;omega
  .rename_i a;rw[zJ,dif_neg a]at h1;omega
section
variable {w W W':Aw} {P:Az} {bd:Nat} {s:BA} {bz i n i' n':Nat} {er er':Int} {ts:Ap} {env:Au}
end
section
variable {w W W':Aw} {P:Az} {bd:Nat} {s:BA} {bz j m:Nat} {er:Int} {ts:Ap} {env:Au} {k:Nat} {n:Int} {tx:BA} {vk vs:Ax} {d:DT} {r:Except Nat (DT×Nat×Nat)}
end
section
variable {w:Aw} {P:Az} {bd:Nat} {s:BA} {bz i n:Nat} {er:Int} {ts:Ap} {env:Au}
end
section
variable {w W W':Aw} {P:Az} {bd:Nat} {s:BA} {bz j j' nn nn':Nat} {er er':Int} {cx:Ay} {ct:Av} {ts:Ap} {env:Au} {b0 b1 B c:Nat} {vk vs:Ax} {ks:Dx} {n:Nat} {xs:Ay} {ds:Ae}
end
section
variable {w W W':Aw} {P:Az} {bd:Nat} {s:BA} {bz j m b0:Nat} {er:Int} {ts:Ap} {env:Au} {k:Nat} {n:Int} {tx:BA} {vk vs:Ax} {d:DT} {r:Except Nat (DT×Nat×Nat)}
end
def gU(acc:Af):Except Nat (List (BA×DT)×Nat×Nat)->Except Nat (List (BA×DT)×Nat×Nat)
 | .error e=>.error e
 | .ok (l,j,m)=>.ok (acc++l,j,m)
def rI(x:Except Nat (List (BA×DT)×Nat×Nat)):gU [] x=x:=by
 cases x with
 |error e=>rfl
 |ok q=>obtain⟨l,j,m⟩:=q;rfl
def oX(R:Nat->Nat->Except Nat (DT×Nat×Nat))(s:BA)(keyed:Ar)(c:Nat)(acc:Af)(k:BA)(j m:Nat):Except Nat (List (BA×DT)×Nat×Nat):=
 match R j m with
 | .error e=>.error e
 | .ok (d,j',m')=>gU (acc++[(k,d)]) (xy R s keyed c (some k) j' m')
def cy(R:Nat->Nat->Except Nat (DT×Nat×Nat))(s:BA)(keyed:Ar)(c:Nat)(acc:Af)(b:Ey)(j m:Nat):gU acc (xy R s keyed (c+1) b j m) =
 match pX s keyed b j with
 |none=>.error 6
 |some (k,a)=>oX R s keyed c acc k a m:=by
 rw[xy];cases pX s keyed b j with
 |none=>rfl
 |some q=>
  obtain⟨k,a⟩:=q;simp only[oX];cases R a m with
  |error e=>rfl
  |ok q=>
   obtain⟨d,j',a⟩:=q;simp only;cases xy R s keyed c (some k) j' a with
   |error e=>rfl
   |ok q=>
    obtain⟨l,a,a⟩:=q;simp[gU]
def Ms(c:Nat):Except Nat (List (BA×DT)×Nat×Nat)->Except Nat (DT×Nat×Nat)
 | .error e=>.error e
 | .ok (l,j,m)=>.ok (.mk c 0 noB (kh (c==123) l) (l.map Prod.snd),j,m)
def oO(R:Nat->Nat->Except Nat (DT×Nat×Nat))(s:BA)(c i n:Nat):wQ R s c i n=match gQ s i with|none=>.error 6|some (q,j)=>Ms c (xy R s (c==123) q.toNat none j n):=by
 unfold wQ;cases gQ s i with
 |none=>rfl
 |some q=>
  obtain⟨v,j⟩:=q;simp only;cases xy R s (c==123) v.toNat none j n with
  |error e=>rfl
  |ok q=>rfl
def mz(ds:Ae):Except Nat (List DT×Nat×Nat)->Except Nat (List DT×Nat×Nat)
 | .error e=>.error e
 | .ok (l,j,m)=>.ok (ds++l,j,m)
def Xp(x:Except Nat (List DT×Nat×Nat)):mz [] x=x:=by
 cases x with
 |error e=>rfl
 |ok q=>obtain⟨l,j,m⟩:=q;rfl
def Zv(R:PT->Nat->Nat->Except Nat (DT×Nat×Nat))(ds:Ae)(t:PT)(r:Ad)(j m:Nat):mz ds (yZ R (t::r) j m)=match R t j m with | .error e=>.error e | .ok (d,j',a)=>mz (ds++[d]) (yZ R r j' a):=by
 rw[yZ];cases R t j m with
 |error e=>rfl
 |ok q=>
  obtain⟨d,j',a⟩:=q;simp only;cases yZ R r j' a with
  |error e=>rfl
  |ok q=>
   obtain⟨l,a,a⟩:=q;simp[mz]
mutual
def xA:PT->Prop
 | .leaf _ _=>True
 | .wrap _ _ t=>xA t
 | .alts _ l=>l.length<=300/\fU l
def fU:List PT->Prop
 | []=>True
 |t::r=>xA t/\fU r
end
def kM:∀{l:List PT},fU l->∀t∈l,xA t
 | [],_,t,h=>by cases h
 |x::r,h,t,a=>by
  unfold fU at h;rcases an_.1 a with rfl|a
  .exact h.1
  .exact kM h.2 t a
def JH(env:Au):Prop:=∀c fs,env c=some (.recd fs)->fs.length<=300/\∀g∈fs,xA g.ty
def YT(h:u<10):vF (u:Int)=bts [48+u]:=by
 unfold vF bts;rw[Lib.itoa_nonneg,Lib.decDigits_one h];rfl
def WR(h:¬u<10):vF (u:Int)=vF ((u / 10:Nat):Int)++bts [48+u % 10]:=by
 unfold vF bts;rw[Lib.itoa_nonneg,Lib.itoa_nonneg,Lib.decDigits,dif_neg h];apply b5_;simp
def WL(h:1<=u):vF (-(u:Int))=bts [45]++vF (u:Int):=by
 unfold vF bts;rw[Lib.itoa_neg u h,Lib.itoa_nonneg];apply b5_;simp
section
variable {w:Aw}
end
inductive dr (env:Au):DT->PT->Prop
 |flat {k:Nat} {n:Int} {tx:BA} {t:PT} (h:k=110\/k=116\/k=105\/k=108\/k=115\/k=102):dr env (.mk k n tx [] []) t
 |wrap {c p:Nat} {u:PT} {ks:List BA} {ds:List DT} (h:∀(i:Nat) (d:DT),ds[i]?=some d->dr env d u):dr env (.mk c 0 noB ks ds) (.wrap c p u)
 |alts {n p:Nat} {l:List PT} {u:PT} {d:DT} (hl:l[n]?=some u) (h:dr env d u):dr env (.mk 40 (n:Int) noB [] [d]) (.alts p l)
 |sym {c p n:Nat} {l:List (Nat×Nat)} {o:Option (Nat×Nat)} (he:env c=some (.enum l o)) (hb:¬zr c=true) (hn:n<l.length):dr env (.mk 101 (n:Int) noB [] []) (.leaf c p)
 |recd {c p:Nat} {fs:List PF} {ds:List DT} (he:env c=some (.recd fs)) (hb:¬zr c=true) (hl:ds.length=fs.length) (h:∀(i:Nat) (d:DT) (g:PF),ds[i]?=some d->fs[i]?=some g->dr env d g.ty):dr env (.mk 114 0 noB [] ds) (.leaf c p)
def GJ(env:Au)(R:Nat->Nat->Except Nat (DT×Nat×Nat))(t:PT):Prop:=∀i n d j m,R i n=.ok (d,j,m)->dr env d t/\m=n+ndT d
def mE{env:Au}{s:BA}{R:Nat->Nat->Except Nat (DT×Nat×Nat)}(b:GJ env R t):∀(c:Nat) (a:Option BA) (i n:Nat) (l:List (BA×DT)) (j m:Nat),xy R s keyed c a i n=.ok (l,j,m)->(∀e∈l,dr env e.2 t)/\m=n+zY (l.map Prod.snd)
 | 0,a,i,n,l,j,m,h=>by
  simp only[xy,ae_,ac_]at h;obtain⟨rfl,rfl,rfl⟩:=h;simp[zY]
 |c+1,a,i,n,l,j,m,h=>by
  unfold xy at h;split at h
  .simp at h
  .rename_i k o hk;split at h
   .simp at h
   .rename_i d p z hd;have f:=b _ _ _ _ _ hd;split at h
    .simp at h
    .rename_i x j' y he;have g:=mE b c _ _ _ _ _ _ he;simp only[ae_,ac_]at h;obtain⟨rfl,rfl,rfl⟩:=h;refine⟨λe he=>?_,?_⟩
     .rcases an_.1 he with rfl|he
      .exact f.1
      .exact g.1 e he
     .simp only[av_,zY];omega
def uy{env:Au}{R:PT->Nat->Nat->Except Nat (DT×Nat×Nat)}(o:∀t,GJ env (R t) t):∀(fs:List PF) (i n:Nat) (l:List DT) (j m:Nat),yZ R (fs.map PF.ty) i n=.ok (l,j,m)->l.length=fs.length/\(∀(i:Nat) (d:DT) (g:PF),l[i]?=some d->fs[i]?=some g->dr env d g.ty)/\m=n+zY l
 | [],i,n,l,j,m,h=>by
  simp only[ba_,yZ,ae_,ac_]at h;obtain⟨rfl,rfl,rfl⟩:=h;simp[zY]
 |f::r,i,n,l,j,m,h=>by
  simp only[av_]at h;unfold yZ at h;split at h
  .simp at h
  .rename_i d y C hd;have p:=o f.ty _ _ _ _ _ hd;split at h
   .simp at h
   .rename_i z j' A he;have x:=uy o r _ _ _ _ _ he;simp only[ae_,ac_]at h;obtain⟨rfl,rfl,rfl⟩:=h;refine⟨by simp only[ay_];omega,λq e g a b=>?_,by simp only[zY];omega⟩;cases q with
    |zero=>
     simp only[aa_,af_]at a b;subst a b;exact p.1
    |succ q=>
     simp only[ab_]at a b;exact x.2.1 q e g a b
def lV(s:BA)(env:Au):∀(f:Nat) (t:PT),GJ env (rdB s env f t) t:=by
 intro f;induction f with
 |zero=>intro t i n d j m h;simp[rdB]at h
 |succ f ih=>
  intro t i n d j m h;unfold rdB at h;split at h
  .simp at h
  .rename_i C;split at h
   .rename_i c p;unfold wK at h;split at h
    .simp only[ae_,ac_]at h;obtain⟨rfl,rfl,rfl⟩:=h;exact⟨.flat M_,by simp[ndT,zY]⟩
    .split at h
     .split at h
      .simp only[ae_,ac_]at h;obtain⟨rfl,rfl,rfl⟩:=h;exact⟨.flat M_,by simp[ndT,zY]⟩
      .simp at h
     .split at h
      .split at h
       .simp at h
       .simp only[ae_,ac_]at h;obtain⟨rfl,rfl,rfl⟩:=h;exact⟨.flat M_,by simp[ndT,zY]⟩
      .split at h
       .split at h
        .simp at h
        .simp only[ae_,ac_]at h;obtain⟨rfl,rfl,rfl⟩:=h;exact⟨.flat M_,by simp[ndT,zY]⟩
       .split at h
        .split at h
         .simp at h
         .simp only[ae_,ac_]at h;obtain⟨rfl,rfl,rfl⟩:=h;exact⟨.flat M_,by simp[ndT,zY]⟩
        .split at h
         .simp at h
         .rename_i pb o;have g:¬zr c=true:=by
           intro hb;simp only[zr,ax_,beq_iff_eq]at hb;omega
          unfold jz at h;split at h
          .split at h
           .simp at h
           .rename_i ds b D he;have a:=uy ih _ _ _ _ _ _ he;simp only[ae_,ac_]at h;obtain⟨rfl,rfl,rfl⟩:=h;exact⟨.recd o g a.1 a.2.1,by simp only[ndT];omega⟩
          .split at h
           .simp at h
           .rename_i q b he;have a:=yS he;simp only[ae_,ac_]at h;obtain⟨rfl,rfl,rfl⟩:=h;obtain⟨k,rfl⟩:∃k:Nat,q=(k:Int):=⟨q.toNat,M_⟩;exact⟨.sym o g M_,by simp[ndT,zY]⟩
          .split at h
           .simp at h
           .simp only[ae_,ac_]at h;obtain⟨rfl,rfl,rfl⟩:=h;exact⟨.flat M_,by simp[ndT,zY]⟩
   .rename_i c p t;unfold wQ at h;split at h
    .simp at h
    .rename_i q b he;split at h
     .simp at h
     .rename_i l z A hl;have a:=mE (ih t) _ _ _ _ _ _ _ hl;simp only[ae_,ac_]at h;obtain⟨rfl,rfl,rfl⟩:=h;refine⟨.wrap (λi d e=>?_),by simp only[ndT];omega⟩;rw[as_]at e;obtain⟨x,hx,rfl⟩:=b0_.1 e;exact a.1 x (ag_ hx)
   .rename_i p ts;unfold qt at h;split at h
    .simp at h
    .rename_i q b he;have h1:=yS he;split at h
     .simp at h
     .rename_i t y;split at h
      .simp at h
      .rename_i d1 z A hd;have a:=ih t _ _ _ _ _ hd;simp only[ae_,ac_]at h;obtain⟨rfl,rfl,rfl⟩:=h;obtain⟨k,rfl⟩:∃k:Nat,q=(k:Int):=⟨q.toNat,M_⟩;exact⟨.alts (by simpa using y) a.1,by simp only[ndT,zY];omega⟩
def PAt(w:Aw)(bp:Nat)(s:BA)(i:Nat):Prop:=Blk w bp [.string s,I_ i] 119
section
variable {w w':Aw} {bp:Nat} {s:BA} {i:Nat}
def PAt.c0(h:PAt w bp s i):w.cell? ⟨bp,0,none⟩=some (.string s):=by rw[F_ h];rfl
def PAt.c1(h:PAt w bp s i):w.cell? ⟨bp,1,none⟩=some (I_ i):=by rw[F_ h];rfl
def PAt.th(h:PAt w bp s i)(o:Nat):w.frozen? ⟨bp,o,none⟩=false:=Blk.th h o
def PAt.si(h:PAt w bp s i)(hw:zq w w'):PAt w' bp s i:=by obtain⟨n,rfl⟩:=hw;exact h
def PAt.inc(h:PAt w bp s i):PAt (w.setCell ⟨bp,1,none⟩ (Z_ ((i:Int)+1))) bp s (i+1):=G_ h 1 _
end
def ym{w:Aw}{bp:Nat}{s:BA}{i:Nat}(h:PAt w bp s i):Calls prog 97 #[P_ bp] w λe w'=>e=.returned (I_ i)/\w'=w:=by
 have c1:=h.c1;go_in;go_wp2;go_ret;exact⟨rfl,rfl⟩
def wD(c:Nat)(w:Aw):Calls prog 95 #[U_ c] w λe w'=>e=.returned (.bool (zo c))/\w'=w:=by
 have hb:zo c=(decide ((65:Int)<=(c:Int))&&decide ((c:Int)<=70)):=by
  unfold zo;rw[show decide ((65:Int)<=(c:Int))=decide (65<=c) by congr 1;exact propext M_,show decide ((c:Int)<=70)=decide (c<=70) by congr 1;exact propext M_]
 rw[hb];by_cases h1:(65:Int)<=(c:Int)
 .go_in;go_wp2;go_ret;exact⟨by simp[h1],rfl⟩
 .go_in;go_wp2;go_ret;exact⟨by simp;omega,rfl⟩
def yb{w:Aw}{bp:Nat}{s:BA}{i:Nat}(h:PAt w bp s i)(_hs:s.size<=300)(hi:i<=s.size):Calls prog 96 #[P_ bp] w λe w'=>e=.returned (.int .u8 (bt s i:Int))/\zq w w':=by
 have c0:=h.c0;have c1:=h.c1;by_cases hl:i<s.size
 .have a:(i:Int)<(s.size:Int):=M_;go_in;go_wp2;go_quiet (fail);go_wp2;go_quiet (fail);go_wp2;go_ret;exact⟨by simp[vH s i hl],(zq.drewN _ _).trans (zq.drewN _ _)⟩
 .have a:¬(i:Int)<(s.size:Int):=M_;go_in;go_wp2;go_quiet (fail);go_wp2;go_ret;exact⟨by rw[wi M_];rfl,_,rfl⟩
def Cg(w:Aw)(bp:Nat)(s:BA)(i d:Nat)(b:Ar)(w':Aw):Prop:=
 Fr w w' (· = bp)/\((bt s i=d/\b=true/\PAt w' bp s (i+1)/\i<s.size)\/(bt s i≠d/\b=false/\PAt w' bp s i))
def uZ{w:Aw}{bp:Nat}{s:BA}{i:Nat}{c:Int}(d:Nat)(h:PAt w bp s i)(hs:s.size<=300)(hi:i<=s.size)(hd:c=(d:Int))(f:0<d):Calls prog 100 #[P_ bp,.int .u8 c] w λe w'=>∃b,e=.returned (.bool b)/\Cg w bp s i d b w':=by
 subst hd;obtain⟨x,hx⟩:=x_ (bt s i);by_cases hb:x=d
 .subst hb;replace hx:=zy hx;go_in;go_wp2_with (go_at_call 96;apply(yb h hs hi).mono;rintro e w' ⟨rfl,hw⟩;rw[hx.o];have a:=h.si hw;have c1:=a.c1;have g:=a.th 1);go_ret;exact⟨true,rfl,((A_ w _).si hw).setCell _ _ (λ_=>rfl),.inl ⟨hx,rfl,a.inc,zm (by rw[hx.o];exact f)⟩⟩
 .have hn:((x:Int) != (d:Int))=true:=x1_
  replace hx:=zy hx;go_in;go_wp2_with (go_at_call 96;apply(yb h hs hi).mono;rintro e w' ⟨rfl,hw⟩;rw[hx.o];have a:=h.si hw);go_ret;exact⟨false,rfl,(A_ w _).si hw,.inr ⟨by rw[hx.o];exact hb,rfl,a⟩⟩
def gI{w:Aw}{bp:Nat}{s:BA}{i:Nat}{c:Int}(d:Nat)(h:PAt w bp s i)(hs:s.size<=300)(hi:i<=s.size)(hd:c=(d:Int))(a:0<d)(hb:bt s i=d):Calls prog 100 #[P_ bp,.int .u8 c] w λe w'=>e=.returned (.bool true)/\Fr w w' (· = bp)/\PAt w' bp s (i+1):=by
 apply(uZ d h hs hi hd a).mono;rintro e w' ⟨b,rfl,hf,a⟩;rcases a with⟨_,rfl,h1,_⟩|⟨hn,_⟩
 .exact⟨rfl,hf,h1⟩
 .exact absurd hb hn
def pE{w:Aw}{bp:Nat}{s:BA}{i:Nat}{c:Int}(d:Nat)(h:PAt w bp s i)(hs:s.size<=300)(hi:i<=s.size)(hd:c=(d:Int))(a:0<d)(hb:bt s i≠d):Calls prog 100 #[P_ bp,.int .u8 c] w λe w'=>e=.returned (.bool false)/\Fr w w' (· = bp)/\PAt w' bp s i:=by
 apply(uZ d h hs hi hd a).mono;rintro e w' ⟨b,rfl,hf,a⟩;rcases a with⟨hy,_⟩|⟨_,rfl,h1⟩
 .exact absurd hy hb
 .exact⟨rfl,hf,h1⟩
def zA(w:Aw)(lo:Nat)(v:Ax)(p:Int)(ev:Ax):Prop:=
 ∃g,lo<=g/\v=.iface 185 (P_ g)/\Blk w g [Z_ p,ev] 187
def xS{w:Aw}{bp:Nat}{s:BA}{i:Nat}(h:PAt w bp s i)(hg:w.cell? ⟨0,0,none⟩=some (.iface et ex)):Calls prog 75 #[P_ bp] w λe w'=>∃v,e=.returned v/\zA w' w.heap.size v (i:Int) (.iface et ex)/\Fr w w' N_:=by
 obtain⟨b,a⟩:=y_ (λ(e:Ending) (w':World)=>∃v,e=.returned v/\zA w' w.heap.size v (i:Int) (.iface et ex)/\Fr w w' N_);rw[<- a.o];have c1:=h.c1;replace h:=zy h;go_in;go_wp2;refine tr_ 8 (λW=>z_ W bp 1 (I_ i)/\z_ W 0 0 (.iface et ex)) ?_;refine tz_ 0 ?_;refine tz_ 1 ?_;refine tz_ 2 ?_;refine tz_ 3 ?_;refine tz_ 4 ?_;refine tz_ 5 ?_;refine t1_ 6 ⟨c1,hg⟩ ?_;have b:(w.drew.alloc (.cells #[I_ i,.iface et ex] 187)).cell? ⟨bp,1,none⟩=some (I_ i):=by
  rw[World.cell?_alloc_past _ _ _ (World.block_lt_of_cell? w.drew ⟨bp,1,none⟩ c1)];exact c1
 have f:(w.drew.alloc (.cells #[I_ i,.iface et ex] 187)).cell? ⟨0,0,none⟩=some (.iface et ex):=by
  rw[World.cell?_alloc_past _ _ _ (World.block_lt_of_cell? w.drew ⟨0,0,none⟩ hg)];exact hg
 refine t1_ 7 ⟨b,f⟩ ?_;refine t1_ 8 ⟨b,f⟩ ?_;refine td_ ?_ _;go_wp2;try go_ret
 rw[a.o];exact⟨_,rfl,⟨w.heap.size,l_,rfl,(B_ w _ _).drew⟩,((A_ w _).alloc _).drew⟩
def pF(w:Aw)(et:Av)(ex:Ax):Prop:=w.cell? ⟨0,0,none⟩=some (.iface et ex)
def pF.fr{w w':Aw}(h:pF w et ex)(hf:Fr w w' S)(b:¬S 0):pF w' et ex:=
 (World.cell?_of_block (a:=⟨0,0,none⟩) (hf.block _ (World.block_lt_of_cell? w ⟨0,0,none⟩ h) b)).trans h
def zA.fr{w w':Aw}{lo:Nat}{p:Int}{a:Ax}(h:zA w lo v p a)(hf:Fr w w' S)(e:∀g,lo<=g->¬S g):zA w' lo v p a:=by
 obtain⟨g,h1,a,b⟩:=h;exact⟨g,h1,a,hf.bl b (e g h1)⟩
def zA.ls{w:Aw}{lo b:Nat}{p:Int}{a:Ax}(h:zA w lo v p a)(hl:b<=lo):zA w b v p a:=by
 obtain⟨g,h1,a⟩:=h;exact⟨g,aj_ hl h1,a⟩
def Cf(w:Aw)(bp:Nat)(s:BA)(i d:Nat)(et:Av)(ex:Ax)(v:Ax)(w':Aw):Prop:=
 Fr w w' (· = bp)/\((bt s i=d/\v=.nilIface/\PAt w' bp s (i+1)/\i<s.size)\/(bt s i≠d/\zA w' w.heap.size v (i:Int) (.iface et ex)/\PAt w' bp s i))
def yL{w:Aw}{bp:Nat}{s:BA}{i:Nat}{c:Int}(d:Nat)(h:PAt w bp s i)(a:pF w et ex)(x:bp≠0)(hs:s.size<=300)(hi:i<=s.size)(hd:c=(d:Int))(p:0<d):Calls prog 99 #[P_ bp,.int .u8 c] w λe w'=>∃v,e=.returned v/\Cf w bp s i d et ex v w':=by
 subst hd;obtain⟨z,f⟩:=y_ (λ(e:Ending) (w':World)=>∃v,e=.returned v/\Cf w bp s i d et ex v w');rw[<- f.o];by_cases hb:bt s i=d
 .have g:=zy (gI d h hs hi rfl p hb);have b:i<s.size:=zm M_;replace hb:=zy hb;replace h:=zy h;replace a:=zy a;go_in;go_wp2_with (go_at_call 100;apply g.o.mono;rintro e w1 ⟨rfl,hf,h1⟩;replace h1:=zy h1;replace hf:=zy hf);try go_ret
  rw[f.o];exact⟨.nilIface,rfl,hf,.inl ⟨hb,rfl,h1,b⟩⟩
 .have g:=zy (pE d h hs hi rfl p hb);replace hb:=zy hb;replace h:=zy h;replace a:=zy a;go_in;go_wp2_with (first
   |(go_at_call 100;apply g.o.mono;rintro e w1 ⟨rfl,hf,h1⟩;replace h1:=zy h1;replace hf:=zy hf)
   |(go_at_call 75;apply(xS h1 (a.o.fr hf (Ne.symm x))).mono;rintro e a ⟨v,rfl,l,b⟩;replace l:=zy l;replace b:=zy b))
  try go_ret
  rw[f.o];have y:=hf.o.size;exact⟨v,rfl,hf.o.trans b v_,.inr ⟨hb,l.o.ls y,b.o.bl h1 id⟩⟩
def vB(c:Nat):TypeId:=if c=110 then 212 else if c=116 then 214 else if c=105 then 215 else if c=108 then 216 else 217
def qV(c:Nat):TypeId:=if c=91 then 219 else 220
inductive TyV (w:Aw) (P:Az):PT->Value->Prop
 |base (c p:Nat) (h:zr c=true):TyV w P (.leaf c p) (.iface (vB c) (.agg #[I_ p]))
 |name (c p:Nat) (h:zo c=true):TyV w P (.leaf c p) (.iface 226 (.agg #[I_ p,U_ c]))
 |wrap (c p:Nat) {t:PT} {v:Value} (h:TyV w P t v):TyV w P (.wrap c p t) (.iface (qV c) (.agg #[I_ p,v]))
 |alts (p:Nat) {l:List PT} {sv:Value} (X:Nat->Value) (ho:w.ownsRow 0 58 1 sv l.length ((List.range l.length).map X)) (hP:∀g,sv.ownBlock=some g->P g) (h:∀i t,l[i]?=some t->TyV w P t (X i)) :
  TyV w P (.alts p l) (.iface 223 (.agg #[I_ p,sv]))
def TyV.mono{w:Aw}{P Q:Az}(h:TyV w P t v)(a:∀g,g<w.heap.size->P g->Q g):TyV w Q t v:=by
 induction h with
 |base c p h=>exact .base c p h
 |name c p h=>exact .name c p h
 |wrap c p h ih=>exact .wrap c p ih
 |alts p X ho hP h ih=>exact .alts p X ho (λg e=>a g (ho.lt g e).2 (hP g e)) ih
def TyV.fr{w w':Aw}{P:Az}(h:TyV w P t v)(hf:Fr w w' S)(a:∀g,P g->¬S g):TyV w' P t v:=by
 induction h with
 |base c p h=>exact .base c p h
 |name c p h=>exact .name c p h
 |wrap c p h ih=>exact .wrap c p ih
 |alts p X ho hP h ih=>exact .alts p X (zj ho hf (λg e=>a g (hP g e))) hP ih
def IfV(v:Ax):Prop:=v=.nilIface\/∃T x,v=.iface T x
def vV(w:Aw)(bp:Nat)(s:BA)(i:Nat)(et:Av)(ex:Ax)(e:Ak)(w':Aw):Prop:=
 ∃v ev,IfV v/\e=.returned (.tuple #[v,ev])/\Fr w w' (· = bp)/\
 match pT s i with
 | .ok (t,j)=>ev=.nilIface/\PAt w' bp s j/\TyV w' (λg=>w.heap.size<=g) t v
 | .error k=>zA w' w.heap.size ev (k:Int) (.iface et ex)/\∃j,j<=s.size/\PAt w' bp s j
def vJ(s:BA)(i:Nat):Prop:=∀(w:World) (bp:Nat) (et:TypeId) (ex:Value),PAt w bp s i->pF w et ex->bp≠0->
 Calls prog 74 #[P_ bp] w (vV w bp s i et ex)
def yV{w:Aw}{bp:Nat}{s:BA}{i x:Nat}{c:Int}(h:PAt w bp s i)(hs:s.size<=300)(hi:i<=s.size)(hx:bt s i=x)(hc:(x:Int)=c)(h0:0<c):Calls prog 100 #[P_ bp,.int .u8 c] w λe w'=>e=.returned (.bool true)/\Fr w w' (· = bp)/\PAt w' bp s (i+1):=
 gI x h hs hi hc.symm M_ hx
def yJ{w:Aw}{bp:Nat}{s:BA}{i x:Nat}{c:Int}(h:PAt w bp s i)(hs:s.size<=300)(hi:i<=s.size)(hx:bt s i=x)(hc:(x:Int)≠c)(h0:0<c):Calls prog 100 #[P_ bp,.int .u8 c] w λe w'=>e=.returned (.bool false)/\Fr w w' (· = bp)/\PAt w' bp s i:=
 pE c.toNat h hs hi M_ M_ (by rw[hx];omega)
def wE{s:BA}{i c:Nat}(h:bt s i=c)(hb:zr c=true):pT s i=.ok (.leaf c i,i+1):=by
 rw[wV];unfold vL;rw[h,i_ hb]
def cq11_{p:Prop}(h:p:=by
 intro w bp et ex h z F;obtain⟨C,y⟩:=y_ (vV w bp s i et ex);rw[<- y.o];have a:=zy (And.intro h (A_ w (λx=>x=bp)));(try have:=cc5;have A:=zy (show pT s i=.ok (.leaf (bt s i) i,i+1) from iz (by simpa[zo] using hn));obtain⟨x,hx⟩:=x_ (bt s i);rw[hx]at hn A;(have G:65<=x/\x<=70:=by simpa[zo] using hn);have E:i<s.size:=zm M_);replace hx:=zy hx;replace z:=zy z;replace h:=zy h;(try have:=cc5;replace hn:=zy hn);go_in;go_wp2_with (first
  |(go_at_call 97;apply(ym a.o.1).mono;rintro e w' ⟨rfl,f⟩;rw[f])
  |(go_at_call 96;apply(yb a.o.1 hs hi).mono;rintro e w' ⟨rfl,f⟩;rw[hx.o];replace a:=zy (And.intro (a.o.1.si f) (a.o.2.si f));clear f)
  |(go_at_call 100;(first|(have:=cc5;apply(yJ a.o.1 hs hi hx.o M_ D_).mono)|(apply(yV a.o.1 hs hi hx.o D_ D_).mono));rintro e w' ⟨rfl,l,g⟩;(first|(have:=cc5;replace a:=zy (And.intro g (a.o.2.trans l u_)))|(have b:=zy (And.intro g (a.o.2.trans l u_))));clear l g)
  |((first|go_at_call 100|go_at_call 95);(first|(have:=cc5;apply(wD x _).mono)|(apply(yJ a.o.1 hs hi hx.o D_ D_).mono));(first|(have:=cc5;rintro e w' ⟨rfl,f⟩)|(rintro e w' ⟨rfl,l,g⟩));(first|(have:=cc5;rw[f,hn.o])|(replace a:=zy (And.intro g (a.o.2.trans l u_))));(first|(have:=cc5;clear f;have c1:=a.o.1.c1;have D:=a.o.1.th 1)|(clear l g))))
 try go_ret
 rw[y.o];(first|(have:=cc1;refine⟨.iface (vB 115) (.agg #[I_ i]),.nilIface,.inr ⟨_,_,rfl⟩,rfl,b.o.2,?_⟩)|(have:=cc2;refine⟨.iface (vB 105) (.agg #[I_ i]),.nilIface,.inr ⟨_,_,rfl⟩,rfl,b.o.2,?_⟩)|(have:=cc3;refine⟨.iface (vB 116) (.agg #[I_ i]),.nilIface,.inr ⟨_,_,rfl⟩,rfl,b.o.2,?_⟩)|(have:=cc4;refine⟨.iface (vB 110) (.agg #[I_ i]),.nilIface,.inr ⟨_,_,rfl⟩,rfl,b.o.2,?_⟩)|(have:=cc5;refine⟨.iface 226 (.agg #[I_ i,U_ x]),.nilIface,.inr ⟨_,_,rfl⟩,rfl,a.o.2.setCell _ _ (λ_=>rfl),?_⟩)|(refine⟨.iface (vB 108) (.agg #[I_ i]),.nilIface,.inr ⟨_,_,rfl⟩,rfl,b.o.2,?_⟩));(first|(have:=cc5;rw[A.o])|(rw[wE hx.o rfl]));(first|(have:=cc1;exact⟨rfl,b.o.1,.base 115 i rfl⟩)|(have:=cc2;exact⟨rfl,b.o.1,.base 105 i rfl⟩)|(have:=cc3;exact⟨rfl,b.o.1,.base 116 i rfl⟩)|(have:=cc4;exact⟨rfl,b.o.1,.base 110 i rfl⟩)|(have:=cc5;exact⟨rfl,a.o.1.inc,.name x i hn.o⟩)|(exact⟨rfl,b.o.1,.base 108 i rfl⟩))):p:=h
def KY{s:BA}{i:Nat}(hs:s.size<=300)(hi:i<=s.size)(hx:bt s i=110):vJ s i:=by
 have cc4:=Nat
 exact cq11_
def Ko{s:BA}{i:Nat}(hs:s.size<=300)(hi:i<=s.size)(hx:bt s i=116):vJ s i:=by
 have cc3:=Nat
 exact cq11_
def KV{s:BA}{i:Nat}(hs:s.size<=300)(hi:i<=s.size)(hx:bt s i=105):vJ s i:=by
 have cc2:=Nat
 exact cq11_
def KX{s:BA}{i:Nat}(hs:s.size<=300)(hi:i<=s.size)(hx:bt s i=108):vJ s i:=by
 exact cq11_
def KZ{s:BA}{i:Nat}(hs:s.size<=300)(hi:i<=s.size)(hx:bt s i=115):vJ s i:=by
 have cc1:=Nat
 exact cq11_
def VL{s:BA}{i:Nat}(hs:s.size<=300)(hi:i<=s.size)(hn:zo (bt s i)=true):vJ s i:=by
 have cc5:=Nat
 exact cq11_
def am{s:BA}{i:Nat}(hs:s.size<=300)(hi:i<=s.size)(h1:¬zr (bt s i)=true)(l:¬(bt s i=91\/bt s i=123))(p:¬bt s i=40)(f:¬(65<=bt s i/\bt s i<=70)):vJ s i:=by
 intro w bp et ex h z C;obtain⟨F,A⟩:=y_ (vV w bp s i et ex);rw[<- A.o];have a:=zy (And.intro h (A_ w (λx=>x=bp)));have D:=zy (KU h1 l p f);obtain⟨x,hx⟩:=x_ (bt s i);rw[hx]at h1 l p f;have hn:H_ (zo x=false):=zy (by
  cases hc:zo x with
  |false=>rfl
  |true=>exact absurd z7_ f)
 simp only[zr,ax_,beq_iff_eq,not_or]at h1;have F:x≠110/\x≠116/\x≠105/\x≠108/\x≠115/\x≠91/\x≠123/\x≠40:=M_;replace hx:=zy hx;replace z:=zy z;replace h:=zy h;go_in;go_wp2_with (first
  |(go_at_call 97;apply(ym a.o.1).mono;rintro e w' ⟨rfl,b⟩;rw[b])
  |(go_at_call 96;apply(yb a.o.1 hs hi).mono;rintro e w' ⟨rfl,b⟩;rw[hx.o];replace a:=zy (And.intro (a.o.1.si b) (a.o.2.si b)))
  |(go_at_call 100;apply(yJ a.o.1 hs hi hx M_ D_).mono;rintro e w' ⟨rfl,l,f⟩;replace a:=zy (And.intro f (a.o.2.trans l u_)))
  |(go_at_call 95;apply(wD x _).mono;rintro e w' ⟨rfl,b⟩;rw[b,hn.o])
  |(go_at_call 75;apply(xS a.o.1 (z.o.fr a.o.2 (Ne.symm C))).mono;rintro e b ⟨v,rfl,y,g⟩;replace y:=zy y;replace g:=zy g))
 try go_ret
 rw[A.o];have E:=a.o.2.size;refine⟨.nilIface,v,.inl rfl,rfl,a.o.2.trans g v_,?_⟩;rw[D.o];exact⟨y.o.ls E,i,hi,g.o.bl a.o.1 id⟩
def sy(w:Aw)(bp:Nat)(s:BA)(i d:Nat)(et:Av)(ex:Ax)(e:Ak)(w':Aw):Prop:=
 ∃v ev,IfV v/\e=.returned (.tuple #[v,ev])/\Fr w w' (· = bp)/\
 match pT s i with
 | .ok (t,j)=>if bt s j=d then ev=.nilIface/\PAt w' bp s (j+1)/\TyV w' (λg=>w.heap.size<=g) t v else zA w' w.heap.size ev (j:Int) (.iface et ex)/\∃j,j<=s.size/\PAt w' bp s j
 | .error k=>zA w' w.heap.size ev (k:Int) (.iface et ex)/\∃j,j<=s.size/\PAt w' bp s j
def tF{w:Aw}{bp:Nat}{s:BA}{i:Nat}{c:Int}(d:Nat)(F:vJ s i)(h:PAt w bp s i)(a:pF w et ex)(z:bp≠0)(hs:s.size<=300)(hi:i<=s.size)(hd:c=(d:Int))(G:0<d):Calls prog 101 #[P_ bp,.int .u8 c] w (sy w bp s i d et ex):=by
 subst hd;obtain⟨J,f⟩:=y_ (sy w bp s i d et ex);rw[<- f.o];have A:=zy (F w bp et ex h a z);have y:=xr (s:=s) hi;cases hp:pT s i with
 |error k=>
  replace hp:=zy hp;replace a:=zy a;go_in;go_wp2_with (go_at_call 74;apply A.o.mono;rintro e w1 ⟨v,D,_,rfl,hf,hm⟩;rw[hp.o]at hm;obtain⟨⟨g,l,rfl,b⟩,x,p,h1⟩:=hm;replace hf:=zy hf;replace h1:=zy h1;replace b:=zy b);try go_ret
  rw[f.o];refine⟨.nilIface,_,.inl rfl,rfl,hf,?_⟩;rw[hp.o];exact⟨⟨g,l,rfl,b⟩,x,p,h1⟩
 |ok r=>
  obtain⟨t,j⟩:=r;have C:=y.1 t j hp;have F:=h.lt;replace hp:=zy hp;replace a:=zy a;go_in;go_wp2_with (first
   |(go_at_call 74;apply A.o.mono;rintro e w1 ⟨v,D,x,rfl,hf,hm⟩;rw[hp.o]at hm;obtain⟨rfl,h1,hv⟩:=hm;replace x:=zy x;replace hf:=zy hf;replace h1:=zy h1;replace hv:=zy hv)
   |(go_at_call 99;apply(yL d h1 (a.o.fr hf (Ne.symm z)) z hs C.2 rfl G).mono;rintro e a ⟨I,rfl,b,p⟩;replace b:=zy b;replace p:=zy p))
  try go_ret
  rw[f.o];have H:=hf.o.size;refine⟨v,I,x,rfl,hf.o.trans b u_,?_⟩;rw[hp.o];rcases p.o with⟨hb,rfl,l,_⟩|⟨hb,E,l⟩
  .show(if bt s j=d then _ else _);rw[i_ hb];exact⟨rfl,l,hv.o.fr b (λg hg e=>M_)⟩
  .show(if bt s j=d then _ else _);rw[n_ hb];exact⟨E.ls H,j,C.2,l⟩
def cq4_{p:Prop}(h:p:=by
 intro w bp et ex h A D;obtain⟨L,F⟩:=y_ (vV w bp s i et ex);rw[<- F.o];have a:=zy (And.intro h (A_ w (λx=>x=bp)));have I:i<s.size:=zm M_;have K:=zy (sO (s:=s) (i:=i) M_);have M:=h.lt;replace hx:=zy hx;replace A:=zy A;replace h:=zy h;replace hT:=zy hT;go_in;go_wp2_with (first
  |(go_at_call 97;apply(ym a.o.1).mono;rintro e w' ⟨rfl,z⟩;rw[z])
  |(go_at_call 96;apply(yb a.o.1 hs hi).mono;rintro e w' ⟨rfl,z⟩;rw[hx.o];replace a:=zy (And.intro (a.o.1.si z) (a.o.2.si z));clear z)
  |(go_at_call 100;apply(yV a.o.1 hs hi hx.o D_ D_).mono;rintro e w' ⟨rfl,y,l⟩;have f:=zy (And.intro l (a.o.2.trans y u_));clear y l)
  |(go_at_call 100;apply(yJ a.o.1 hs hi hx.o D_ D_).mono;rintro e w' ⟨rfl,y,l⟩;replace a:=zy (And.intro l (a.o.2.trans y u_));clear y l)
  |(go_at_call 101;(first|(have:=cc1;apply(tF 125 hT.o f.o.1 (A.o.fr f.o.2 (Ne.symm D)) D hs I rfl D_).mono)|(apply(tF 93 hT.o f.o.1 (A.o.fr f.o.2 (Ne.symm D)) D hs I rfl D_).mono));rintro e Q ⟨v,G,J,rfl,C,hm⟩;replace C:=zy C;replace hm:=zy hm;rcases J with rfl|⟨N,O,rfl⟩))
 all_goals
  try go_ret
  rw[F.o];have E:=f.o.2.size;(first|(have:=cc1;refine⟨.iface (qV 123) (.agg #[I_ i,_]),G,.inr ⟨_,_,rfl⟩,rfl,f.o.2.trans C.o u_,?_⟩)|(refine⟨.iface (qV 91) (.agg #[I_ i,_]),G,.inr ⟨_,_,rfl⟩,rfl,f.o.2.trans C.o u_,?_⟩));rw[K.o];have b:=hm.o;cases hp:pT s (i+1) with
  |error k=>
   rw[hp]at b;exact⟨b.1.ls E,b.2⟩
  |ok r=>
   obtain⟨t,j⟩:=r;rw[hp]at b;simp only at b⊢;rw[hx.o];(first|(have:=cc1;by_cases hb:bt s j=125)|(by_cases hb:bt s j=93))
   .rw[i_ hb]at b;(first|(have:=cc1;rw[show xj 123=125 from rfl,i_ hb])|(rw[show xj 91=93 from rfl,i_ hb]));obtain⟨rfl,H,hv⟩:=b;(first|(have:=cc1;exact⟨rfl,H,.wrap 123 i (hv.mono (λg _ hg=>aj_ E hg))⟩)|(exact⟨rfl,H,.wrap 91 i (hv.mono (λg _ hg=>aj_ E hg))⟩))
   .rw[n_ hb]at b;(first|(have:=cc1;rw[show xj 123=125 from rfl,n_ hb])|(rw[show xj 91=93 from rfl,n_ hb]));exact⟨b.1.ls E,b.2⟩):p:=h
def Fk{s:BA}{i:Nat}(hs:s.size<=300)(hi:i<=s.size)(hx:bt s i=91)(hT:vJ s (i+1)):vJ s i:=by
 exact cq4_
def Ka{s:BA}{i:Nat}(hs:s.size<=300)(hi:i<=s.size)(hx:bt s i=123)(hT:vJ s (i+1)):vJ s i:=by
 have cc1:=Nat
 exact cq4_
end Go.Proofs.YtamhgejdkclmdaaGreatDoor
