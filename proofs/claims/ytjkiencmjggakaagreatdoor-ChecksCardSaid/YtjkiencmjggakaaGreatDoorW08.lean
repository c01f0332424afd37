import Derived.Test.YtjkiencmjggakaaGreatDoorW07
import Derived.Laws.BitsLemmas
import Derived.Laws.BytesArg
import Derived.Lib.ItoaLen
set_option maxHeartbeats 16000000
set_option maxRecDepth 100000
set_option linter.defProp false
set_option linter.unusedSimpArgs false
open Go.Proofs.Tryz
namespace Go.Proofs.YtjkiencmjggakaaGreatDoor
open Go.RowKit
variable {v ex:Value}{q u:Nat}{et:TypeId}{S:Nat->Prop}{t:PT}
def rX:∀(l:List (List Value)),(∀x∈l,x.length=10)->∀(q p:Nat) (x:List Value),l[q]?=some x->p<10->l.flatten[10*q+p]?=x[p]?
 | [],_,q,p,x,h,_=>by simp at h
 |y::r,hl,q,p,x,h,hp=>by
  have hy:=hl y (by simp);rw[List.flatten_cons];cases q with
  |zero=>
   simp only[aa_,ah_]at h;subst h;rw[Nat.mul_zero,bn_,ar_ M_]
  |succ q=>
   rw[ab_]at h;rw[as_ M_,show 10*(q+1)+p-y.length=10*q+p by omega];exact rX r (λz hz=>hl z (by simp[hz])) q p x h hp
def sX{s:BA}{b:Nat}{fs:List PF}{num:Nat}{f:PF}(hf:fs[q]?=some f)(hn:(jw b (fs.map PF.ty))[q]?=some num)(p:Nat)(hp:p<10):(yo s b fs)[10*q+p]?=(tE s f num)[p]?:=by
 unfold yo;refine rX _ (λx hx=>?_) q p _ ?_ hp
 .obtain⟨i,hi⟩:=a5_ hx;rw[List.getElem?_zipWith]at hi;split at hi
  .simp only[ah_]at hi;subst hi;rfl
  .cases hi
 .rw[List.getElem?_zipWith,hf,hn]
def Qv{s:BA}{ts:List TR}{b:Nat}{fs:List PF}(h:jR ts (jw b (fs.map PF.ty)) (fs.map PF.ty)):Vd s ts fs (yo s b fs):=by
 intro q f hf;obtain⟨num,hn,e⟩:=ZH h q f.ty (by rw[aq_,hf];rfl);have a:=λp hp=>sX (s:=s) hf hn p hp;refine⟨⟨num,e,a 1 M_⟩,a 0 M_,a 2 M_,?_,?_,λp g e=>?_⟩
 .rw[a 3 M_];rfl
 .rw[a 4 M_];rfl
 .rw[a p e]
  match p,g,e with
  | 5,_,_=>exact⟨_,rfl,_,rfl⟩
  | 6,_,_=>exact⟨_,rfl,_,rfl⟩
  | 7,_,_=>exact⟨_,rfl,_,rfl⟩
  | 8,_,_=>exact⟨_,rfl,_,_,_,rfl⟩
  | 9,_,_=>exact⟨_,rfl,_,_,_,rfl⟩
def VZ{w W:World}{X Xk:Nat->Prop}{br bz B:Nat}{s:BA}{tv0 u0 tv u:Value}{ds:List PD}{j:Nat}{bad:Bool}{wg MX:Int}{y:List TR}{US:List (Nat×Nat)}{zs:List Value}{rt:Value}(M:WM w X br bz B s tv0 u0 ds j bad wg MX (yS 0 ds++y) US Xk zs tv u W)(A:zs[30]?=some rt):SZ W (λg=>g<W.heap.size/\¬Xk g) (λg=>Xk g/\B<=g) bz s (yS 0 ds++y) (zx ds) rt:=by
 obtain⟨xs,hx,hk⟩:=M.R.tys;refine⟨λg hg h=>h.2 hg.1,⟨M.R.z.lt,λh=>(M.R.av _ h).2.2.1 rfl⟩,tv,zs,M.R.z,A,⟨xs,zS hx,λg e=>⟨(hx.lt g e).2,λh=>(M.R.av g h).2.2.2.1 e⟩,λk t y=>?_⟩,λk E=>?_⟩
 .obtain⟨sv,a,b,c,d⟩:=hk k t y;exact⟨sv,a,b,zS c.1,λg e=>⟨(c.1.lt g e).2,λh=>d g h e⟩⟩
 .obtain⟨so,fv,sb,o,n,y,ys,h1,C,y,A⟩:=M.D.2 k E;have E:∀g,fv.ownBlock=some g->Xk g/\B<=g:=λg e=>⟨y g e,(C.lt g e).1⟩;cases hl:xR 0 (65+k) ds with
  |none=>
   rw[hl]at A;obtain⟨F,rfl⟩:=A;have he:zx ds (65+k)=none:=by unfold zx;rw[hl];rfl
   have hf:yM (zx ds) k=[]:=by unfold yM;rw[he]
   refine⟨so,fv,sb,o,n,ys,h1,by rw[hf];exact zS C,E,by rw[hf];intro q f y;simp at y,by rw[he];exact F⟩
  |some q=>
   obtain⟨pb,b⟩:=q;rw[hl]at A;have he:zx ds (65+k)=some pb:=by unfold zx;rw[hl];rfl
   obtain⟨F,e',F⟩:=Wx hl;cases pb with
   |recd fs=>
    obtain⟨d1,rfl,rfl,_⟩:=A;have hf:yM (zx ds) k=fs:=by unfold yM;rw[he]
    refine⟨so,fv,sb,o,n,_,h1,by rw[hf];exact zS C,E,?_,by rw[he];exact d1⟩;rw[hf];refine Qv (kJ _ _ _ (λq x y=>?_));have:=F q x y;rw[e',bn_,ar_ (ae_.1 this).1];exact this
   |enum l un=>
    obtain⟨d1,rfl,F,d3,_⟩:=A;have hf:yM (zx ds) k=[]:=by unfold yM;rw[he]
    exact⟨so,fv,sb,o,n,ys,h1,by rw[hf];exact zS C,E,by rw[hf];intro q f y;simp at y,by rw[he];exact⟨d1,F,d3⟩⟩
   |bytes m=>
    obtain⟨d1,rfl,_,F⟩:=A;have hf:yM (zx ds) k=[]:=by unfold yM;rw[he]
    exact⟨so,fv,sb,o,n,ys,h1,by rw[hf];exact zS C,E,by rw[hf];intro q f y;simp at y,by rw[he];exact⟨d1,F⟩⟩
def VA(ts:List TR)(t:PT):isT (ts++flat ts.length t) (ts.length+(flat ts.length t).length-1) t:=
 fH _ t _ (λq x a=>by rw[as_ M_,b8_];exact a)
def xe.sortAt{W:World}{X:Nat->Prop}{B:Nat}{s:BA}{zs:List Value}{ds:List PD}(h:xe W X B s zs ds){k:Nat}(hk:k<6):∃so:Int,zs[5*k]?=some (.int .u8 so)/\(so==0)=(zx ds (65+k)).isNone:=by
 obtain⟨so,fv,sb,o,n,a,ys,h1,a,a,a⟩:=h.2 k hk;refine⟨so,h1 0 M_,?_⟩;unfold zx;cases hl:xR 0 (65+k) ds with
 |none=>rw[hl]at a;rw[a.1];rfl
 |some q=>
  obtain⟨pb,b⟩:=q;rw[hl]at a;have:=a.sort;simp only[bz_,Option.isNone_some,beq_eq_false_iff_ne];exact this
mutual
def po:∀(t:PT),shT t->∀u∈zZ t,zp u.1=true
 | .leaf c p,h,u,hu=>by
  simp only[zZ]at hu;cases hb:zu c with
  |true=>rw[hb]at hu;simp at hu
  |false=>
   rw[hb]at hu;simp only[bs_,if_false,a1_]at hu;subst hu;simp only[shT,hb]at h;exact h.resolve_left D_
 | .wrap c p t,h,u,hu=>po t h.2 u hu
 | .alts p l,h,u,hu=>qA l h.2 u hu
def qA:∀(l:List PT),cC l->∀u∈zY l,zp u.1=true
 | [],_,u,hu=>by simp[zY]at hu
 |t::r,h,u,hu=>by
  simp only[zY]at hu;rcases a2_.1 hu with hu|hu
  .exact po t h.1 u hu
  .exact qA r h.2 u hu
end
def dK:∀(l:List PT),(∀t∈l,shT t)->cC l
 | [],_=>trivial
 |t::r,h=>⟨h t (by simp),dK r (λu hu=>h u (by simp[hu]))⟩
def rN{N:Nat}:∀(ds:List PD),(∀d∈ds,shB N d.body)->∀u∈vS ds,zp u.1=true
 | [],_,u,hu=>by simp[vS]at hu
 |d::r,h,u,hu=>by
  simp only[vS]at hu;rcases a2_.1 hu with hu|hu
  .have hb:=h d (by simp);cases hd:d.body with
   |recd fs=>
    rw[hd]at hb hu;refine qA _ (dK _ (λt a=>?_)) u hu;obtain⟨f,hf,rfl⟩:=ay_.1 a;exact hb.1 f hf
   |enum l o=>rw[hd]at hu;simp[PB.us]at hu
   |bytes n=>rw[hd]at hu;simp[PB.us]at hu
  .exact rN r (λd hd=>h d (by simp[hd])) u hu
def bi{us:List (Nat×Nat)}{p:Nat×Nat}(h:us[q]?=some p):(vI us)[2*q]?=some (U_ p.1)/\(vI us)[2*q+1]?=some (I_ p.2):=by
 induction us generalizing q with
 |nil=>simp at h
 |cons x r ih=>
  cases q with
  |zero=>simp only[aa_,ah_]at h;subst h;exact⟨rfl,rfl⟩
  |succ q=>
   rw[ab_]at h;obtain⟨a,b⟩:=ih h;refine⟨?_,?_⟩
   .rw[show 2*(q+1)=2*q+1+1 by omega];exact a
   .rw[show 2*(q+1)+1=2*q+1+1+1 by omega];exact b
def Vn{env:Nat->Option PB}{us:List (Nat×Nat)}{u:Nat×Nat}(h:us[q]?=some u)(m:Int):wrU env (us.take (q+1)) m=if (env u.1).isNone=true then zX (u.2:Int) (wrU env (us.take q) m) else wrU env (us.take q) m:=by
 rw[bf_,h];unfold wrU;rw[List.foldl_append];rfl
def zg(s:BA):Int×Int:=
 if 300<s.size then (1,0)
 else match ze s with
  | .error k=>(2,(k:Int))
  | .ok (ds,t)=>
   if 0<=wrU (zx ds) (vS ds++zZ t) (jK [] ds (-1)) then (3,wrU (zx ds) (vS ds++zZ t) (jK [] ds (-1)))
   else if 0<=mix t (jP ds (-1)) then (4,mix t (jP ds (-1)))
   else if 0<=yL s (zx ds) 6 then (5,yL s (zx ds) 6)
   else (0,0)
def eB(W:World)(lo:Nat)(s:BA)(zv:Value):Prop:=
 ∃(bz:Nat) (ds:List PD) (t:PT) (ts:List TR) (root:Nat) (P1 P2:Nat->Prop),zv=P_ bz/\ze s=.ok (ds,t)/\SZ W P1 P2 bz s ts (zx ds) (I_ root)/\isT ts root t/\qU (zx ds)/\okT (zx ds) t/\
  (∀g,P1 g\/P2 g->g<W.heap.size)/\(∀g,P2 g->lo<=g)/\ts=yS 0 ds++flat (yS 0 ds).length t/\ts.length<=300
def xV(w:World)(s:BA)(e:Ending)(w':World):Prop:=
 ∃zv,e=.returned (.tuple #[zv,z_ (zg s).1,z_ (zg s).2])/\Fr w w' N_/\if (zg s).1=0 then eB w' w.heap.size s zv else zv=.pointer none
def nL:List Value:=zR++zR++zR++zR++zR++zR++[O_]
def pw(w:World)(s:BA):World:=
 (w.alloc (.cells (Value.slice none 0 0::nL).toArray 47)).alloc (.cells #[.string s,O_,.bool false,P_ w.heap.size,L_,z_ (-1),z_ (-1)] 68)
def GT(w:World)(s:BA)(hs:s.size<=300):Rep (pw w s) N_ (w.heap.size+1) w.heap.size (w.heap.size+2) s 0 false (-1) (-1) [] [] nL (L_) (L_):=by
 refine⟨?_,(B_ w _ _).alloc _,⟨[],World.ownsRow_nil _ _ _ _,λk t a=>by simp at a⟩,World.ownsRow_nil _ _ _ _,λg hg=>by simp[Value.ownBlock]at hg,M_,M_,by simp[pw],M_,al_ _,hs,al_ _,al_ _,λg hg=>hg.elim⟩;have:=B_ (w.alloc (.cells (Value.slice none 0 0::nL).toArray 47)) #[.string s,O_,.bool false,P_ w.heap.size,L_,z_ (-1),z_ (-1)] 68;have e:(w.alloc (.cells (Value.slice none 0 0::nL).toArray 47)).heap.size=w.heap.size+1:=by simp
 rw[e]at this;exact this
def Ko(w:World)(s:BA):xe (pw w s) N_ (w.heap.size+2) s nL []:=by
 refine⟨rfl,λk hk=>⟨0,L_,⟨#[]⟩,0,0,0,[],λp hp=>?_,World.ownsRow_nil _ _ _ _,λg hg=>by simp[Value.ownBlock]at hg,?_⟩⟩
 .match k,hk with
  | 0,_=>match p,hp with|0,_=>rfl|1,_=>rfl|2,_=>rfl|3,_=>rfl|4,_=>rfl
  | 1,_=>match p,hp with|0,_=>rfl|1,_=>rfl|2,_=>rfl|3,_=>rfl|4,_=>rfl
  | 2,_=>match p,hp with|0,_=>rfl|1,_=>rfl|2,_=>rfl|3,_=>rfl|4,_=>rfl
  | 3,_=>match p,hp with|0,_=>rfl|1,_=>rfl|2,_=>rfl|3,_=>rfl|4,_=>rfl
  | 4,_=>match p,hp with|0,_=>rfl|1,_=>rfl|2,_=>rfl|3,_=>rfl|4,_=>rfl
  | 5,_=>match p,hp with|0,_=>rfl|1,_=>rfl|2,_=>rfl|3,_=>rfl|4,_=>rfl
 .exact⟨rfl,rfl⟩
def WA{w w1:World}{s:BA}{tv u:Value}(st:zC (pw w s) w1 (w.heap.size+1) w.heap.size (L_) (L_) tv u):Fr w w1 N_:=
 (show Fr w (pw w s) N_ from((A_ w _).alloc _).alloc _).trans st.fr (λx hx e=>by
  rcases e with e|e|e|e
  .omega
  .omega
  .simp[Value.ownBlock]at e
  .simp[Value.ownBlock]at e)
def qB{w w1 W:World}{s:BA}{a b:Int}(h:zg s=(a,b))(ha:a≠0)(hf:Fr w w1 N_)(e:zq w1 W):xV w s (.returned (.tuple #[.pointer none,z_ a,z_ b])) W:=by
 refine⟨.pointer none,by rw[h],hf.si e,?_⟩;rw[h];rw[n_ ha]
def sM{w:World}{s:BA}:Calls prog 10 #[.string s] w (xV w s):=by
 refine hq_ λb8 E=>?_;by_cases hl:300<s.size
 .have b5:(300:Int)<(s.size:Int):=M_;go_in;go_wp2;refine bodyPost_ret (v:=.tuple #[.pointer none,z_ 1,O_]) (by simp[results,results10,go_sem]) rfl ?_;rw[E.o];exact qB (by unfold zg;rw[i_ hl]) D_ (A_ _ _) (zq.refl _)
 .have b5:¬(300:Int)<(s.size:Int):=M_;have hs:s.size<=300:=M_;have R0:=zy (GT w s hs);have D0:=zy (Ko w s);cases hp:ze s with
  |error k=>
   have b:=zy (show zg s=(2,(k:Int)) by unfold zg;rw[n_ hl,hp]);replace hp:=zy hp;go_in;go_wp2_with (go_at_call 19;apply(lF R0 D0).mono;rintro e w1 ⟨rfl,C⟩;unfold vD at C;rw[hp.o]at C;obtain⟨Xk,zs,tv,u,wg,MX,TS,US,a,y,_⟩:=C;have a3:=a.here.c2;have F:=a.here.c1;replace a:=zy a;replace y:=zy y);go_quiet (fail);go_wp2;refine bodyPost_ret (v:=.tuple #[.pointer none,z_ 2,I_ k]) (by simp[results,results10,go_sem]) rfl ?_;rw[E.o];exact qB b D_ (WA y) (by first|exact zq.refl _|exact zq.drewN _ _|exact zq.drew _)
  |ok r=>
   obtain⟨ds,t⟩:=r;obtain⟨us,H⟩:=e_ (vS ds++zZ t);have L:=vZ hp;have V:∀x∈us,zp x.1=true:=λx hx=>by
    rw[H]at hx;rcases a2_.1 hx with hx|hx
    .exact rN ds L.1 x hx
    .exact po t L.2 x hx
   replace hp:=zy hp;replace H:=zy H;replace V:=zy V;go_in;go_wp2_with (go_at_call 19;apply(lF R0 D0).mono;rintro e w1 ⟨rfl,C⟩;unfold vD at C;rw[hp.o]at C;obtain⟨Xk,zs,tv,u,A,U⟩:=C;rw[<- H.o]at A;have a3:=A.R.here.c2;replace A:=zy A;replace U:=zy U);obtain⟨ua,uc,rfl⟩:=zl A.o.R.uses;obtain⟨T,O⟩:=e_ (jK [] ds (-1));replace O:=zy O;have e0:us.length<=300:=by have:=A.o.R.ul;omega
   have start:∃q:Nat,q<=us.length/\us.length+1-q<=us.length+1/\Value.int .i64 0=I_ q/\WM (pw w s) (λx=>False) (w.heap.size+1) w.heap.size (w.heap.size+2) s (L_) (L_) ds s.size false (wrU (zx ds) (us.take q) T) (mix t (jP ds (-1))) (yS 0 ds++flat (yS 0 ds).length t) us Xk zs tv (.slice ua us.length uc) w1:=⟨0,M_,M_,rfl,by rw[O.o];exact A⟩;replace start:=zy start;go_loopg [6] (us.length+1) (λmm v6 W=>∃q:Nat,q<=us.length/\us.length+1-q<=mm/\v6=I_ q/\WM (pw w s) (λx=>False) (w.heap.size+1) w.heap.size (w.heap.size+2) s (L_) (L_) ds s.size false (wrU (zx ds) (us.take q) T) (mix t (jP ds (-1))) (yS 0 ds++flat (yS 0 ds).length t) us Xk zs tv (.slice ua us.length uc) W);case atStart=>exact start
   case round=>
    obtain⟨q,hq,d8,rfl,M⟩:=hrel;obtain⟨m,hm⟩:=x_ (wrU (zx ds) (us.take q) T);rw[hm]at M;replace hm:=zy hm;have c4:=M.R.here.c4;have c3:=M.R.here.c3;have c5:=M.R.here.c5;have c6:=M.R.here.c6;by_cases b6:q<us.length
    .have b7:(q:Int)<(us.length:Int):=M_;obtain⟨x,hx⟩:∃x,us[q]?=some x:=⟨_,af_ b6⟩;have Y:=V.o x (aj_ hx);have a1:=zy (Vn (env:=zx ds) hx T);obtain⟨gu,cu,a6⟩:=zm M.R.uses M_;simp only[Value.slice.injEq,true_and]at a6;obtain⟨rfl,rfl⟩:=a6;have Q:=zr M.R.uses rfl (bi hx).1;have F:=zr M.R.uses rfl (bi hx).2;rw[bc_]at Q F;obtain⟨c,b4⟩:=x;simp only at Q F Y a1;have d6:65<=c/\c<=70:=by simpa[zp] using Y
     obtain⟨y,I⟩:∃k,c=65+k:=⟨c-65,M_⟩;obtain⟨so,a8,a0⟩:=M.D.sortAt (k:=y) M_;have z0:wr.cell? ⟨w.heap.size,1+y*5,none⟩=some (.int .u8 so):=by
      rw[M.R.z.cell,show 1+y*5=5*y+1 by omega,ab_];exact a8
     rw[<- I]at a0;have e1:=pi y c I M_;have d7:(y:Int)<6:=M_;have d2:(c:Int)-65=(y:Int):=M_;replace M:=zy M;replace I:=zy I;cases hb:(zx ds c).isNone with
     |true=>
      rw[hb]at a0;replace hb:=zy hb;go_wp2;go_quiet (fail);have a:=zy (M.o.si (zq.drewN wr nq));have b9:=a.o.R.here.c4;have e2:(wr.drewN nq).cell? ⟨gu,q*2+1,none⟩=some (I_ b4):=F;generalize wr.drewN nq=W2 at *;go_wp2_with (go_at_call 20;apply(jS a.o.R).mono;rintro e w3 ⟨rfl,G,J⟩;have K:=zy (a.o.call G J));go_roundg (us.length+1-(q+1));case measure=>omega
      case rel=>exact⟨q+1,M_,l_,by simp,by rw[a1.o,hm.o,i_ hb.o];exact K⟩
     |false=>
      rw[hb]at a0;replace hb:=zy hb;go_wp2;go_quiet (fail);have a:=zy (M.o.si (zq.drewN wr nq));generalize wr.drewN nq=W2 at *;go_wp2;go_roundg (us.length+1-(q+1));case measure=>omega
      case rel=>exact⟨q+1,M_,l_,by simp,by rw[a1.o,hm.o,n_ (by rw[hb.o];decide)];exact a⟩
    .have b7:¬(q:Int)<(us.length:Int):=M_;have K:wrU (zx ds) (vS ds++zZ t) (jK [] ds (-1))=m:=by rw[<- H.o,<- O.o,<- hm.o,bv_ M_]
     obtain⟨mx,G⟩:=e_ (mix t (jP ds (-1)));simp only[<- G]at c6;have b:zg s=if 0<=m then (3,m) else if 0<=mx then (4,mx) else if 0<=yL s (zx ds) 6 then (5,yL s (zx ds) 6) else (0,0):=by
      unfold zg;rw[n_ hl,hp.o];simp only;rw[K,<- G]
     have J:=zy (WA M.st);replace K:=zy K;replace G:=zy G;by_cases a7:0<=m
     .rw[i_ a7]at b;replace b:=zy b;replace M:=zy M;go_wp2;go_quiet (fail);go_wp2;refine bodyPost_ret (v:=.tuple #[.pointer none,z_ 3,z_ m]) (by simp[results,results10,go_sem]) rfl ?_;rw[E.o];exact qB b D_ J (by first|exact zq.refl _|exact zq.drewN _ _|exact zq.drew _)
     .rw[n_ a7]at b;by_cases a9:0<=mx
      .rw[i_ a9]at b;replace b:=zy b;replace M:=zy M;go_wp2;go_quiet (fail);go_wp2;refine bodyPost_ret (v:=.tuple #[.pointer none,z_ 4,z_ mx]) (by simp[results,results10,go_sem]) rfl ?_;rw[E.o];exact qB b D_ J (by first|exact zq.refl _|exact zq.drewN _ _|exact zq.drew _)
      .rw[n_ a9]at b;have y:=pX (m0:=jK [] ds (-1)) (m1:=-1) hs hp (by rw[K.o];omega) (by rw[<- G.o];omega);have Z:=VZ M U;have a2:=zy (show jq wr _ _ w.heap.size s _ (zx ds) _ wr from⟨Z,A_ _ _,λg hg=>hg.1,λg hg=>(M.R.av g hg.1).1⟩);have a4:¬(Xk (w.heap.size+1)/\w.heap.size+2<=w.heap.size+1):=λh=>by omega
       obtain⟨dv,F⟩:=e_ (yL s (zx ds) 6);rw[<- F]at b;replace b:=zy b;replace F:=zy F;have Y:=zy M.R.here;replace M:=zy M;replace y:=zy y;by_cases a5:0<=dv
       .have I:=zy (show zg s=(5,dv) by rw[b.o,i_ a5]);go_wp2_with (go_at_call 21;apply(bN a2 hs y.o.1 (λk _=>y.o.2.2.1 k) (λk f _ hf=>y.o.2.2.2 k f hf)).mono;rintro e w2 ⟨rfl,a⟩;rw[<- F.o];have Q:=(a.fr.bl Y a4).cell 3;simp only[RV.cells,aa_,ab_]at Q;replace a:=zy a);refine bodyPost_ret (v:=.tuple #[.pointer none,z_ 5,z_ dv]) (by simp[results,results10,go_sem]) rfl ?_;rw[E.o];exact qB I D_ (J.o.trans a.o.fr (λx hx e=>by have:=e.2;omega)) (zq.refl _)
       .have I:=zy (show zg s=(0,0) by rw[b.o,n_ a5]);go_wp2_with (go_at_call 21;apply(bN a2 hs y.o.1 (λk _=>y.o.2.2.1 k) (λk f _ hf=>y.o.2.2.2 k f hf)).mono;rintro e w2 ⟨rfl,a⟩;rw[<- F.o];have Q:=(a.fr.bl Y a4).cell 3;simp only[RV.cells,aa_,ab_]at Q;replace a:=zy a);refine bodyPost_ret (v:=.tuple #[P_ w.heap.size,O_,O_]) (by simp[results,results10,go_sem]) rfl ?_;rw[E.o];refine⟨_,by rw[I.o],J.o.trans a.o.fr (λx hx e=>by have:=e.2;omega),?_⟩;rw[I.o,i_ rfl];have d9:=a.o.fr.size;exact⟨w.heap.size,ds,t,_,_,_,_,rfl,hp,a.o.Z,VA _ _,y.o.1,y.o.2.1,λg hg=>by rcases hg with hg|hg;have:=a.o.l1 g hg;omega;have:=a.o.l2 g hg;omega,λg hg=>by have:=hg.2;omega,rfl,ak_ M.o.R.tl hs⟩
structure BM(w:World)(P:Nat->Prop)(bl:Nat)(s:BA)(bz:Nat)(ts:List TR)(env:Nat->Option PB)(sv:Value)(j:Nat)(bad:Bool)(N:Nat)(W:World):Prop where
 M:DM w P bl s bz false j bad ts env W
 b0:Blk W w.heap.size [.int .u8 40,sv] 75
 b1:Blk W (w.heap.size+1) zo 111
 b2:Blk W (w.heap.size+1+1) (zt 40 (N:Int) noB (L_) (L_)) 111
section
variable {w W W':World} {P:Nat->Prop} {bl:Nat} {s:BA} {bz:Nat} {ts:List TR} {env:Nat->Option PB} {sv:Value} {j j' d:Nat} {bad bad':Bool} {N:Nat}
def BM.call(B:BM w P bl s bz ts env sv j bad N W)(a:LAt W' bl s bz false j' bad')(hf:Fr W W' (· = bl))(b:j'<=s.size):BM w P bl s bz ts env sv j' bad' N W':=by
 have:=B.M.lt;exact⟨B.M.call a hf b,hf.bl B.b0 M_,hf.bl B.b1 M_,hf.bl B.b2 M_⟩
def BM.si(B:BM w P bl s bz ts env sv j bad N W)(h:zq W W'):BM w P bl s bz ts env sv j bad N W':=B.call (B.M.L.si h) ((A_ W _).si h) B.M.jl
def BM.inc(B:BM w P bl s bz ts env sv j bad N W)(h:j<s.size):BM w P bl s bz ts env sv (j+1) bad N (W.setCell ⟨bl,1,none⟩ (z_ ((j:Int)+1))):=B.call B.M.L.inc (Y_ _ _ _) h
def BM.sp(B:BM w P bl s bz ts env sv j bad N W):BM w P bl s bz ts env sv j true N (W.setCell ⟨bl,2,none⟩ (.bool true)):=B.call B.M.L.sp (Y_ _ _ _) B.M.jl
def BM.yes(B:BM w P bl s bz ts env sv j bad N W)(b:qc W bl s bz false j bad d W')(h:lk s j bad=d):BM w P bl s bz ts env sv (j+1) bad N W':=by
 obtain⟨h1,a⟩:=b;rw[i_ h]at h1;exact B.call h1.1 a h1.2
def BM.no(B:BM w P bl s bz ts env sv j bad N W)(b:qc W bl s bz false j bad d W')(h:lk s j bad≠d):BM w P bl s bz ts env sv j true N W':=by
 obtain⟨h1,a⟩:=b;rw[n_ h]at h1;exact B.call h1 a B.M.jl
def BM.num(B:BM w P bl s bz ts env sv j bad N W)(K:Nat):BM w P bl s bz ts env sv j bad K (W.setCell ⟨w.heap.size+1+1,1,none⟩ (I_ K)):=
 ⟨B.M.put ⟨w.heap.size+1+1,1,none⟩ _ (by show w.heap.size<=w.heap.size+1+1;omega),B.b0.other (a:=⟨w.heap.size+1+1,1,none⟩) _ (by show ¬(w.heap.size=w.heap.size+1+1);omega),B.b1.other (a:=⟨w.heap.size+1+1,1,none⟩) _ (by show ¬(w.heap.size+1=w.heap.size+1+1);omega),T_ B.b2 1 _⟩
def BM.start(M:DM w P bl s bz false j bad ts env w)(sv:Value):BM w P bl s bz ts env sv j bad 0 (bw w sv):=⟨PS M sv,PA w sv,PE w sv,PI w sv⟩
def BM.n(B:BM w P bl s bz ts env sv j bad N W):W.cell? ⟨w.heap.size+1+1,1,none⟩=some (I_ N):=by rw[B.b2.cell];rfl
def BM.subs(B:BM w P bl s bz ts env sv j bad N W):W.cell? ⟨w.heap.size,1,none⟩=some sv:=by rw[B.b0.cell];rfl
end
def iJ:Nat->Nat->List Nat
 | 0,z=>[z]
 |f+1,z=>if z<128 then [z] else (z % 128+128)::iJ f (z / 128)
def leb(z:Nat):List Nat:=iJ 10 z
def bts(l:List Nat):BA:=⟨(l.map UInt8.ofNat).toArray⟩
def cg(a b:List Nat):bts (a++b)=bts a++bts b:=by
 unfold bts;apply ByteArray.ext;simp
def vY(l:List Nat):(bts l).size=l.length:=by unfold bts;show(l.map UInt8.ofNat).toArray.size=_;simp
def PQ(n:Int):Nat:=if n<0 then 2*(-(n+1)).toNat+1 else 2*n.toNat
def Bc(n:Int):BA:=bts (leb (PQ n))
mutual
def ndT:DT->Nat
 | .mk _ _ _ _ ds=>1+yc ds
def yc:List DT->Nat
 | []=>0
 |d::r=>ndT d+yc r
end
def mZ:∀a b:List DT,yc (a++b)=yc a+yc b
 | [],b=>by simp[yc]
 |d::r,b=>by simp only[bi_,yc,mZ r b];omega
def mo:∀ds:List DT,ds.length<=yc ds
 | []=>l_
 |d::r=>by
  have:=mo r;have h1:1<=ndT d:=by obtain⟨_,_,_,_,_⟩:=d;unfold ndT;omega
  simp only[a6_,yc];omega
def lE{ds:List DT}{d:DT}(h:ds[q]?=some d):yc (ds.take (q+1))=yc (ds.take q)+ndT d/\yc (ds.take q)+ndT d<=yc ds:=by
 have e:ds.take (q+1)=ds.take q++[d]:=by rw[bf_,h];rfl
 have a:yc (ds.take (q+1))=yc (ds.take q)+ndT d:=by rw[e,mZ];simp[yc]
 refine⟨a,?_⟩;rw[<- a];conv=>rhs;rw[<- List.take_append_drop (q+1) ds,mZ]
 omega
def bD{m:Nat}:∀(n:Nat) (X:Nat->List Value),(∀i,i<n->(X i).length=m)->∀q j,q<n->j<m->((List.range n).flatMap X)[q*m+j]?=(X q)[j]?:=by
 intro n;induction n with
 |zero=>intro X _ q j a;omega
 |succ n ih=>
  intro X hX q j a b;have hl:((List.range n).flatMap X).length=n*m:=by
   clear ih a;induction n with
   |zero=>simp
   |succ n ih2=>
    rw[bp_,be_,ai_,ih2 (λi hi=>hX i M_)];simp only[bm_,List.flatMap_nil,b3_];rw[hX n M_,Nat.succ_mul]
  rw[bp_,be_];simp only[bm_,List.flatMap_nil,b3_];by_cases f:q<n
  .have:q*m+j<n*m:=by
    have:=b6_ m (show q+1<=n by omega);rw[Nat.add_mul,Nat.one_mul]at this;omega
   rw[ar_ M_];exact ih X (λi hi=>hX i M_) q j f b
  .have e:q=n:=M_;subst e;rw[as_ M_,hl,b8_]
def lg(k:Nat):Prop:=k=110\/k=116\/k=105\/k=108\/k=115\/k=91\/k=123\/k=40\/k=114\/k=101\/k=102
mutual
def okD:DT->Prop
 | .mk k n tx ks ds=>(-9223372036854775808<=n/\n<=9223372036854775807/\lg k)/\(k=116->0<=n/\n<=1)/\tx.size<=4000/\(∀x∈ks,x.size<=4000)/\(k=123->ks.length=ds.length)/\uu ds
def uu:List DT->Prop
 | []=>True
 |d::r=>okD d/\uu r
end
def fI(n:Int):BA:=⟨(Lib.itoa n).toArray⟩
def XT{n:Int}(h0 : -9223372036854775808<=n)(h1:n<=9223372036854775807):(fI n).size<=21:=by
 unfold fI;show(Lib.itoa n).toArray.size<=21;rw[List.size_toArray];exact Lib.itoa_length_le n h0 h1
def xQ(env:Nat->Option PB)(t:PT)(n i:Nat):PT:=
 match t with
 | .wrap _ _ u=>u
 | .alts _ ts=>ts.getD n (.leaf 0 0)
 | .leaf c _=>match env c with|some (.recd fs)=>(fs.map PF.ty).getD i (.leaf 0 0)|_=>.leaf 0 0
def sk(env:Nat->Option PB)(t:PT)(n:Nat):Nat:=
 match t with
 | .leaf c _=>match env c with|some (.enum l _)=>(l.map Prod.fst).getD n 0|_=>0
 | _=>0
section
variable {w w':World} {bd:Nat} {s:BA} {bz i:Nat} {er:Int} {n:Nat}
end
section
variable {w:World} {bd:Nat} {s:BA} {bz i:Nat} {er:Int} {n:Nat}
end
section
variable {w W W':World} {P:Nat->Prop} {bd:Nat} {s:BA} {bz i n i' n':Nat} {er er':Int} {ts:List TR} {env:Nat->Option PB}
end
section
variable {w W W':World} {P:Nat->Prop} {bd:Nat} {s:BA} {bz j m:Nat} {er:Int} {ts:List TR} {env:Nat->Option PB} {k:Nat} {n:Int} {tx:BA} {vk vs:Value} {d:DT} {r:Except Nat (DT×Nat×Nat)}
end
section
variable {w:World} {P:Nat->Prop} {bd:Nat} {s:BA} {bz i n:Nat} {er:Int} {ts:List TR} {env:Nat->Option PB}
end
section
variable {w W W':World} {P:Nat->Prop} {bd:Nat} {s:BA} {bz j j' nn nn':Nat} {er er':Int} {cx:List Value} {ct:TypeId} {ts:List TR} {env:Nat->Option PB} {b0 b1 B c:Nat} {vk vs:Value} {ks:List BA} {n:Nat} {xs:List Value} {ds:List DT}
end
section
variable {w W W':World} {P:Nat->Prop} {bd:Nat} {s:BA} {bz j m b0:Nat} {er:Int} {ts:List TR} {env:Nat->Option PB} {k:Nat} {n:Int} {tx:BA} {vk vs:Value} {d:DT} {r:Except Nat (DT×Nat×Nat)}
end
mutual
def vu:PT->Prop
 | .leaf _ _=>True
 | .wrap _ _ t=>vu t
 | .alts _ l=>l.length<=300/\gm l
def gm:List PT->Prop
 | []=>True
 |t::r=>vu t/\gm r
end
def qR:∀{l:List PT},gm l->∀t∈l,vu t
 | [],_,t,h=>by cases h
 |x::r,h,t,a=>by
  unfold gm at h;rcases ao_.1 a with rfl|a
  .exact h.1
  .exact qR h.2 t a
def Wc(env:Nat->Option PB):Prop:=∀c fs,env c=some (.recd fs)->fs.length<=300/\∀g∈fs,vu g.ty
def oN(h:u<10):fI (u:Int)=bts [48+u]:=by
 unfold fI bts;rw[Lib.itoa_nonneg,Lib.decDigits_one h];rfl
def Qi(h:¬u<10):fI (u:Int)=fI ((u / 10:Nat):Int)++bts [48+u % 10]:=by
 unfold fI bts;rw[Lib.itoa_nonneg,Lib.itoa_nonneg,Lib.decDigits,dif_neg h];apply ByteArray.ext;simp
def Qs(h:1<=u):fI (-(u:Int))=bts [45]++fI (u:Int):=by
 unfold fI bts;rw[Lib.itoa_neg u h,Lib.itoa_nonneg];apply ByteArray.ext;simp
section
variable {w:World}
end
def PAt(w:World)(bp:Nat)(s:BA)(i:Nat):Prop:=Blk w bp [.string s,I_ i] 119
section
variable {w w':World} {bp:Nat} {s:BA} {i:Nat}
def PAt.c0(h:PAt w bp s i):w.cell? ⟨bp,0,none⟩=some (.string s):=by rw[W_ h];rfl
def PAt.c1(h:PAt w bp s i):w.cell? ⟨bp,1,none⟩=some (I_ i):=by rw[W_ h];rfl
def PAt.th(h:PAt w bp s i)(o:Nat):w.frozen? ⟨bp,o,none⟩=false:=Blk.th h o
def PAt.si(h:PAt w bp s i)(hw:zq w w'):PAt w' bp s i:=by obtain⟨n,rfl⟩:=hw;exact h
def PAt.inc(h:PAt w bp s i):PAt (w.setCell ⟨bp,1,none⟩ (z_ ((i:Int)+1))) bp s (i+1):=T_ h 1 _
end
def yj{w:World}{bp:Nat}{s:BA}{i:Nat}(h:PAt w bp s i):Calls prog 97 #[P_ bp] w λe w'=>e=.returned (I_ i)/\w'=w:=by
 have c1:=h.c1;go_in;go_wp2;go_ret;exact⟨rfl,rfl⟩
def kO(c:Nat)(w:World):Calls prog 95 #[U_ c] w λe w'=>e=.returned (.bool (zp c))/\w'=w:=by
 have hb:zp c=(decide ((65:Int)<=(c:Int))&&decide ((c:Int)<=70)):=by
  unfold zp;rw[show decide ((65:Int)<=(c:Int))=decide (65<=c) by congr 1;exact propext M_,show decide ((c:Int)<=70)=decide (c<=70) by congr 1;exact propext M_]
 rw[hb];by_cases h1:(65:Int)<=(c:Int)
 .go_in;go_wp2;go_ret;exact⟨by simp[h1],rfl⟩
 .go_in;go_wp2;go_ret;exact⟨by simp;omega,rfl⟩
def yx{w:World}{bp:Nat}{s:BA}{i:Nat}(h:PAt w bp s i)(_hs:s.size<=300)(hi:i<=s.size):Calls prog 96 #[P_ bp] w λe w'=>e=.returned (.int .u8 (bt s i:Int))/\zq w w':=by
 have c0:=h.c0;have c1:=h.c1;by_cases hl:i<s.size
 .have a:(i:Int)<(s.size:Int):=M_;go_in;go_wp2;go_quiet (fail);go_wp2;go_quiet (fail);go_wp2;go_ret;exact⟨by simp[vR s i hl],(zq.drewN _ _).trans (zq.drewN _ _)⟩
 .have a:¬(i:Int)<(s.size:Int):=M_;go_in;go_wp2;go_quiet (fail);go_wp2;go_ret;exact⟨by rw[kK M_];rfl,_,rfl⟩
def Bj(w:World)(bp:Nat)(s:BA)(i d:Nat)(b:Bool)(w':World):Prop:=
 Fr w w' (· = bp)/\((bt s i=d/\b=true/\PAt w' bp s (i+1)/\i<s.size)\/(bt s i≠d/\b=false/\PAt w' bp s i))
def pJ{w:World}{bp:Nat}{s:BA}{i:Nat}{c:Int}(d:Nat)(h:PAt w bp s i)(hs:s.size<=300)(hi:i<=s.size)(hd:c=(d:Int))(f:0<d):Calls prog 100 #[P_ bp,.int .u8 c] w λe w'=>∃b,e=.returned (.bool b)/\Bj w bp s i d b w':=by
 subst hd;obtain⟨x,hx⟩:=x_ (bt s i);by_cases hb:x=d
 .subst hb;replace hx:=zy hx;go_in;go_wp2_with (go_at_call 96;apply(yx h hs hi).mono;rintro e w' ⟨rfl,hw⟩;rw[hx.o];have a:=h.si hw;have c1:=a.c1;have g:=a.th 1);go_ret;exact⟨true,rfl,((A_ w _).si hw).setCell _ _ (λ_=>rfl),.inl ⟨hx,rfl,a.inc,zc (by rw[hx.o];exact f)⟩⟩
 .have hn:((x:Int) != (d:Int))=true:=by simp;omega
  replace hx:=zy hx;go_in;go_wp2_with (go_at_call 96;apply(yx h hs hi).mono;rintro e w' ⟨rfl,hw⟩;rw[hx.o];have a:=h.si hw);go_ret;exact⟨false,rfl,(A_ w _).si hw,.inr ⟨by rw[hx.o];exact hb,rfl,a⟩⟩
def wP{w:World}{bp:Nat}{s:BA}{i:Nat}{c:Int}(d:Nat)(h:PAt w bp s i)(hs:s.size<=300)(hi:i<=s.size)(hd:c=(d:Int))(a:0<d)(hb:bt s i=d):Calls prog 100 #[P_ bp,.int .u8 c] w λe w'=>e=.returned (.bool true)/\Fr w w' (· = bp)/\PAt w' bp s (i+1):=by
 apply(pJ d h hs hi hd a).mono;rintro e w' ⟨b,rfl,hf,a⟩;rcases a with⟨_,rfl,h1,_⟩|⟨hn,_⟩
 .exact⟨rfl,hf,h1⟩
 .exact absurd hb hn
def gO{w:World}{bp:Nat}{s:BA}{i:Nat}{c:Int}(d:Nat)(h:PAt w bp s i)(hs:s.size<=300)(hi:i<=s.size)(hd:c=(d:Int))(a:0<d)(hb:bt s i≠d):Calls prog 100 #[P_ bp,.int .u8 c] w λe w'=>e=.returned (.bool false)/\Fr w w' (· = bp)/\PAt w' bp s i:=by
 apply(pJ d h hs hi hd a).mono;rintro e w' ⟨b,rfl,hf,a⟩;rcases a with⟨hy,_⟩|⟨_,rfl,h1⟩
 .exact absurd hy hb
 .exact⟨rfl,hf,h1⟩
def zT(w:World)(lo:Nat)(v:Value)(p:Int)(ev:Value):Prop:=
 ∃g,lo<=g/\v=.iface 179 (P_ g)/\Blk w g [z_ p,ev] 181
def xW{w:World}{bp:Nat}{s:BA}{i:Nat}(h:PAt w bp s i)(hg:w.cell? ⟨0,0,none⟩=some (.iface et ex)):Calls prog 68 #[P_ bp] w λe w'=>∃v,e=.returned v/\zT w' w.heap.size v (i:Int) (.iface et ex)/\Fr w w' N_:=by
 obtain⟨a,a⟩:=y_ (λ(e:Ending) (w':World)=>∃v,e=.returned v/\zT w' w.heap.size v (i:Int) (.iface et ex)/\Fr w w' N_);rw[<- a.o];have c1:=h.c1;go_in;go_wp2;refine tr_ 8 (λW=>f_ W bp 1 (I_ i)/\f_ W 0 0 (.iface et ex)) ?_;refine tz_ 0 ?_;refine tz_ 1 ?_;refine tz_ 2 ?_;refine tz_ 3 ?_;refine tz_ 4 ?_;refine tz_ 5 ?_;refine t1_ 6 ⟨c1,hg⟩ ?_;have b:(w.drew.alloc (.cells #[I_ i,.iface et ex] 181)).cell? ⟨bp,1,none⟩=some (I_ i):=by
  rw[World.cell?_alloc_past _ _ _ (World.block_lt_of_cell? w.drew ⟨bp,1,none⟩ c1)];exact c1
 have f:(w.drew.alloc (.cells #[I_ i,.iface et ex] 181)).cell? ⟨0,0,none⟩=some (.iface et ex):=by
  rw[World.cell?_alloc_past _ _ _ (World.block_lt_of_cell? w.drew ⟨0,0,none⟩ hg)];exact hg
 refine t1_ 7 ⟨b,f⟩ ?_;refine t1_ 8 ⟨b,f⟩ ?_;refine td_ ?_ _;go_wp2;try go_ret
 rw[a.o];exact⟨_,rfl,⟨w.heap.size,l_,rfl,(B_ w _ _).drew⟩,((A_ w _).alloc _).drew⟩
def gI(w:World)(et:TypeId)(ex:Value):Prop:=w.cell? ⟨0,0,none⟩=some (.iface et ex)
def gI.fr{w w':World}(h:gI w et ex)(hf:Fr w w' S)(b:¬S 0):gI w' et ex:=
 (World.cell?_of_block (a:=⟨0,0,none⟩) (hf.block _ (World.block_lt_of_cell? w ⟨0,0,none⟩ h) b)).trans h
def zT.fr{w w':World}{lo:Nat}{p:Int}{a:Value}(h:zT w lo v p a)(hf:Fr w w' S)(e:∀g,lo<=g->¬S g):zT w' lo v p a:=by
 obtain⟨g,h1,a,b⟩:=h;exact⟨g,h1,a,hf.bl b (e g h1)⟩
def zT.ls{w:World}{lo b:Nat}{p:Int}{a:Value}(h:zT w lo v p a)(hl:b<=lo):zT w b v p a:=by
 obtain⟨g,h1,a⟩:=h;exact⟨g,ak_ hl h1,a⟩
def Bq(w:World)(bp:Nat)(s:BA)(i d:Nat)(et:TypeId)(ex:Value)(v:Value)(w':World):Prop:=
 Fr w w' (· = bp)/\((bt s i=d/\v=.nilIface/\PAt w' bp s (i+1)/\i<s.size)\/(bt s i≠d/\zT w' w.heap.size v (i:Int) (.iface et ex)/\PAt w' bp s i))
def yJ{w:World}{bp:Nat}{s:BA}{i:Nat}{c:Int}(d:Nat)(h:PAt w bp s i)(a:gI w et ex)(x:bp≠0)(hs:s.size<=300)(hi:i<=s.size)(hd:c=(d:Int))(g:0<d):Calls prog 99 #[P_ bp,.int .u8 c] w λe w'=>∃v,e=.returned v/\Bq w bp s i d et ex v w':=by
 subst hd;obtain⟨b,b⟩:=y_ (λ(e:Ending) (w':World)=>∃v,e=.returned v/\Bq w bp s i d et ex v w');rw[<- b.o];by_cases hb:bt s i=d
 .have f:=zy (wP d h hs hi rfl g hb);have l:i<s.size:=zc M_;replace hb:=zy hb;replace h:=zy h;replace a:=zy a;go_in;go_wp2_with (go_at_call 100;apply f.o.mono;rintro e w1 ⟨rfl,hf,h1⟩;replace h1:=zy h1;replace hf:=zy hf);try go_ret
  rw[b.o];exact⟨.nilIface,rfl,hf,.inl ⟨hb,rfl,h1,l⟩⟩
 .have f:=zy (gO d h hs hi rfl g hb);replace hb:=zy hb;replace a:=zy a;go_in;go_wp2_with (first
   |(go_at_call 100;apply f.o.mono;rintro e w1 ⟨rfl,hf,h1⟩;replace h1:=zy h1;replace hf:=zy hf)
   |(go_at_call 68;apply(xW h1 (a.o.fr hf (Ne.symm x))).mono;rintro e a ⟨v,rfl,f,a⟩;replace f:=zy f;replace a:=zy a))
  try go_ret
  rw[b.o];have b:=hf.o.size;exact⟨v,rfl,hf.o.trans a v_,.inr ⟨hb,f.o.ls b,a.o.bl h1 id⟩⟩
def vi(c:Nat):TypeId:=if c=110 then 199 else if c=116 then 201 else if c=105 then 202 else if c=108 then 203 else 204
def jO(c:Nat):TypeId:=if c=91 then 206 else 207
inductive TyV (w:World) (P:Nat->Prop):PT->Value->Prop
 |base (c p:Nat) (h:zu c=true):TyV w P (.leaf c p) (.iface (vi c) (.agg #[I_ p]))
 |name (c p:Nat) (h:zp c=true):TyV w P (.leaf c p) (.iface 213 (.agg #[I_ p,U_ c]))
 |wrap (c p:Nat) {t:PT} {v:Value} (h:TyV w P t v):TyV w P (.wrap c p t) (.iface (jO c) (.agg #[I_ p,v]))
 |alts (p:Nat) {l:List PT} {sv:Value} (X:Nat->Value) (ho:w.ownsRow 0 53 1 sv l.length ((List.range l.length).map X)) (hP:∀g,sv.ownBlock=some g->P g) (h:∀i t,l[i]?=some t->TyV w P t (X i)) :
  TyV w P (.alts p l) (.iface 210 (.agg #[I_ p,sv]))
def TyV.mono{w:World}{P Q:Nat->Prop}(h:TyV w P t v)(hQ:∀g,g<w.heap.size->P g->Q g):TyV w Q t v:=by
 induction h with
 |base c p h=>exact .base c p h
 |name c p h=>exact .name c p h
 |wrap c p h ih=>exact .wrap c p ih
 |alts p X ho hP h ih=>exact .alts p X ho (λg e=>hQ g (ho.lt g e).2 (hP g e)) ih
def TyV.fr{w w':World}{P:Nat->Prop}(h:TyV w P t v)(hf:Fr w w' S)(a:∀g,P g->¬S g):TyV w' P t v:=by
 induction h with
 |base c p h=>exact .base c p h
 |name c p h=>exact .name c p h
 |wrap c p h ih=>exact .wrap c p ih
 |alts p X ho hP h ih=>exact .alts p X (zj ho hf (λg e=>a g (hP g e))) hP ih
def IfV(v:Value):Prop:=v=.nilIface\/∃T x,v=.iface T x
def vq(w:World)(bp:Nat)(s:BA)(i:Nat)(et:TypeId)(ex:Value)(e:Ending)(w':World):Prop:=
 ∃v ev,IfV v/\e=.returned (.tuple #[v,ev])/\Fr w w' (· = bp)/\
 match pT s i with
 | .ok (t,j)=>ev=.nilIface/\PAt w' bp s j/\TyV w' (λg=>w.heap.size<=g) t v
 | .error k=>zT w' w.heap.size ev (k:Int) (.iface et ex)/\∃j,j<=s.size/\PAt w' bp s j
def vw(s:BA)(i:Nat):Prop:=∀(w:World) (bp:Nat) (et:TypeId) (ex:Value),PAt w bp s i->gI w et ex->bp≠0->
 Calls prog 67 #[P_ bp] w (vq w bp s i et ex)
def yl{w:World}{bp:Nat}{s:BA}{i x:Nat}{c:Int}(h:PAt w bp s i)(hs:s.size<=300)(hi:i<=s.size)(hx:bt s i=x)(hc:(x:Int)=c)(h0:0<c):Calls prog 100 #[P_ bp,.int .u8 c] w λe w'=>e=.returned (.bool true)/\Fr w w' (· = bp)/\PAt w' bp s (i+1):=
 wP x h hs hi hc.symm M_ hx
def yr{w:World}{bp:Nat}{s:BA}{i x:Nat}{c:Int}(h:PAt w bp s i)(hs:s.size<=300)(hi:i<=s.size)(hx:bt s i=x)(hc:(x:Int)≠c)(h0:0<c):Calls prog 100 #[P_ bp,.int .u8 c] w λe w'=>e=.returned (.bool false)/\Fr w w' (· = bp)/\PAt w' bp s i:=
 gO c.toNat h hs hi M_ M_ (by rw[hx];omega)
def wq{s:BA}{i c:Nat}(h:bt s i=c)(hb:zu c=true):pT s i=.ok (.leaf c i,i+1):=by
 rw[kP];unfold vP;rw[h,i_ hb]
def cq10_{p:Prop}(h:p:=by
 intro w bp et ex h z F;obtain⟨C,y⟩:=y_ (vq w bp s i et ex);rw[<- y.o];have a:=zy (And.intro h (A_ w (λx=>x=bp)));(try have:=cc5;have A:=zy (show pT s i=.ok (.leaf (bt s i) i,i+1) from dE (by simpa[zp] using hn));obtain⟨x,hx⟩:=x_ (bt s i);rw[hx]at hn A;(have G:65<=x/\x<=70:=by simpa[zp] using hn);have E:i<s.size:=zc M_);replace hx:=zy hx;replace z:=zy z;replace h:=zy h;(try have:=cc5;replace hn:=zy hn);go_in;go_wp2_with (first
  |(go_at_call 97;apply(yj a.o.1).mono;rintro e w' ⟨rfl,f⟩;rw[f])
  |(go_at_call 96;apply(yx a.o.1 hs hi).mono;rintro e w' ⟨rfl,f⟩;rw[hx.o];replace a:=zy (And.intro (a.o.1.si f) (a.o.2.si f));clear f)
  |(go_at_call 100;(first|(have:=cc5;apply(yr a.o.1 hs hi hx.o M_ D_).mono)|(apply(yl a.o.1 hs hi hx.o D_ D_).mono));rintro e w' ⟨rfl,l,g⟩;(first|(have:=cc5;replace a:=zy (And.intro g (a.o.2.trans l u_)))|(have b:=zy (And.intro g (a.o.2.trans l u_))));clear l g)
  |((first|go_at_call 100|go_at_call 95);(first|(have:=cc5;apply(kO x _).mono)|(apply(yr a.o.1 hs hi hx.o D_ D_).mono));(first|(have:=cc5;rintro e w' ⟨rfl,f⟩)|(rintro e w' ⟨rfl,l,g⟩));(first|(have:=cc5;rw[f,hn.o])|(replace a:=zy (And.intro g (a.o.2.trans l u_))));(first|(have:=cc5;clear f;have c1:=a.o.1.c1;have D:=a.o.1.th 1)|(clear l g))))
 try go_ret
 rw[y.o];(first|(have:=cc1;refine⟨.iface (vi 115) (.agg #[I_ i]),.nilIface,.inr ⟨_,_,rfl⟩,rfl,b.o.2,?_⟩)|(have:=cc2;refine⟨.iface (vi 105) (.agg #[I_ i]),.nilIface,.inr ⟨_,_,rfl⟩,rfl,b.o.2,?_⟩)|(have:=cc3;refine⟨.iface (vi 116) (.agg #[I_ i]),.nilIface,.inr ⟨_,_,rfl⟩,rfl,b.o.2,?_⟩)|(have:=cc4;refine⟨.iface (vi 110) (.agg #[I_ i]),.nilIface,.inr ⟨_,_,rfl⟩,rfl,b.o.2,?_⟩)|(have:=cc5;refine⟨.iface 213 (.agg #[I_ i,U_ x]),.nilIface,.inr ⟨_,_,rfl⟩,rfl,a.o.2.setCell _ _ (λ_=>rfl),?_⟩)|(refine⟨.iface (vi 108) (.agg #[I_ i]),.nilIface,.inr ⟨_,_,rfl⟩,rfl,b.o.2,?_⟩));(first|(have:=cc5;rw[A.o])|(rw[wq hx.o rfl]));(first|(have:=cc1;exact⟨rfl,b.o.1,.base 115 i rfl⟩)|(have:=cc2;exact⟨rfl,b.o.1,.base 105 i rfl⟩)|(have:=cc3;exact⟨rfl,b.o.1,.base 116 i rfl⟩)|(have:=cc4;exact⟨rfl,b.o.1,.base 110 i rfl⟩)|(have:=cc5;exact⟨rfl,a.o.1.inc,.name x i hn.o⟩)|(exact⟨rfl,b.o.1,.base 108 i rfl⟩))):p:=h
def Jw{s:BA}{i:Nat}(hs:s.size<=300)(hi:i<=s.size)(hx:bt s i=110):vw s i:=by
 have cc4:=trivial
 exact cq10_
def Jq{s:BA}{i:Nat}(hs:s.size<=300)(hi:i<=s.size)(hx:bt s i=116):vw s i:=by
 have cc3:=trivial
 exact cq10_
def Jf{s:BA}{i:Nat}(hs:s.size<=300)(hi:i<=s.size)(hx:bt s i=105):vw s i:=by
 have cc2:=trivial
 exact cq10_
def Jg{s:BA}{i:Nat}(hs:s.size<=300)(hi:i<=s.size)(hx:bt s i=108):vw s i:=by
 exact cq10_
def Jk{s:BA}{i:Nat}(hs:s.size<=300)(hi:i<=s.size)(hx:bt s i=115):vw s i:=by
 have cc1:=trivial
 exact cq10_
def YJ{s:BA}{i:Nat}(hs:s.size<=300)(hi:i<=s.size)(hn:zp (bt s i)=true):vw s i:=by
 have cc5:=trivial
 exact cq10_
def sJ{s:BA}{i:Nat}(hs:s.size<=300)(hi:i<=s.size)(h1:¬zu (bt s i)=true)(f:¬(bt s i=91\/bt s i=123))(g:¬bt s i=40)(b:¬(65<=bt s i/\bt s i<=70)):vw s i:=by
 intro w bp et ex h l z;obtain⟨a,y⟩:=y_ (vq w bp s i et ex);rw[<- y.o];have a:=zy (And.intro h (A_ w (λx=>x=bp)));have A:=zy (Jr h1 f g b);obtain⟨x,hx⟩:=x_ (bt s i);rw[hx]at h1 f g b;have hn:H_ (zp x=false):=zy (by
  cases hc:zp x with
  |false=>rfl
  |true=>exact absurd (by simpa[zp] using hc) b)
 simp only[zu,au_,beq_iff_eq,not_or]at h1;have C:x≠110/\x≠116/\x≠105/\x≠108/\x≠115/\x≠91/\x≠123/\x≠40:=M_;replace hx:=zy hx;replace l:=zy l;go_in;go_wp2_with (first
  |(go_at_call 97;apply(yj a.o.1).mono;rintro e w' ⟨rfl,b⟩;rw[b])
  |(go_at_call 96;apply(yx a.o.1 hs hi).mono;rintro e w' ⟨rfl,b⟩;rw[hx.o];replace a:=zy (And.intro (a.o.1.si b) (a.o.2.si b)))
  |(go_at_call 100;apply(yr a.o.1 hs hi hx M_ D_).mono;rintro e w' ⟨rfl,g,f⟩;replace a:=zy (And.intro f (a.o.2.trans g u_)))
  |(go_at_call 95;apply(kO x _).mono;rintro e w' ⟨rfl,b⟩;rw[b,hn.o])
  |(go_at_call 68;apply(xW a.o.1 (l.o.fr a.o.2 (Ne.symm z))).mono;rintro e b ⟨v,rfl,f,b⟩;replace f:=zy f;replace b:=zy b))
 try go_ret
 rw[y.o];have g:=a.o.2.size;refine⟨.nilIface,v,.inl rfl,rfl,a.o.2.trans b v_,?_⟩;rw[A.o];exact⟨f.o.ls g,i,hi,b.o.bl a.o.1 id⟩
def rE(w:World)(bp:Nat)(s:BA)(i d:Nat)(et:TypeId)(ex:Value)(e:Ending)(w':World):Prop:=
 ∃v ev,IfV v/\e=.returned (.tuple #[v,ev])/\Fr w w' (· = bp)/\
 match pT s i with
 | .ok (t,j)=>if bt s j=d then ev=.nilIface/\PAt w' bp s (j+1)/\TyV w' (λg=>w.heap.size<=g) t v else zT w' w.heap.size ev (j:Int) (.iface et ex)/\∃j,j<=s.size/\PAt w' bp s j
 | .error k=>zT w' w.heap.size ev (k:Int) (.iface et ex)/\∃j,j<=s.size/\PAt w' bp s j
def lM{w:World}{bp:Nat}{s:BA}{i:Nat}{c:Int}(d:Nat)(f:vw s i)(h:PAt w bp s i)(a:gI w et ex)(x:bp≠0)(hs:s.size<=300)(hi:i<=s.size)(hd:c=(d:Int))(C:0<d):Calls prog 101 #[P_ bp,.int .u8 c] w (rE w bp s i d et ex):=by
 subst hd;obtain⟨b,b⟩:=y_ (rE w bp s i d et ex);rw[<- b.o];have y:=zy (f w bp et ex h a x);have f:=xx (s:=s) hi;cases hp:pT s i with
 |error k=>
  replace hp:=zy hp;replace a:=zy a;go_in;go_wp2_with (go_at_call 67;apply y.o.mono;rintro e w1 ⟨v,A,_,rfl,hf,hm⟩;rw[hp.o]at hm;obtain⟨⟨g,z,rfl,l⟩,E,D,h1⟩:=hm;replace hf:=zy hf;replace h1:=zy h1;replace l:=zy l);try go_ret
  rw[b.o];refine⟨.nilIface,_,.inl rfl,rfl,hf,?_⟩;rw[hp.o];exact⟨⟨g,z,rfl,l⟩,E,D,h1⟩
 |ok r=>
  obtain⟨t,j⟩:=r;have z:=f.1 t j hp;have l:=h.lt;replace hp:=zy hp;replace a:=zy a;go_in;go_wp2_with (first
   |(go_at_call 67;apply y.o.mono;rintro e w1 ⟨v,A,l,rfl,hf,hm⟩;rw[hp.o]at hm;obtain⟨rfl,h1,hv⟩:=hm;replace l:=zy l;replace hf:=zy hf;replace h1:=zy h1;replace hv:=zy hv)
   |(go_at_call 99;apply(yJ d h1 (a.o.fr hf (Ne.symm x)) x hs z.2 rfl C).mono;rintro e a ⟨y,rfl,a,f⟩;replace a:=zy a;replace f:=zy f))
  try go_ret
  rw[b.o];have x:=hf.o.size;refine⟨v,y,l,rfl,hf.o.trans a u_,?_⟩;rw[hp.o];rcases f.o with⟨hb,rfl,b,_⟩|⟨hb,f,b⟩
  .show(if bt s j=d then _ else _);rw[i_ hb];exact⟨rfl,b,hv.o.fr a (λg hg e=>M_)⟩
  .show(if bt s j=d then _ else _);rw[n_ hb];exact⟨f.ls x,j,z.2,b⟩
def cq4_{p:Prop}(h:p:=by
 intro w bp et ex h A D;obtain⟨L,F⟩:=y_ (vq w bp s i et ex);rw[<- F.o];have a:=zy (And.intro h (A_ w (λx=>x=bp)));have I:i<s.size:=zc M_;have K:=zy (dS (s:=s) (i:=i) M_);have M:=h.lt;replace hx:=zy hx;replace A:=zy A;replace h:=zy h;replace hT:=zy hT;go_in;go_wp2_with (first
  |(go_at_call 97;apply(yj a.o.1).mono;rintro e w' ⟨rfl,z⟩;rw[z])
  |(go_at_call 96;apply(yx a.o.1 hs hi).mono;rintro e w' ⟨rfl,z⟩;rw[hx.o];replace a:=zy (And.intro (a.o.1.si z) (a.o.2.si z));clear z)
  |(go_at_call 100;apply(yl a.o.1 hs hi hx.o D_ D_).mono;rintro e w' ⟨rfl,y,l⟩;have f:=zy (And.intro l (a.o.2.trans y u_));clear y l)
  |(go_at_call 100;apply(yr a.o.1 hs hi hx.o D_ D_).mono;rintro e w' ⟨rfl,y,l⟩;replace a:=zy (And.intro l (a.o.2.trans y u_));clear y l)
  |(go_at_call 101;(first|(have:=cc1;apply(lM 125 hT.o f.o.1 (A.o.fr f.o.2 (Ne.symm D)) D hs I rfl D_).mono)|(apply(lM 93 hT.o f.o.1 (A.o.fr f.o.2 (Ne.symm D)) D hs I rfl D_).mono));rintro e R ⟨v,G,J,rfl,C,hm⟩;replace C:=zy C;replace hm:=zy hm;rcases J with rfl|⟨O,Q,rfl⟩))
 all_goals
  try go_ret
  rw[F.o];have E:=f.o.2.size;(first|(have:=cc1;refine⟨.iface (jO 123) (.agg #[I_ i,_]),G,.inr ⟨_,_,rfl⟩,rfl,f.o.2.trans C.o u_,?_⟩)|(refine⟨.iface (jO 91) (.agg #[I_ i,_]),G,.inr ⟨_,_,rfl⟩,rfl,f.o.2.trans C.o u_,?_⟩));rw[K.o];have b:=hm.o;cases hp:pT s (i+1) with
  |error k=>
   rw[hp]at b;exact⟨b.1.ls E,b.2⟩
  |ok r=>
   obtain⟨t,j⟩:=r;rw[hp]at b;simp only at b⊢;rw[hx.o];(first|(have:=cc1;by_cases hb:bt s j=125)|(by_cases hb:bt s j=93))
   .rw[i_ hb]at b;(first|(have:=cc1;rw[show yE 123=125 from rfl,i_ hb])|(rw[show yE 91=93 from rfl,i_ hb]));obtain⟨rfl,H,hv⟩:=b;(first|(have:=cc1;exact⟨rfl,H,.wrap 123 i (hv.mono (λg _ hg=>ak_ E hg))⟩)|(exact⟨rfl,H,.wrap 91 i (hv.mono (λg _ hg=>ak_ E hg))⟩))
   .rw[n_ hb]at b;(first|(have:=cc1;rw[show yE 123=125 from rfl,n_ hb])|(rw[show yE 91=93 from rfl,n_ hb]));exact⟨b.1.ls E,b.2⟩):p:=h
def KZ{s:BA}{i:Nat}(hs:s.size<=300)(hi:i<=s.size)(hx:bt s i=91)(hT:vw s (i+1)):vw s i:=by
 exact cq4_
def Jj{s:BA}{i:Nat}(hs:s.size<=300)(hi:i<=s.size)(hx:bt s i=123)(hT:vw s (i+1)):vw s i:=by
 have cc1:=trivial
 exact cq4_
structure UM(w:World)(bp:Nat)(s:BA)(j:Nat)(p:Int)(sv:Value)(ds:List PT)(X:Nat->Value)(W:World):Prop where
 here:PAt W bp s j
 fr:Fr w W (· = bp)
 lt:bp<w.heap.size
 hB:w.heap.size+1<=W.heap.size
 b:Blk W w.heap.size [z_ p,sv] 210
 row:W.ownsRow (w.heap.size+1) 53 1 sv ds.length ((List.range ds.length).map X)
 ty:∀i t,ds[i]?=some t->TyV W (λg=>w.heap.size+1<=g/\sv.ownBlock≠some g) t (X i)
section
variable {w W W':World} {bp:Nat} {s:BA} {j j':Nat} {p:Int} {sv:Value} {ds:List PT} {X:Nat->Value}
def UM.call(M:UM w bp s j p sv ds X W)(h:PAt W' bp s j')(hf:Fr W W' (· = bp)):UM w bp s j' p sv ds X W':=by
 have:=M.lt;exact⟨h,M.fr.trans hf u_,M.lt,ak_ M.hB hf.size,hf.bl M.b M_,zj M.row hf (λg hg e=>by have:=M.row.lt g hg;omega),λi t e=>(M.ty i t e).fr hf (λg hg e=>M_)⟩
def UM.item(M:UM w bp s j p sv ds X W){o:Obj}{l:World}{f:Value}(hg:(W.alloc o).grownBy l sv.ownBlock)(ho:l.ownsRow (w.heap.size+1) 53 1 f (ds.length+1) ((List.range ds.length).map X++[v]))(hl:f.ownBlock=sv.ownBlock\/f.ownBlock=some (W.alloc o).heap.size)(hv:TyV W (λg=>w.heap.size+1<=g/\sv.ownBlock≠some g) t v):UM w bp s j p f (ds++[t]) (λi=>if i<ds.length then X i else v) (l.setCell ⟨w.heap.size,1,none⟩ f):=by
 have a:=M.lt;have D:=M.hB;have z:Fr W l (λg=>sv.ownBlock=some g):=a_ ((A_ W _).alloc o) hg (λk e _=>e);have hn:∀g,f.ownBlock=some g->w.heap.size+1<=g/\(sv.ownBlock=some g\/W.heap.size<=g):=λg a=>by
  rcases hl with e|e
  .exact⟨(M.row.lt g (e▸a)).1,.inl (e▸a)⟩
  .rw[e]at a;simp only[ah_]at a;have:(W.alloc o).heap.size=W.heap.size+1:=by simp
   exact⟨M_,.inr M_⟩
 have A:Fr l (l.setCell ⟨w.heap.size,1,none⟩ f) (λg=>g=w.heap.size):=(A_ l (λg=>g=w.heap.size)).setCell ⟨w.heap.size,1,none⟩ f (λ_=>rfl);have y:Fr W (l.setCell ⟨w.heap.size,1,none⟩ f) (λg=>sv.ownBlock=some g\/g=w.heap.size):=(z.mono (λ_ _ e=>.inl e)).trans A (λ_ _ e=>.inr e);have C:=z.bl M.b (λe=>by have:=M.row.lt _ e;omega);have z:∀{u x},TyV W (λg=>w.heap.size+1<=g/\sv.ownBlock≠some g) u x->TyV (l.setCell ⟨w.heap.size,1,none⟩ f) (λg=>w.heap.size+1<=g/\f.ownBlock≠some g) u x:=λhx=>
  ((hx.mono (Q:=λg=>(w.heap.size+1<=g/\sv.ownBlock≠some g)/\g<W.heap.size) (λ_ h1 l=>⟨l,h1⟩)).fr y (λg a e=>by
    rcases e with e|e
    .exact a.1.2 e
    .have:=a.1.1;omega)).mono (λg _ a=>⟨a.1.1,λe=>by
    rcases(hn g e).2 with q|q
    .exact a.1.2 q
    .have:=a.2;omega⟩)
 refine⟨y.bl M.here (λe=>?_),M.fr.trans y (λx hx e=>?_),M.lt,ak_ D y.size,C.set 1 f,?_,λi u hu=>?_⟩
 .rcases e with e|e
  .have:=M.row.lt _ e;omega
  .omega
 .rcases e with e|e
  .have:=M.row.lt _ e;omega
  .omega
 .rw[ai_,av_,bp_,bj_,aw_,bd_,n_ (a3_ _)];have e:(List.range ds.length).map (λi=>if i<ds.length then X i else v)=(List.range ds.length).map X:=List.map_congr_left (λi hi=>by rw[i_ (List.mem_range.1 hi)]);rw[e];exact zj ho A (λg a e=>by have:=hn g a;omega)
 .by_cases hi:i<ds.length
  .rw[ar_ hi]at hu;simp only[hi,if_true];exact z (M.ty i u hu)
  .rw[as_ M_]at hu;have h0:i-ds.length=0:=by
    rcases Nat.eq_zero_or_pos (i-ds.length) with h|h
    .exact h
    .rw[a4_ (by simp;omega)]at hu;cases hu
   rw[h0]at hu;simp only[aa_,ah_]at hu;subst hu;simp only[hi,if_false];exact z hv
def UM.ie(M:UM w bp s j p sv ds X W){o:Obj}{a:World}(hg:(W.alloc o).grownBy a sv.ownBlock):a.cell? ⟨w.heap.size,1,none⟩=some sv/\a.frozen? ⟨w.heap.size,1,none⟩=false:=by
 have f:Fr W a (λg=>sv.ownBlock=some g):=a_ ((A_ W _).alloc o) hg (λk e _=>e);have a:=f.bl M.b (λe=>by have:=M.row.lt _ e;omega);exact⟨a.cell 1,a.th 1⟩
def UM.alts(M:UM w bp s j p sv ds X W)(i:Nat)(hp:p=(i:Int)):TyV W (λg=>w.heap.size<=g) (.alts i ds) (.iface 210 (.agg #[z_ p,sv])):=by
 subst hp;exact .alts i X (zS M.row) (λg e=>by have:=M.row.lt g e;omega) (λk t e=>(M.ty k t e).mono (λg _ hg=>by have:=hg.1;omega))
end
def WN:Tryz.prog.underlying 208=some (.slice 53):=K_
def PV:(Tryz.prog.info? 53).map (λi=>(i.zero,i.size,i.bytes))=some (some .nilIface,1,16):=K_
end Go.Proofs.YtjkiencmjggakaaGreatDoor
