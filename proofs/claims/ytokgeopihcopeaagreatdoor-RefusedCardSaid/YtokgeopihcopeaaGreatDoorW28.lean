import Derived.Test.YtokgeopihcopeaaGreatDoorW27
import Derived.DeepKeys4
set_option linter.unusedVariables false
set_option maxHeartbeats 16000000
set_option maxRecDepth 100000
set_option linter.defProp false
set_option linter.unusedSimpArgs false
open Go.Proofs.Tryz
namespace Go.Proofs.YtokgeopihcopeaaGreatDoor
open Go.RowKit
variable {W:Aw}{rv ux ux':Ax}{kl:Lit}{uT':Av}{g:Aq}{b k k':Nat}{F:FD}
def Wc:laidOutB prog=true:=K_
def PU:WideMaps.ArrKey prog 93 3 2:=⟨K_,K_,K_,K_⟩
def QL:Tryz.prog.underlying 132=some (.map 93 3):=K_
def GT:Tryz.prog.underlying 131=some (.slice 243):=K_
def Ue:(Tryz.prog.info? 243).map (λi=>(i.zero,i.size,i.bytes))=some (some (.agg #[.nilIface,.nilIface,O_,.nilIface]),4,56):=K_
def fR:Maps.Keyed prog 93:=Maps.Keyed.of_law (deep_law_laid Wc (m:=2) M_ (of_decide_eq_true K_) K_ (by rw[PU.hu]))
def lJ{a:Nat}(ha:a<=1000000)(hb:b<=1000000):∃l,keyOf prog 93 (.agg #[I_ a,I_ b])=some l:=
 ⟨_,WideMaps.keyOf_pair PU qV ⟨453-1,K_⟩ (WalkArith.wf_i64 M_) (WalkArith.wf_i64 M_)⟩
def Kz{s:BA}{t t':PT}(h:wK s t)(c:wK s t')(e:t.place=t'.place):t=t':=by
 obtain⟨j,h1⟩:=h;obtain⟨j',d⟩:=c;rw[e,d]at h1;cases h1;rfl
def Xo(c:F.OK):(uI F).OK:=by
 have lt:∀a,uQ F a->a.1.place<300/\a.2.place<300:=λa ha=>by
  have h1:=lQ ha.1.1;have d:=lQ ha.2.1;have:=c.hs;have:=c.hs';omega
 have inj:∀a b,uQ F a->uQ F b->a.1.place=b.1.place->a.2.place=b.2.place->a=b:=λa b ha hb e e'=>Prod.ext (Kz ha.1.1 hb.1.1 e) (Kz ha.2.1 hb.2.1 e');refine⟨by show 134≠243;decide,fR,λa ha=>lJ (o1_ (lt a ha)) (o1_ (lt a ha)),λa b ha hb e=>?_,λa ha=>?_,λa b ha hb e=>?_⟩
 .have e':Value.agg #[I_ a.1.place,I_ a.2.place]=.agg #[I_ b.1.place,I_ b.2.place]:=e;simp only[Value.agg.injEq,Array.mk.injEq,List.cons.injEq,Value.int.injEq,true_and,and_true]at e';exact inj a b ha hb M_ M_
 .have:=lt a ha;show a.1.place*300+a.2.place<90000;omega
 .have h1:=lt a ha;have d:=lt b hb;have e':a.1.place*300+a.2.place=b.1.place*300+b.2.place:=e;exact inj a b ha hb M_ M_
section
variable {o:Db} {a:Act} {K:Dx} {Q:Aa} {w:Aw}
def XP(m x:Operand)(ho:o.op=Op.lookup 132 m x true){n:Nat}{D:DataW Unit}{key:Ax}(hm:a.eval m=.map (some b))(e:w.ownsMap prog 93 (plainElem prog 3) b n D)(hx:a.eval x=key)(d:keyOf prog 93 key=some kl)(h:∀c:Int,D.atKey kl (.lit (.int .i64 0))=.lit (.int .i64 c)->K (a.put o.dst (.tuple #[.int .i64 c,.bool (Maps.has D kl)])) w):o.wp prog a w K Q:=by
 obtain⟨v,i,f,hv⟩:=e.look_ok fR QL (Qa w) (plainElem_int qV D_) d;obtain⟨c,rfl,hc,d⟩:=plainElem_int_inv qV hv;unfold Oper.wp;simp[execOp,ho,hm,hx,f,Result.andThen];exact h c (congrArg Prod.fst hc)
def Uj(m x v:Operand)(ho:o.op=Op.mapUpdate 132 m x v){n:Nat}{D:DataW Unit}{key:Ax}{z:Nat}(hm:a.eval m=.map (some b))(d:w.ownsMap prog 93 (plainElem prog 3) b n D)(hn:n<=1000000)(hx:a.eval x=key)(c:keyOf prog 93 key=some kl)(hv:a.eval v=I_ z)(hz:z<=1000000)(h:∀w',w'.ownsMap prog 93 (plainElem prog 3) b (n+1) (D.put kl (.lit (.int .i64 (z:Int))))->w.grownBy w' (some b)->K (a.put o.dst undef) w'):o.wp prog a w K Q:=by
 obtain⟨w',e,r1,f⟩:=d.update fR QL xs_ c (plainElem_int qV (WalkArith.wf_i64 (by omega : -9223372036854775808<=(z:Int)/\(z:Int)<=9223372036854775807)));unfold Oper.wp;simp[execOp,ho,hm,hx,hv,e,Result.andThen];exact h w' r1 f
def Uq(s x:Operand)(ho:o.op=.call { callee:=.builtin .append,args:=#[s,x],argTypes:=#[131,131] }){B g n:Nat}{v c0 c1 c2 c3:Ax}{xs:Ay}(hb:w.ownsRow B 243 4 v n xs)(c:n<=1000000)(hB:B<=w.heap.size)(hg:g=w.heap.size)(hs:a.eval s=v)(hx:a.eval x=S_ g 1 1)(h0:c0.oneCell'=true)(h1:c1.oneCell'=true)(d:c2.oneCell'=true)(e:c3.oneCell'=true)(h:∀c w',w'.ownsRow B 243 4 c (n+1) (xs++[c0,c1,c2,c3])->(w.alloc (.cells #[c0,c1,c2,c3] 243)).grownBy w' v.ownBlock->(c.ownBlock=v.ownBlock\/c.ownBlock=some (w.alloc (.cells #[c0,c1,c2,c3] 243)).heap.size)->K (a.put o.dst c) w'):o.wp prog a (w.alloc (.cells #[c0,c1,c2,c3] 243)) K Q:=by
 obtain⟨ti,f,i,j,l⟩:=info_parts Ue;obtain⟨q,r,hr,p,c,_,m⟩:=run_append_own_at (P:=prog) (w.alloc (.cells #[c0,c1,c2,c3] 243)) B 131 o.type 243 ti _ 4 56 GT f i j l rfl D_ _ n xs (World.ownsRow.alloc hb _) ⟨g,0,none⟩ 1 1 [c0,c1,c2,c3] rfl (zK _ #[c0,c1,c2,c3] _ _ hg) (by simp[h0,h1,d,e]) xs_ M_ x1_;unfold Oper.wp execOp;simp only[ho,resolve,invoke,builtin,Sem.run_bind,Sem.run_pure,Result.andThen_ok,List.map_toArray,a0_,bn_,hs,hx,hr];exact h q r p c m
end
def kO{uT:Av}(hm:∀W,(method 553 uT ux "Place").run prog W=.ok (72,I_ k) W)(p:∀W,(method 553 uT' ux' "Place").run prog W=.ok (72,I_ k') W):Calls prog 52 #[.agg #[.iface uT ux,.iface uT' ux']] W λe w'=>e=.returned (.agg #[I_ k,I_ k'])/\Fr W w' N_:=by
 obtain⟨s,n⟩:=y_ (λ(e:Ending) (w':World)=>e=.returned (.agg #[I_ k,I_ k'])/\Fr W w' N_);rw[<- n.o];obtain⟨w1,hw1⟩:=e_ ((W.alloc (.cells #[.iface uT ux,.iface uT' ux'] 92)).alloc (.cells #[O_,O_] 93));have l:Fr W w1 N_:=x9_
 have h:Blk w1 W.heap.size [.iface uT ux,.iface uT' ux'] 92:=xe_
 have m:Blk w1 (W.heap.size+1) [O_,O_] 93:=by
  rw[hw1];have:=B_ (W.alloc (.cells #[.iface uT ux,.iface uT' ux'] 92)) #[O_,O_] 93;rw[zm]at this;exact this
 have c0:=h.c0;have c1:=h.c1;replace hw1:=zy hw1;go_in;go_upto_region 1 with fail;rw[<- hw1.o];refine tr_ 7 (λV=>z_ V W.heap.size 0 (.iface uT ux)/\z_ V W.heap.size 1 (.iface uT' ux')) ?_;refine tz_ 0 ?_;refine tz_ 1 ?_;refine tz_ 3 ?_;refine tz_ 4 ?_;refine zh 2 rfl K_ (λ_=>⟨c0,c1⟩) (λK d=>?_);go_simp;apply(xp (k:Int) _).mono;rintro e t ⟨rfl,p⟩;refine d _ _ ?_;clear d K;have f:Fr w1 t N_:=by rw[p];exact(A_ w1 _).drew
 clear p;refine zh 5 rfl K_ (λ_=>⟨f.ke c0,f.ke c1⟩) (λK d=>?_);go_simp;apply(xp (k':Int) _).mono;rintro e j ⟨rfl,p⟩;refine d _ _ ?_;clear d K;have f3:Fr w1 j N_:=by rw[p];exact f
 clear p f;have c:=f3.bl m id;have d:=c.cell 0;have f:=c.cell 1;have p:=c.th 0;have p:=c.th 1;have i:=(c.set 0 (I_ k)).set 1 (I_ k');have q:=i.cell 0;have r:=i.cell 1;simp only[an_,ap_,aa_,ab_]at d f q r;have fin:H_ (s (.returned (.agg #[I_ k,I_ k'])) ((j.setCell ⟨W.heap.size+1,0,none⟩ (I_ k)).setCell ⟨W.heap.size+1,1,none⟩ (I_ k'))):=zy (by
  rw[n.o]
  exact⟨rfl,(l.trans f3 u_).trans (J_ j (W.heap.size+1) 0 1 _ _) (λx hx e=>M_)⟩)
 have c3:=f3.ke c0;have c4:=f3.ke c1;clear i c m h l f3;refine t1_ 6 ⟨c3,c4⟩ ?_;refine t1_ 7 ⟨c3,c4⟩ ?_;refine td_ ?_ _;go_wp2;refine bodyPost_ret (v:=.agg #[I_ k,I_ k']) (by simp[results,results52,go_sem,q,r]) rfl ?_;exact fin
section
variable {α ρ:Type} {P:TP α ρ} {kv:α->Value} {Q:α->Prop} {num:α->Nat} {N fb tb mb:Nat} {fn:Et} {fa:Ax}
def Yi{W:Aw}{r:ρ}{rv:Ax}{g:Aq}{T:List (Rw α)}{i:Nat}{x:Rw α}{uT uT':Av}{ux ux':Ax}{k k':Nat}{kl:Lit}(I:P.OK (IU kv Q num N) ⟨fb,tb,mb,.func (.func 52) #[] #[],.func (.func fn) #[fa] #[]⟩)(h:TbI P (IU kv Q num N) ⟨fb,tb,mb,.func (.func 52) #[] #[],.func (.func fn) #[fa] #[]⟩ W r rv g T)(hx:T[i]?=some x)(hk:kv x.a=.agg #[I_ k,I_ k'])(a1:keyOf prog 93 (.agg #[I_ k,I_ k'])=some kl)(hm:∀W,(method 553 uT ux "Place").run prog W=.ok (72,I_ k) W)(a2:∀W,(method 553 uT' ux' "Place").run prog W=.ok (72,I_ k') W):Calls prog 54 #[P_ tb,.agg #[.iface uT ux,.iface uT' ux']] W (tZ P (IU kv Q num N) ⟨fb,tb,mb,.func (.func 52) #[] #[],.func (.func fn) #[fa] #[]⟩ W r rv g T x.a):=by
 obtain⟨a4,Z⟩:=y_ (tZ P (IU kv Q num N) ⟨fb,tb,mb,.func (.func 52) #[] #[],.func (.func fn) #[fa] #[]⟩ W r rv g T x.a);rw[<- Z.o];have U:=ai_ hx;obtain⟨w1,hw1⟩:=e_ ((W.alloc (.cells #[.iface uT ux,.iface uT' ux'] 92)).alloc (.cells #[O_,.nilIface] 85));have X:Fr W w1 N_:=x9_
 have Y:Blk w1 W.heap.size [.iface uT ux,.iface uT' ux'] 92:=xe_
 have B1:Blk w1 (W.heap.size+1) [O_,.nilIface] 85:=by
  rw[hw1];have:=B_ (W.alloc (.cells #[.iface uT ux,.iface uT' ux'] 92)) #[O_,.nilIface] 85;rw[zm]at this;exact this
 have h1:=h.new I X;have c0:=h1.t.b.c0;have G:=Y.c0;have H:=Y.c1;have hi:=(ak_.1 hx).1;have a6:(i:Int)<(T.length:Int):=M_;have a3:=((h.t.q x U).2.2.2);have s1:=λW a m=>run_store prog W a x.d m a3.one;have rest:H_ (∀V,Fr w1 V N_->∃D b E,rv=S_ b T.length E/\V.ownsMap prog 93 (plainElem prog 3) mb T.length D/\Maps.has D kl=true/\D.atKey kl (.lit (.int .i64 0))=.lit (.int .i64 (i:Int))/\V.cell? ⟨tb,3,none⟩=some (.map (some mb))/\V.cell? ⟨tb,2,none⟩=some (S_ b T.length E)/\V.cell? ⟨b,i*4+2,none⟩=some (I_ x.n)/\V.cell? ⟨b,i*4+2+1,none⟩=some x.d/\Blk V (W.heap.size+1) [O_,.nilIface] 85/\a4 (.returned (.agg #[I_ x.n,x.d])) ((V.setCell ⟨W.heap.size+1,0,none⟩ (I_ x.n)).setCell ⟨W.heap.size+1,1,none⟩ x.d).drew):=zy (λV S=>by
  have hf:=X.trans S u_
  have s:=h.new I hf
  obtain⟨D,A,a5⟩:=s.t.map
  obtain⟨hh,B⟩:=(a5 x.a _ (h.t.q x U).1 (show keyOf prog 93 (kv x.a)=_ by rw[hk];exact a1)).1 i x hx rfl
  obtain⟨b,E,u,u',rfl,hu,e0,e9,e1,e2,-,-⟩:=s.cellsU hx
  have f:=S.bl B1 id
  have hF:=(J_ V (W.heap.size+1) 0 1 (I_ x.n) x.d).drew
  refine⟨D,b,E,rfl,A,hh,B,s.t.b.cell 3,s.t.b.cell 2,e1,e2,f,?_⟩
  rw[Z.o]
  have a7:fb<tb/\tb<W.heap.size:=(h.t.li (x:=tb) (.inl rfl))
  exact⟨x,rfl,U,rfl,s.put I yr_ f hF,⟨(hf.mono v_).trans hF (λy hy e=>M_),λ_ _ e=>e⟩⟩)
 generalize x.n=xn at *;generalize x.d=xd at *;replace hw1:=zy hw1;go_in;go_upto_region 1 with fail;rw[<- hw1.o];go_cut [5] (λv V=>∃q,v=P_ q/\H_ (Fr w1 V N_)/\H_ (Blk V q [I_ k,I_ k'] 93));case first=>
  refine tr_ 7 (λV=>z_ V tb 0 (.func (.func 52) #[] #[])/\z_ V W.heap.size 0 (.iface uT ux)/\z_ V W.heap.size 1 (.iface uT' ux')) ?_;refine tz_ 0 ?_;refine tz_ 1 ?_;refine tz_ 2 ?_;refine tz_ 3 ?_;refine tz_ 4 ?_;refine jV 5 6 rfl rfl K_ (λ_=>⟨c0,G,H⟩) (λK l=>?_) (λK l=>?_)
  .go_simp;apply(kO hm a2).mono;rintro e C ⟨rfl,z⟩;refine l _ _ ?_;have j:Fr w1 C N_:=(A_ w1 _).drew.trans z u_;have fin:=zy (j.alloc (.cells #[I_ k,I_ k'] 93));have a0:=zy (B_ C #[I_ k,I_ k'] 93);have J:=j.ke c0;have L:=j.ke G;have O:=j.ke H;have p:=λo=>(A_ C N_).alloc o;refine t1_ 6 ⟨J,L,O⟩ ?_;refine t1_ 7 ⟨(p _).ke J,(p _).ke L,(p _).ke O⟩ ?_;refine td_ ?_ _;go_wp2;go_meet;exact⟨_,rfl,fin,a0⟩
  .go_simp;refine l _ _ ?_;have p:=(A_ w1 N_).alloc (.cells #[O_,O_] 93);have f:=B_ w1 #[O_,O_] 93;refine zh 5 rfl K_ (λ_=>⟨p.ke c0,p.ke G,p.ke H⟩) (λK l=>?_);go_simp;apply(kO hm a2).mono;rintro e C ⟨rfl,z⟩;refine l _ _ ?_;have j:Fr w1 C N_:=p.drew.trans z u_;have s:=z.bl f.drew id;have fin:=zy (j.trans (J_ C w1.heap.size 0 1 (I_ k) (I_ k')) (λx hx e=>M_));have a0:=zy ((s.set 0 (I_ k)).set 1 (I_ k'));have J:=j.ke c0;have L:=j.ke G;have O:=j.ke H;have k0:=s.c0;have C:=s.c1;have t0:=s.th 0;have t1:=s.th 1;refine t1_ 7 ⟨J,L,O⟩ ?_;refine td_ ?_ _;go_wp2;go_meet;exact⟨_,rfl,fin,a0⟩
 case rest=>
  obtain⟨q,rfl,S,hB⟩:=hcut;obtain⟨D,b,E,rfl,A,hh,B,d3,j,e1,e2,f,fin⟩:=rest.o _ S;have q0:=hB.o.c0;have q1:=hB.o.c1;replace A:=zy A;replace B:=zy B;generalize T.length=M at *;go_wp2;refine tr_ 10 (λV=>z_ V tb 3 (.map (some mb))/\z_ V q 0 (I_ k)/\z_ V q 1 (I_ k')) ?_;refine tz_ 0 ?_;refine tz_ 1 ?_;refine tz_ 2 ?_;refine tz_ 3 ?_;refine tz_ 4 ?_;refine zh 5 rfl K_ (λ_=>⟨d3,q0,q1⟩) (λK l=>?_);rw[i_ (show Region.wanted _ _=true by kernel_rfl)];refine XP _ _ rfl rfl A rfl a1 ?_;intro c hc;refine l _ _ ?_;rw[B.o]at hc;simp only[DataW.lit.injEq,Lit.int.injEq,true_and]at hc;subst hc;rw[hh];refine tz_ 6 ?_;refine tz_ 7 ?_;refine tz_ 8 ?_;refine t1_ 9 ⟨d3,q0,q1⟩ ?_;refine t1_ 10 ⟨d3,q0,q1⟩ ?_;refine td_ ?_ _;have z0:=f.cell 0;have l:=f.cell 1;have t0:=f.th 0;have t1:=f.th 1;have j:=(f.set 0 (I_ xn)).set 1 xd;have r0:=j.cell 0;have r1:=j.cell 1;simp only[an_,ap_,aa_,ab_]at z0 l r0 r1;replace fin:=zy fin;go_wp2;refine bodyPost_ret (v:=.agg #[I_ xn,xd]) (by simp[results,results54,go_sem,r0,r1]) rfl ?_;exact fin
end
section
variable {α ρ:Type} {P:TP α ρ} {kv:α->Value} {Q:α->Prop} {num:α->Nat} {N fb tb mb:Nat} {fn:Et} {fa:Ax}
def Ye{r:ρ}{T:List (Rw α)}{a:α}{uT:Av}(a2:(IU kv Q num N).OK)(s:P.OK (IU kv Q num N) ⟨fb,tb,mb,.func (.func 52) #[] #[],.func (.func fn) #[fa] #[]⟩)(h:TbI P (IU kv Q num N) ⟨fb,tb,mb,.func (.func 52) #[] #[],.func (.func fn) #[fa] #[]⟩ W r rv g T)(ha:Q a)(hq:P.QV W a [.iface uT ux,.iface uT' ux'])(hx:∀x∈T,x.a≠a)(hk:kv a=.agg #[I_ k,I_ k'])(a7:keyOf prog 93 (.agg #[I_ k,I_ k'])=some kl)(hm:∀W,(method 553 uT ux "Place").run prog W=.ok (72,I_ k) W)(b4:∀W,(method 553 uT' ux' "Place").run prog W=.ok (72,I_ k') W)(hT:T.length<=1000000)(hL:∀V Y,TbI P (IU kv Q num N) ⟨fb,tb,mb,.func (.func 52) #[] #[],.func (.func fn) #[fa] #[]⟩ V r Y g (T++[⟨a,[.iface uT ux,.iface uT' ux'],0,.nilIface⟩])->Calls prog 55 #[P_ tb,I_ T.length] V (cm P (IU kv Q num N) ⟨fb,tb,mb,.func (.func 52) #[] #[],.func (.func fn) #[fa] #[]⟩ V r Y g (T++[⟨a,[.iface uT ux,.iface uT' ux'],0,.nilIface⟩]) T.length)):Calls prog 54 #[P_ tb,.agg #[.iface uT ux,.iface uT' ux']] W (ju P (IU kv Q num N) ⟨fb,tb,mb,.func (.func 52) #[] #[],.func (.func fn) #[fa] #[]⟩ W r rv g T a):=by
 obtain⟨b7,Q_⟩:=y_ (ju P (IU kv Q num N) ⟨fb,tb,mb,.func (.func 52) #[] #[],.func (.func fn) #[fa] #[]⟩ W r rv g T a);rw[<- Q_.o];obtain⟨w1,hw1⟩:=e_ ((W.alloc (.cells #[.iface uT ux,.iface uT' ux'] 92)).alloc (.cells #[O_,.nilIface] 85));have A1:Fr W w1 N_:=x9_
 have Z:Blk w1 W.heap.size [.iface uT ux,.iface uT' ux'] 92:=xe_
 have B1:Blk w1 (W.heap.size+1) [O_,.nilIface] 85:=by
  rw[hw1];have:=B_ (W.alloc (.cells #[.iface uT ux,.iface uT' ux'] 92)) #[O_,.nilIface] 85;rw[zm]at this;exact this
 have h1:=h.new s A1;have c0:=h1.t.b.c0;have p0:=Z.c0;have S:=Z.c1;have a6:keyOf prog 93 (kv a)=some kl:=by rw[hk];exact a7
 have a0:∀x,TSS P ⟨fb,tb,mb,.func (.func 52) #[] #[],.func (.func fn) #[fa] #[]⟩ rv r x->fb<x/\x<W.heap.size:=λx e=>h.li s e;have d7:fb<tb/\tb<W.heap.size:=a0 tb (.inl (.inl rfl));have b5:W.ownsRow (fb+1) 243 4 rv T.length (T.flatMap Rw.cells):=h.t.row;obtain⟨G,H,rfl⟩:=zw b5;have rest:H_ (∀V,Fr w1 V N_->∃D,V.ownsMap prog 93 (plainElem prog 3) mb T.length D/\Maps.has D kl=false/\V.cell? ⟨tb,3,none⟩=some (.map (some mb))/\V.cell? ⟨tb,2,none⟩=some (.slice G T.length H)/\
  H_ (∀w0 j,Fr V w0 N_->w0.grownBy j (some mb)->j.cell? ⟨tb,2,none⟩=some (.slice G T.length H)/\j.cell? ⟨W.heap.size,0,none⟩=some (.iface uT ux)/\j.cell? ⟨W.heap.size,1,none⟩=some (.iface uT' ux')/\j.ownsRow (fb+1) 243 4 (.slice G T.length H) T.length (T.flatMap Rw.cells)/\fb+1<=j.heap.size)/\
  H_ (∀w0 j J C,Fr V w0 N_->w0.grownBy j (some mb)->Fr j J N_->(J.alloc (.cells #[.iface uT ux,.iface uT' ux',O_,.nilIface] 243)).grownBy C (Value.slice G T.length H).ownBlock->C.cell? ⟨tb,2,none⟩=some (.slice G T.length H)/\C.frozen? ⟨tb,2,none⟩=false/\C.cell? ⟨W.heap.size,0,none⟩=some (.iface uT ux)/\C.cell? ⟨W.heap.size,1,none⟩=some (.iface uT' ux'))/\
  H_ (∀w0 j J C A,Fr V w0 N_->j.ownsMap prog 93 (plainElem prog 3) mb (T.length+1) (D.put kl (.lit (.int .i64 (T.length:Int))))->w0.grownBy j (some mb)->Fr j J N_->(J.alloc (.cells #[.iface uT ux,.iface uT' ux',O_,.nilIface] 243)).grownBy C (Value.slice G T.length H).ownBlock->C.ownsRow (fb+1) 243 4 A (T.length+1) (T.flatMap Rw.cells++[.iface uT ux,.iface uT' ux',O_,.nilIface])->(A.ownBlock=(Value.slice G T.length H).ownBlock\/A.ownBlock=some (J.alloc (.cells #[.iface uT ux,.iface uT' ux',O_,.nilIface] 243)).heap.size)->
   ∀V',Fr (C.setCell ⟨tb,2,none⟩ A) V' N_->TbI P (IU kv Q num N) ⟨fb,tb,mb,.func (.func 52) #[] #[],.func (.func fn) #[fa] #[]⟩ V' r A g (T++[⟨a,[.iface uT ux,.iface uT' ux'],0,.nilIface⟩])/\Stp W V' (TSS P ⟨fb,tb,mb,.func (.func 52) #[] #[],.func (.func fn) #[fa] #[]⟩ (.slice G T.length H) r) (TSS P ⟨fb,tb,mb,.func (.func 52) #[] #[],.func (.func fn) #[fa] #[]⟩ A r)/\Blk V' (W.heap.size+1) [O_,.nilIface] 85/\¬TSS P ⟨fb,tb,mb,.func (.func 52) #[] #[],.func (.func fn) #[fa] #[]⟩ A r (W.heap.size+1))):=zy (λV hV=>by
  have hf:=A1.trans hV u_
  have Y:=h.new s hf
  obtain⟨D,O,a9⟩:=Y.t.map
  obtain⟨a8,b8,b9⟩:=Y.t.apart a2
  have sz:=A1.size
  have e0:=Z.lt
  refine⟨D,O,(a9 a _ ha a6).2 hx,Y.t.b.cell 3,Y.t.b.cell 2,zy (λw0 j u l=>?_),zy (λw0 j J C u l f3 X=>?_),zy (λw0 j J C A u L l f3 X k4 k5 V' a5=>?_)⟩
  .have f:Fr w0 j (λx=>x=mb):=(A_ w0 _).gw l (λk e _=>by simpa using e.symm)
   have h0:=Y.new s u
   have d9:mb<W.heap.size:=(a0 mb (.inl (.inr (.inl rfl)))).2
   have b2:=f.bl h0.t.b a8
   have bp:=f.bl ((hV.trans u u_).bl Z id) M_
   have z:=f.size
   have z1:=u.size
   have z2:=hf.size
   have e2:=b2.c2
   have e3:=bp.c0
   have e4:=bp.c1
   exact⟨e2,e3,e4,zj h0.t.row f (λx e k=>b9 (by rw[e,show x=mb from k])),M_⟩
  .have f:Fr w0 j (λx=>x=mb):=(A_ w0 _).gw l (λk e _=>by simpa using e.symm)
   have h0:=Y.new s u
   have f5:Fr J C (λx=>(Value.slice G T.length H).ownBlock=some x):=((A_ J (λx=>(Value.slice G T.length H).ownBlock=some x)).alloc (.cells #[.iface uT ux,.iface uT' ux',O_,.nilIface] 243)).gw X (λk e _=>e)
   have d9:mb<W.heap.size:=(a0 mb (.inl (.inr (.inl rfl)))).2
   have b2:=f5.bl (f3.bl (f.bl h0.t.b a8) id) b8
   have bp:=f5.bl (f3.bl (f.bl ((hV.trans u u_).bl Z id) M_) id) (λe=>o1_ ((a0 _ (.inl (.inr (.inr e)))).2))
   have e2:=b2.c2
   have e3:=bp.c0
   have e4:=bp.c1
   exact⟨e2,b2.th 2,e3,e4⟩
  .have h0:=Y.new s u
   have U:=jy O u id
   obtain⟨S,I⟩:=h0.t.push a2 (r:=⟨a,[.iface uT ux,.iface uT' ux'],0,.nilIface⟩) ⟨ha,rfl,by show(0:Nat)<=301;omega,.inl rfl⟩ hx a6 a9 U.isMap L l (f3.trans ((A_ J _).alloc _) u_) X k4 (k5.imp id (λe=>⟨_,e,l_⟩))
   have E:=hf.trans u u_
   have p:=h0.turn s I S (λy hy=>by
    rcases a4_.1 hy with hy|hy
    .exact .inl hy
    .simp only[a2_]at hy
     subst hy
     exact .inr ⟨s.z _ _ _,s.qv _ _ _ _ _ (s.qv _ _ _ _ _ hq E (λ_ f=>f.elim)) I.1 (λy hy=>(h0.t.li hy).1)⟩)
   have bl:=(hV.trans u u_).bl B1 id
   have I:=p.2.1.bl bl (λe=>o1_ ((a0 _ e).2))
   exact⟨p.1.new s a5,((C_ E (λ_ h=>h)).trans p.2).trans (C_ a5 (λ_ h=>h)),a5.bl I id,λe=>e.elim (S.ot I (Ne.symm s.tt.1) (Ne.symm s.tt.2)) (λe=>o1_ ((s.rs _ _ _ h.i e).2))⟩)
 have fin:H_ (∀V r' rv' g' T' (y:Rw α) V1,TbI P (IU kv Q num N) ⟨fb,tb,mb,.func (.func 52) #[] #[],.func (.func fn) #[fa] #[]⟩ V r' rv' g' T'->Stp W V (TSS P ⟨fb,tb,mb,.func (.func 52) #[] #[],.func (.func fn) #[fa] #[]⟩ (.slice G T.length H) r) (TSS P ⟨fb,tb,mb,.func (.func 52) #[] #[],.func (.func fn) #[fa] #[]⟩ rv' r')->Grw P.Cl T T' g g'->y∈T'->y.a=a->Blk V (W.heap.size+1) [O_,.nilIface] 85->Fr V V1 (λx=>x=W.heap.size+1)->b7 (.returned (.agg #[I_ y.n,y.d])) V1):=zy (λV r' rv' g' T' y V1 L k2 k3 k4 k5 k6 hF=>by
  rw[Q_.o]
  exact⟨r',rv',g',T',y,rfl,k4,k5,L.put s yr_ k6 hF,⟨k2.1.trans hF (λy hy e=>M_),k2.2⟩,k3⟩)
 replace hL:=zy hL;generalize hM:T.length=M at *;replace hM:=zy hM;replace hw1:=zy hw1;generalize T.flatMap Rw.cells=CS at *;go_in;go_upto_region 1 with fail;rw[<- hw1.o];go_cut [5] (λv V=>∃q,v=P_ q/\H_ (Fr w1 V N_)/\H_ (Blk V q [I_ k,I_ k'] 93));case first=>
  refine tr_ 7 (λV=>z_ V tb 0 (.func (.func 52) #[] #[])/\z_ V W.heap.size 0 (.iface uT ux)/\z_ V W.heap.size 1 (.iface uT' ux')) ?_;refine tz_ 0 ?_;refine tz_ 1 ?_;refine tz_ 2 ?_;refine tz_ 3 ?_;refine tz_ 4 ?_;refine jV 5 6 rfl rfl K_ (λ_=>⟨c0,p0,S⟩) (λK p=>?_) (λK p=>?_)
  .go_simp;apply(kO hm b4).mono;rintro e j ⟨rfl,f2⟩;refine p _ _ ?_;have I:Fr w1 j N_:=(A_ w1 _).drew.trans f2 u_;have fin:=zy (I.alloc (.cells #[I_ k,I_ k'] 93));have a4:=zy (B_ j #[I_ k,I_ k'] 93);have g0:=I.ke c0;have g1:=I.ke p0;have l:=I.ke S;have E:=λo=>(A_ j N_).alloc o;refine t1_ 6 ⟨g0,g1,l⟩ ?_;refine t1_ 7 ⟨(E _).ke g0,(E _).ke g1,(E _).ke l⟩ ?_;refine td_ ?_ _;go_wp2;go_meet;exact⟨_,rfl,fin,a4⟩
  .go_simp;refine p _ _ ?_;have E:=(A_ w1 N_).alloc (.cells #[O_,O_] 93);have U:=B_ w1 #[O_,O_] 93;refine zh 5 rfl K_ (λ_=>⟨E.ke c0,E.ke p0,E.ke S⟩) (λK p=>?_);go_simp;apply(kO hm b4).mono;rintro e j ⟨rfl,f2⟩;refine p _ _ ?_;have I:Fr w1 j N_:=E.drew.trans f2 u_;have J:=f2.bl U.drew id;have fin:=zy (I.trans (J_ j w1.heap.size 0 1 (I_ k) (I_ k')) (λx hx e=>M_));have a4:=zy ((J.set 0 (I_ k)).set 1 (I_ k'));have g0:=I.ke c0;have g1:=I.ke p0;have l:=I.ke S;have k0:=J.c0;have L:=J.c1;have t0:=J.th 0;have t1:=J.th 1;refine t1_ 7 ⟨g0,g1,l⟩ ?_;refine td_ ?_ _;go_wp2;go_meet;exact⟨_,rfl,fin,a4⟩
 case rest=>
  obtain⟨q,rfl,hV,hB⟩:=hcut;obtain⟨D,O,J,d3,d2,I,a3,push⟩:=rest.o _ hV;have q0:=hB.o.c0;have q1:=hB.o.c1;replace O:=zy O;go_wp2;refine tr_ 10 (λV=>z_ V tb 3 (.map (some mb))/\z_ V q 0 (I_ k)/\z_ V q 1 (I_ k')) ?_;refine tz_ 0 ?_;refine tz_ 1 ?_;refine tz_ 2 ?_;refine tz_ 3 ?_;refine tz_ 4 ?_;refine zh 5 rfl K_ (λ_=>⟨d3,q0,q1⟩) (λK p=>?_);rw[i_ (show Region.wanted _ _=true by kernel_rfl)];refine XP _ _ rfl rfl O rfl a7 ?_;intro c hc;refine p _ _ ?_;rw[J];refine tz_ 6 ?_;refine tz_ 7 ?_;refine tz_ 8 ?_;refine t1_ 9 ⟨d3,q0,q1⟩ ?_;refine t1_ 10 ⟨d3,q0,q1⟩ ?_;refine td_ ?_ _;go_wp2;refine tr_ 6 (λV=>z_ V tb 3 (.map (some mb))/\z_ V q 0 (I_ k)/\z_ V q 1 (I_ k')) ?_;refine tz_ 0 ?_;refine tz_ 1 ?_;refine tz_ 2 ?_;refine tz_ 3 ?_;refine tz_ 4 ?_;refine tz_ 5 ?_;refine zh 6 rfl K_ (λ_=>⟨d3,q0,q1⟩) (λK p=>?_);rw[i_ (show Region.wanted _ _=true by kernel_rfl)];refine Uj _ _ _ rfl (z:=M) rfl O hT rfl a7 rfl hT ?_;intro j L l;go_simp;refine p _ _ ?_;have u:Fr wc wc.drew.drew N_:=(A_ wc _).drew.drew;obtain⟨y2,y0,y1,a1,yz⟩:=I.o _ j u l;replace L:=zy L;replace l:=zy l;replace a1:=zy a1;refine td_ ?_ _;go_wp2;go_cut [] (λV=>∃A,H_ (TbI P (IU kv Q num N) ⟨fb,tb,mb,.func (.func 52) #[] #[],.func (.func fn) #[fa] #[]⟩ V r A g (T++[⟨a,[.iface uT ux,.iface uT' ux'],0,.nilIface⟩])/\Stp W V (TSS P ⟨fb,tb,mb,.func (.func 52) #[] #[],.func (.func fn) #[fa] #[]⟩ (.slice G M H) r) (TSS P ⟨fb,tb,mb,.func (.func 52) #[] #[],.func (.func fn) #[fa] #[]⟩ A r)/\Blk V (W.heap.size+1) [O_,.nilIface] 85/\¬TSS P ⟨fb,tb,mb,.func (.func 52) #[] #[],.func (.func fn) #[fa] #[]⟩ A r (W.heap.size+1)));case first=>
   refine tr_ 11 (λV=>z_ V tb 2 (.slice G M H)/\z_ V W.heap.size 0 (.iface uT ux)/\z_ V W.heap.size 1 (.iface uT' ux')) ?_;refine tz_ 0 ?_;refine tz_ 1 ?_;refine tz_ 2 ?_;refine tz_ 3 ?_;refine tz_ 4 ?_;refine tz_ 5 ?_;refine tz_ 6 ?_;have E:=λo=>(A_ j N_).drew.alloc o;refine t1_ 7 ⟨y2,y0,y1⟩ ?_;refine zh 8 rfl K_ (λ_=>⟨(E _).ke y2,(E _).ke y0,(E _).ke y1⟩) (λK p=>?_);rw[i_ (show Region.wanted _ _=true by kernel_rfl)];refine Uq _ _ rfl (B:=fb+1) (v:=.slice G M H) (c0:=.iface uT ux) (c1:=.iface uT' ux') (c2:=O_) (c3:=.nilIface) (w:=j.drew) (zj a1 (A_ j N_).drew u_) hT yz rfl rfl rfl rfl rfl rfl rfl ?_;intro A C o5 X l5;go_simp;refine p _ _ ?_;have c5:=λf3=>a3.o _ j _ C u l f3 X;obtain⟨z2,p,z0,z1⟩:=c5 xx_;have hp:=λf3=>push.o _ j _ C A u L l f3 X o5 l5;have d8:=zy (hp xx_);obtain⟨j,j,rfl⟩:=zg o5 M_;refine t1_ 9 ⟨z2,z0,z1⟩ ?_;refine t1_ 10 ⟨z2,z0,z1⟩ ?_;refine t1_ 11 ⟨z2,z0,z1⟩ ?_;refine td_ ?_ _;go_wp2;go_meet;exact⟨_,zy (d8.o _ xx_)⟩
  case rest=>
   obtain⟨A,hp⟩:=hcut;go_wp2_with (go_at_call 55;apply(hL.o _ _ hp.o.1).mono;rintro e w7 ⟨r7,j,g7,T7,rfl,h7,s7,l7⟩;rw[<- hM.o]at l7;obtain⟨G7,y,hy,b6⟩:=l7.grw;have U:=s7.1.bl hp.o.2.2.1 hp.o.2.2.2;obtain⟨j,j,j,u8,rfl,-,-,-,j,e2,-,-⟩:=h7.cellsU hy;have l:(M:Int)<(T7.length:Int):=(by have:=(ak_.1 hy).1;rw[hM.o]at this;omega);rw[hM.o]at j e2;have d2:=h7.t.b.c2;have q0:=U.c0;have q1:=U.c1;have t0:=U.th 0;have t1:=U.th 1;have j:=λW a m=>run_store prog W a y.d m ((h7.t.q y (ai_ hy)).2.2.2).one;have B8:Blk ((w7.setCell ⟨W.heap.size+1,0,none⟩ (I_ y.n)).setCell ⟨W.heap.size+1,1,none⟩ y.d) (W.heap.size+1) [I_ y.n,y.d] 85:=(U.set 0 _).set 1 _;have r0:=B8.c0;have r1:=B8.c1;have d6:=zy (λV1=>fin.o w7 r7 _ g7 T7 y V1 h7 (hp.o.2.1.trans s7) G7 (ai_ hy) b6 U);have F7:=zy (J_ w7 (W.heap.size+1) 0 1 (I_ y.n) y.d);generalize y.n=yn at *;generalize y.d=yd at *;generalize T7.length=M7 at *);refine bodyPost_ret (v:=.agg #[I_ yn,yd]) (by simp[results,results54,go_sem,r0,r1]) rfl ?_;exact d6.o _ (by first|exact F7.o|exact F7.o.drew)
def Gl(kv:α->Value)(a:α)(v:Ay):Prop:=∃uT ux uT' ux' k k',v=[.iface uT ux,.iface uT' ux']/\kv a=.agg #[Z_ ((k:Nat):Int),Z_ ((k':Nat):Int)]/\k<=1000000/\k'<=1000000/\(∀W,(method 553 uT ux "Place").run prog W=.ok (72,I_ k) W)/\∀W,(method 553 uT' ux' "Place").run prog W=.ok (72,I_ k') W
def prV(v:Ay):Value:=.agg v.toArray
def mM{r:ρ}{T:List (Rw α)}{a:α}{v:Ay}(c:P.OK (IU kv Q num N) ⟨fb,tb,mb,.func (.func 52) #[] #[],.func (.func fn) #[fa] #[]⟩)(f:∀W a v,P.QV W a v->Gl kv a v)(h:TbI P (IU kv Q num N) ⟨fb,tb,mb,.func (.func 52) #[] #[],.func (.func fn) #[fa] #[]⟩ W r rv g T)(hv:P.QV W a v)(ha:a∈T.map Rw.a):Calls prog 54 #[P_ tb,prV v] W (tZ P (IU kv Q num N) ⟨fb,tb,mb,.func (.func 52) #[] #[],.func (.func fn) #[fa] #[]⟩ W r rv g T a):=by
 obtain⟨uT,ux,uT',ux',k,k',rfl,hk,d,e,hm,j⟩:=f W a v hv;obtain⟨x,l,rfl⟩:=a7_.1 ha;obtain⟨i,hi⟩:=bw_ l;obtain⟨kl,f⟩:=lJ d e;exact Yi c h hi hk f hm j
def ng{m:Nat}(Iok:(IU kv Q num N).OK)(O:P.OK (IU kv Q num N) ⟨fb,tb,mb,.func (.func 52) #[] #[],.func (.func fn) #[fa] #[]⟩)(hfn:∀args W,(callFunc fn args).run prog W=.ok (.enter fn args) W)(hq:∀W a v,P.QV W a v->Gl kv a v)(hN:N<=1000000)(hF:∀m',m=m'+1->FOK P (IU kv Q num N) ⟨fb,tb,mb,.func (.func 52) #[] #[],.func (.func fn) #[fa] #[]⟩ fn fa prV m'):KOK P (IU kv Q num N) ⟨fb,tb,mb,.func (.func 52) #[] #[],.func (.func fn) #[fa] #[]⟩ 54 prV m:=by
 have cc1:=Nat
 exact cq21_
end
section
variable {α ρ:Type} {P:TP α ρ} {kv:α->Value} {Q:α->Prop} {num:α->Nat} {N fb tb mb:Nat} {kf ff:Ax}
def Kj{W:Aw}{r:ρ}{rv:Ax}{T:List (Rw α)}{a:α}{uT uT':Av}{ux ux':Ax}(a3:(IU kv Q num N).OK)(z:P.OK (IU kv Q num N) ⟨fb,tb,mb,kf,ff⟩)(h:TbI P (IU kv Q num N) ⟨fb,tb,mb,kf,ff⟩ W r rv false T)(hG:Gd P.Cl T)(hq:P.QV W a [.iface uT ux,.iface uT' ux'])(hN:N<=1000000)(hK:∀V,Fr W V N_->Calls prog 54 #[P_ tb,.agg #[.iface uT ux,.iface uT' ux']] V (ju P (IU kv Q num N) ⟨fb,tb,mb,kf,ff⟩ V r rv false T a))(a1:∀V r rv g T,TbI P (IU kv Q num N) ⟨fb,tb,mb,kf,ff⟩ V r rv g T->P.QV V a [.iface uT ux,.iface uT' ux']->a∈T.map Rw.a->Calls prog 54 #[P_ tb,.agg #[.iface uT ux,.iface uT' ux']] V (tZ P (IU kv Q num N) ⟨fb,tb,mb,kf,ff⟩ V r rv g T a))(hL:∀V r rv g T i x,TbI P (IU kv Q num N) ⟨fb,tb,mb,kf,ff⟩ V r rv g T->T[i]?=some x->Calls prog 55 #[P_ tb,Z_ ((i:Nat):Int)] V (cm P (IU kv Q num N) ⟨fb,tb,mb,kf,ff⟩ V r rv g T i)):Calls prog 30 #[P_ tb,.agg #[.iface uT ux,.iface uT' ux']] W (cg P (IU kv Q num N) ⟨fb,tb,mb,kf,ff⟩ W r rv a):=by
 obtain⟨a7,Q_⟩:=y_ (cg P (IU kv Q num N) ⟨fb,tb,mb,kf,ff⟩ W r rv a);rw[<- Q_.o];obtain⟨l,E⟩:=e_ (W.alloc (.cells #[.iface uT ux,.iface uT' ux'] 92));have O:Fr W l N_:=by rw[E];exact(A_ W _).alloc _
 have Bb:Blk l W.heap.size [.iface uT ux,.iface uT' ux'] 92:=by rw[E];exact B_ W _ _
 have zb:l.heap.size=W.heap.size+1:=by rw[E,zm]
 have a4:∀x,TSS P ⟨fb,tb,mb,kf,ff⟩ rv r x->fb<x/\x<W.heap.size:=λx e=>h.li z e;replace h:=h.new z O;replace hq:=z.qv _ _ _ _ _ hq O (λ_ f=>f.elim);obtain⟨w1,Y⟩:=e_ ((W.alloc (.cells #[.iface uT ux,.iface uT' ux'] 92)).alloc (.cells #[O_,.nilIface] 85));have A1:Fr l w1 N_:=by rw[Y,E];exact(A_ _ _).alloc _
 have B1:Blk w1 l.heap.size [O_,.nilIface] 85:=by rw[Y,E];exact B_ _ _ _
 have B0:=A1.bl Bb id;have p0:=B0.c0;have p1:=B0.c1;have a9:=zy (hK w1 (O.trans A1 u_));have X:∀x,TSS P ⟨fb,tb,mb,kf,ff⟩ rv r x->fb<x/\x<l.heap.size:=λx e=>h.li z e;have a0:fb<tb/\tb<l.heap.size:=X tb (.inl (.inl rfl));have few:H_ (∀V r rv g (T:List (Rw α)),TbI P (IU kv Q num N) ⟨fb,tb,mb,kf,ff⟩ V r rv g T->T.length<=N):=zy (λ_ _ _ _ _ h=>wL a3 h.t.nd (λx hx=>(h.t.q x hx).1));have start:H_ (∀L r' rv' g' T' (x:Rw α),x∈T'->x.a=a->TbI P (IU kv Q num N) ⟨fb,tb,mb,kf,ff⟩ L r' rv' g' T'->Stp w1 L (TSS P ⟨fb,tb,mb,kf,ff⟩ rv r) (TSS P ⟨fb,tb,mb,kf,ff⟩ rv' r')->Grw P.Cl T T' false g'->wa P (IU kv Q num N) ⟨fb,tb,mb,kf,ff⟩ l r rv a L r' rv' g' T'/\(g'=false->Gd P.Cl T')):=zy (λL r' rv' g' T' x c Z G H k5=>by
  have hb:=H.1.bl B1 (λe=>absurd (X _ e).2 (a5_ _))
  refine⟨⟨G,(C_ A1 (λ_ h=>h)).trans H,a7_.2 ⟨x,c,Z⟩,hb,λe=>absurd (X _ (H.2 _ B1.lt e)).2 (a5_ _)⟩,λe y hy=>?_⟩
  obtain⟨R,rfl,_,_,h3⟩:=k5
  rcases a4_.1 hy with hy|hy
  .exact(hG y hy).more z.mono R
  .exact h3 e y hy)
 have step:H_ (∀V r' rv' g' T' V2 I J D A i,wa P (IU kv Q num N) ⟨fb,tb,mb,kf,ff⟩ l r rv a V r' rv' g' T'->TbI P (IU kv Q num N) ⟨fb,tb,mb,kf,ff⟩ V2 I J D A->Stp V V2 (TSS P ⟨fb,tb,mb,kf,ff⟩ rv' r') (TSS P ⟨fb,tb,mb,kf,ff⟩ J I)->Lk P.Cl T' A g' D i->wa P (IU kv Q num N) ⟨fb,tb,mb,kf,ff⟩ l r rv a V2 I J D A):=zy (λV r' rv' g' T' V2 I J D A i c Z G H=>
  ⟨Z,c.s.trans G,H.mem c.a,G.1.bl c.b c.n,λe=>c.n (G.2 _ c.b.lt e)⟩)
 have flag:H_ (∀V r' rv' g' T' u,wa P (IU kv Q num N) ⟨fb,tb,mb,kf,ff⟩ l r rv a V r' rv' g' T'->wa P (IU kv Q num N) ⟨fb,tb,mb,kf,ff⟩ l r rv a (V.setCell ⟨tb,4,none⟩ (.bool u)) r' rv' u T'):=zy (λV r' rv' g' T' u c=>by
  have U:Fr V (V.setCell ⟨tb,4,none⟩ (.bool u)) (TbS tb mb rv'):=(X_ V ⟨tb,4,none⟩ (.bool u)).mono (λx _ e=>.inl e)
  have h3:=c.i.turn z (rv':=rv') ⟨U,λ_ _ h=>h⟩ (c.i.t.flag a3 u) (λy hy=>.inl hy)
  exact⟨h3.1,c.s.trans h3.2,c.a,U.bl c.b (λe=>c.n (.inl e)),c.n⟩)
 have fin:H_ (∀V r' rv' T' (y:Rw α) V1,wa P (IU kv Q num N) ⟨fb,tb,mb,kf,ff⟩ l r rv a V r' rv' false T'->Gd P.Cl T'->y∈T'->y.a=a->∀S,TbI P (IU kv Q num N) ⟨fb,tb,mb,kf,ff⟩ S r' rv' false T'->Stp V S (TSS P ⟨fb,tb,mb,kf,ff⟩ rv' r') (TSS P ⟨fb,tb,mb,kf,ff⟩ rv' r')->V1=(S.setCell ⟨W.heap.size+1,0,none⟩ (I_ y.n)).setCell ⟨W.heap.size+1,1,none⟩ y.d->a7 (.returned (.agg #[I_ y.n,y.d])) V1):=zy (λV r' rv' T' y V1 c Z G H S k5 k6 k7=>by
  rw[Q_.o,k7]
  have U:=J_ S (W.heap.size+1) 0 1 (I_ y.n) y.d
  have hb:=k6.1.bl c.b c.n
  rw[zb]at hb
  have st:=(C_ O (λ_ h=>h)).trans (c.s.trans k6)
  exact⟨r',rv',T',y,rfl,G,H,k5.put z yr_ hb U,⟨st.1.trans U (λy hy e=>M_),st.2⟩,Z⟩)
 have qv:H_ (∀V r' rv' g' T',wa P (IU kv Q num N) ⟨fb,tb,mb,kf,ff⟩ l r rv a V r' rv' g' T'->P.QV V a [.iface uT ux,.iface uT' ux']):=zy (λV r' rv' g' T' k=>z.qv _ _ _ _ _ hq k.s.1 (λx hx=>(X x hx).1));have pb:H_ (∀V r' rv' g' T',wa P (IU kv Q num N) ⟨fb,tb,mb,kf,ff⟩ l r rv a V r' rv' g' T'->V.cell? ⟨W.heap.size,0,none⟩=some (.iface uT ux)/\V.cell? ⟨W.heap.size,1,none⟩=some (.iface uT' ux')):=zy (λV r' rv' g' T' k=>by
  have b:=k.s.1.bl Bb (λe=>absurd (a4 _ e).2 (a5_ _))
  exact⟨b.cell 0,b.cell 1⟩)
 replace a1:=zy a1;replace hL:=zy hL;replace Y:=zy Y;replace E:=zy E;replace zb:=zy zb;go_in;go_upto_region 1 with fail;rw[<- Y.o];go_wp2_with (go_at_call 54;apply a9.o.mono;rintro e L ⟨I,J,D,A,x2,rfl,x3,x4,h2,s2,G2⟩;obtain⟨S2,H2⟩:=start.o L I J D A x2 x3 x4 h2 s2 G2;replace S2:=zy S2;replace H2:=zy H2);go_loopg [] (phi N A+1) (λm V=>∃r' rv' g' T',H_ (wa P (IU kv Q num N) ⟨fb,tb,mb,kf,ff⟩ l r rv a V r' rv' g' T')/\H_ (g'=false->Gd P.Cl T')/\(g'=true->phi N T'<m));case atStart=>exact⟨I,J,D,A,S2,H2,λ_=>M_⟩
 case round=>
  obtain⟨r3,b5,g3,C,p,H3,a2⟩:=hrel;have c4:=p.o.i.t.b.c4;have t4:=p.o.i.t.b.th 4;cases g3
  .have a6:=zy (H3.o rfl);obtain⟨p0,p1⟩:=pb.o _ _ _ _ _ p;go_wp2_with (go_at_call 54;apply(a1.o _ _ _ _ _ p.o.i (qv.o _ _ _ _ _ p) p.o.a).mono;rintro e w5 ⟨y,rfl,y1,y2,h5,s5⟩;have B:=s5.1.bl p.o.b p.o.n;rw[zb.o]at B;have q0:=B.c0;have q1:=B.c1;have z0:=B.th 0;have z1:=B.th 1;have s1:=λW a m=>run_store prog W a y.d m ((h5.t.q y y1).2.2.2).one;have B8:Blk ((w5.setCell ⟨W.heap.size+1,0,none⟩ (I_ y.n)).setCell ⟨W.heap.size+1,1,none⟩ y.d) (W.heap.size+1) [I_ y.n,y.d] 85:=(B.set 0 _).set 1 _;have x0:=B8.c0;have x1:=B8.c1;have a8:=zy (λV1=>fin.o _ r3 b5 C y V1 p a6 y1 y2 w5 h5 s5);generalize y.n=yn at *;generalize y.d=yd at *);refine bodyPost_ret (v:=.agg #[I_ yn,yd]) (by simp[results,results30,go_sem,x0,x1]) rfl ?_;exact a8.o _ rfl
  .have hm:=a2 rfl;have S4:=zy (flag.o _ _ _ _ _ false p);obtain⟨ra,rc,rfl⟩:=zw p.o.i.t.row;have c2:=S4.o.i.t.b.c2;have b6:=few.o _ _ _ _ _ S4.o.i;have a5:H_ (SIn P.Cl N C.length 0 (phi N C) false C):=zy ⟨l_,l_,λe=>yj_,λ_ i x hx hi=>by
    have:=(ak_.1 hx).1
    omega⟩
   generalize hM:C.length=M at *;replace hM:=zy hM;go_wp2;go_loopg [21] (M+1) (λm v V=>∃j:Nat,∃r' rv' g' T',v=I_ j/\j<=M/\M+1-j<=m/\H_ (wa P (IU kv Q num N) ⟨fb,tb,mb,kf,ff⟩ l r rv a V r' rv' g' T')/\H_ (SIn P.Cl N M j (phi N C) g' T'));case atStart=>exact⟨0,_,_,_,_,rfl,am_ _,M_,S4,a5⟩
   case round=>
    obtain⟨j,r5,b8,g5,T5,rfl,hj,b7,S5,I5⟩:=hrel;by_cases a0:j<M
    .have b4:(j:Int)<(M:Int):=M_;obtain⟨x,hx⟩:∃x,T5[j]?=some x:=⟨_,aj_ (bl_ a0 I5.o.1)⟩;replace hx:=zy hx;go_wp2_with (go_at_call 55;apply(hL.o _ _ _ _ _ j x S5.o.i hx).mono;rintro e w6 ⟨r6,b9,g6,T6,rfl,h6,s6,l6⟩;have S6:=zy (step.o _ _ _ _ _ _ _ _ _ _ _ S5 h6 s6 l6);have I6:=zy (I5.o.step z.mono l6 (few.o _ _ _ _ _ h6) (λy hy=>(S5.o.i.t.q y hy).2.2.1) (λy hy=>(h6.t.q y hy).2.2.1)));go_roundg (M+1-(j+1));case measure=>omega
     case rel=>exact⟨j+1,_,_,_,_,by simp,a0,l_,S6,I6⟩
    .have b4:¬((j:Int)<(M:Int)):=M_;obtain rfl:j=M:=M_;have nx:H_ (g5=false->Gd P.Cl T5):=zy (λe y hy=>by
      obtain⟨i,hi⟩:=bw_ hy
      exact I5.o.2.2.2 e i y hi M_)
     have B:=I5.o.2.2.1;go_wp2;go_roundg (phi N C);case measure=>exact hm
     case rel=>exact⟨_,_,_,_,S5,nx,B⟩
end
def FX.cell5(h:FX F W):W.cell? ⟨F.fb,5,none⟩=some (P_ F.tu):=h.b.cell 5
def Zt(H:F.OK){r:By}{uv:Ax}{T:Ah}{p m:Nat}{l:Af}{y:PT}{bT:Av}{bx:Ax}{X:Ai}(hK:KOK (uT F) (uI F) (uL F) 54 prV m)(h:TbI (uT F) (uI F) (uL F) W r rv g T)(ho:W.ownsRow 0 46 1 uv l.length ((List.range l.length).map X))(hP:∀g,uv.ownBlock=some g->F.P g)(hX:∀i t,l[i]?=some t->TyV W F.P t (X i))(hy:TyV W F.P' y (.iface bT bx))(hq:okQ F (.ty (.alts p l)))(hqy:okY F y)(hm:90000<=T.length+m):Calls prog 159 #[P_ F.fb,.agg #[uv,.iface bT bx]] W (yB (uT F) (uI F) (uL F) W r rv g T (.alts p l,y)):=by
 have cc1:=Nat
 exact cq1_
end Go.Proofs.YtokgeopihcopeaaGreatDoor
