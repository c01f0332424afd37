import Derived.Test.YtamhgejdkclmdaaGreatDoorW26
import Derived.WideKeyPair
import Derived.DeepKeys4
set_option maxHeartbeats 16000000
set_option maxRecDepth 100000
set_option linter.defProp false
set_option linter.unusedSimpArgs false
set_option linter.unusedVariables false
open Go.Proofs.Tryz
namespace Go.Proofs.YtamhgejdkclmdaaGreatDoor
open Go.RowKit
variable {W:Aw}{rv ux ux':Ax}{g:Ar}{kl:Lit}{uT':Av}{i b k k':Nat}
section
variable {α ρ:Type} {P:TP α ρ} {kv:α->Value} {Q:α->Prop} {num:α->Nat} {N fb tb mb:Nat} {kf:Ax} {fn:Et} {fa:Ax}
def TbI.cellsU{r:ρ}{T:List (Rw α)}{L:TL}(h:TbI P (IU kv Q num N) L W r rv g T){x:Rw α}(hx:T[i]?=some x):∃b j u u',rv=S_ b T.length j/\x.v=[u,u']/\W.cell? ⟨b,i*4,none⟩=some u/\W.cell? ⟨b,i*4+1,none⟩=some u'/\W.cell? ⟨b,i*4+2,none⟩=some (I_ x.n)/\W.cell? ⟨b,i*4+2+1,none⟩=some x.d/\W.frozen? ⟨b,i*4+2,none⟩=false/\W.frozen? ⟨b,i*4+2+1,none⟩=false:=by
 obtain⟨b,j,e,h1⟩:=h.t.cell hx;have hl:x.v.length=2:=(h.t.q x (ag_ hx)).2.1;obtain⟨u,u',hu⟩:∃u u',x.v=[u,u']:=by
  match hv:x.v,hl with
  | [u,u'],_=>exact⟨u,u',rfl⟩
 have l:=h1 0 (by show 0<2+2;omega);have m:=h1 1 (by show 1<2+2;omega);have c:=h1 2 (by show 2<2+2;omega);have f:=h1 3 (by show 3<2+2;omega);simp only[Rw.cells,hu]at l m c f;exact⟨b,j,u,u',e,hu,l.1,m.1,c.1,f.1,c.2,f.2⟩
def Bz{r:ρ}{T:List (Rw α)}{x:Rw α}(G:(IU kv Q num N).OK)(j:P.OK (IU kv Q num N) ⟨fb,tb,mb,kf,.func (.func fn) #[fa] #[]⟩)(hB:∀(w:World) (n m:Nat) (dv kv:Value),Calls prog 172 #[.agg #[I_ n,dv],.agg #[I_ m,kv]] w λe w'=>e=.returned (.bool (btr n m))/\Fr w w' N_)(b5:∀a2 W,(callFunc fn a2).run prog W=.ok (.enter fn a2) W)(h:TbI P (IU kv Q num N) ⟨fb,tb,mb,kf,.func (.func fn) #[fa] #[]⟩ W r rv g T)(hx:T[i]?=some x)(C:∀W' u u',Fr W W' N_->x.v=[u,u']->Calls prog fn #[fa,.agg #[u,u']] W' (yG P (IU kv Q num N) ⟨fb,tb,mb,kf,.func (.func fn) #[fa] #[]⟩ W' r rv g T x.a)):Calls prog 54 #[P_ tb,I_ i] W (cg P (IU kv Q num N) ⟨fb,tb,mb,kf,.func (.func fn) #[fa] #[]⟩ W r rv g T i):=by
 obtain⟨a1,H⟩:=y_ (cg P (IU kv Q num N) ⟨fb,tb,mb,kf,.func (.func fn) #[fa] #[]⟩ W r rv g T i);rw[<- H.o];obtain⟨b,a3,u,u',rfl,hu,O,S,e1,e2,-,-⟩:=h.cellsU hx;have hi:=(ai_.1 hx).1;have b7:(i:Int)<(T.length:Int):=M_;have c1:=h.t.b.c1;have c2:=h.t.b.c2;have U:=zy (λW' hW=>C W' u u' hW hu);replace h:=zy h;replace hx:=zy hx;replace hB:=zy hB;go_in;go_upto_region 0 with fail;go_cut [4] (λv V=>∃q r' rv' g' T' n d,v=P_ q/\H_ (LkM P (IU kv Q num N) ⟨fb,tb,mb,kf,.func (.func fn) #[fa] #[]⟩ W r (S_ b T.length a3) g T x.a q r' rv' g' T' n d V));case first=>
  refine tr_ 12 (λV=>z_ V tb 1 (.func (.func fn) #[fa] #[])/\z_ V tb 2 (S_ b T.length a3)/\z_ V b (i*4) u/\z_ V b (i*4+1) u') ?_;refine tB_ 0 [1,2,3,12] ?_;refine tB_ 1 [2,3,12] ?_;refine tB_ 2 [3,12] ?_;refine tB_ 3 [12] ?_;refine tB_ 4 [5,6,7,9,10,11,12] ?_;refine tB_ 5 [6,7,9,10,11,12] ?_;refine tB_ 6 [7,9,10,11,12] ?_;refine tB_ 7 [9,10,11,12] ?_;refine tB_ 8 [9,10,11,12] ?_;refine tB_ 9 [10,11,12] ?_;refine tB_ 10 [11,12] ?_;refine tB_ 11 [12] ?_;refine jV 12 13 rfl rfl K_ (λ_=>⟨c1,c2,O,S⟩) (λK p=>?_) (λK p=>?_)
  .go_simp;apply(U.o _ (A_ W _).drew).mono;rintro e w1 ⟨r',rv',g',T',n,d,rfl,hn,hd,c,hs,hg,hc,hv⟩;refine p _ _ ?_;have sD:=λW a m=>run_store prog W a d m hd.one;have F:=(A_ w1 N_).alloc (.cells #[I_ n,d] 93);have fin:=zy (LkM.new j h (A_ W _).drew hn hd (c.new j F) (hs.trans (E_ F (λ_ h=>h))) hg hc (j.sv _ _ _ _ _ _ _ hv (E_ F (λ_ h=>h))) (B_ w1 #[I_ n,d] 93) hs.1.size);refine t0_ 13 ?_;refine t0_ 14 ?_;refine td_ ?_ _;go_wp2;go_meet;exact⟨_,_,_,_,_,_,_,rfl,fin⟩
  .go_simp;refine p _ _ ?_;have s:=(A_ W N_).alloc (.cells #[O_,.nilIface] 93);have Z:=B_ W #[O_,.nilIface] 93;have A:=((h.o.t.new s).b.cell 1);have B:=((h.o.t.new s).b.cell 2);have f0:(W.alloc (.cells #[O_,.nilIface] 93)).cell? ⟨b,i*4,none⟩=some u:=by
    have:=s.block b (h.o.t.li (x:=b) (.inr (.inr rfl))).2 id;rw[World.cell?_of_block this];exact O
   have f9:(W.alloc (.cells #[O_,.nilIface] 93)).cell? ⟨b,i*4+1,none⟩=some u':=by
    have:=s.block b (h.o.t.li (x:=b) (.inr (.inr rfl))).2 id;rw[World.cell?_of_block this];exact S
   simp only[aa_,ab_]at A B;refine zh 12 rfl K_ (λ_=>⟨A,B,f0,f9⟩) (λK p=>?_);go_simp;apply(U.o _ s.drew).mono;rintro e w1 ⟨r',rv',g',T',n,d,rfl,hn,hd,c,hs,hg,hc,hv⟩;refine p _ _ ?_;have sD:=λW a m=>run_store prog W a d m hd.one;have z:Blk w1 W.heap.size [O_,.nilIface] 93:=hs.1.bl Z.drew (λe=>absurd (h.o.li j e).2 (a5_ _));have fin:=zy (LkM.of j h s.drew hn hd c hs hg hc hv z l_);have k0:=z.c0;have k1:=z.c1;have t0:=z.th 0;have t1:=z.th 1;refine t0_ 14 ?_;refine td_ ?_ _;go_wp2;go_meet;exact⟨_,_,_,_,_,_,_,rfl,fin⟩
 case rest=>
  obtain⟨q,r',rv',g',T',n,d,rfl,hM⟩:=hcut;obtain⟨hn,hd,c,hs,hg,hc,hv,hb,hq,b6⟩:=hM.o;obtain⟨R,rfl,g1,g2,g3⟩:=hg;have E:(T++R)[i]?=some x:=by rw[aq_ hi];exact hx
  obtain⟨l,L,z1,z2,rfl,hu,a0,a9,I,J,A,B⟩:=c.cellsU E;have b8:(i:Int)<((T++R).length:Int):=by rw[ah_];omega
  have a7:=((c.t.q x (ag_ E)).2.2.2).one;have c2:=c.t.b.c2;have t4:=c.t.b.th 4;have c4:=c.t.b.c4;have X:=hb.c0;have Y:=hb.c1;have s1:=λW a m=>run_store prog W a d m hd.one;have b4:=rD;have a6:l≠tb:=λe=>(c.t.apart G).2.1 zn_;have b9:=Ne.symm a6;have no:H_ (∀V,Fr wc V N_->btr n x.n=false->a1 (.returned (.tuple #[])) V):=zy (λV D e=>by
   rw[H.o]
   exact⟨r',_,g',T++R,rfl,c.new j D,hs.trans (E_ D (λ_ h=>h)),R,g1,.inl ⟨rfl,g2,λe'=>⟨g3 e',λy hy=>by rw[hx.o]at hy;cases hy;exact⟨n,hc,e⟩⟩⟩⟩)
  have a8:H_ (∀V,Fr wc V N_->btr n x.n=true->a1 (.returned (.tuple #[])) (((V.setCell ⟨l,i*4+2,none⟩ (I_ n)).setCell ⟨l,i*4+2+1,none⟩ d).setCell ⟨tb,4,none⟩ (.bool true)).drew):=zy (λV D e=>by
   have h1:=c.new j D
   have h2:=((h1.t.set G E hn hd).flag G true).new (A_ _ _).drew
   have C:Fr V (((V.setCell ⟨l,i*4+2,none⟩ (I_ n)).setCell ⟨l,i*4+2+1,none⟩ d).setCell ⟨tb,4,none⟩ (.bool true)).drew (TbS tb mb (S_ l (T++R).length L)):=(((J_ V l _ _ _ _).mono (λx _ e=>.inr (.inr zn_))).setCell _ _ (λ_=>.inl rfl)).drew
   have h3:=h1.turn j (rv':=S_ l (T++R).length L) ⟨C,λ_ _ h=>h⟩ h2 (λy hy=>by
    rcases List.mem_or_eq_of_mem_set hy with hy|rfl
    .exact .inl hy
    .refine .inr ⟨j.sv _ _ _ _ _ _ _ (j.sv _ _ _ _ _ _ _ hv (E_ D (λ_ h=>h))) ⟨C.mono (λ_ _ e=>.inl e),λ_ _ h=>h⟩,?_⟩
     exact j.qv _ _ _ _ _ (h1.v x (ag_ E)).2 C (λy hy=>(h1.t.li hy).1))
   rw[H.o]
   exact⟨r',_,true,_,rfl,h3.1,(hs.trans (E_ D (λ_ h=>h))).trans h3.2,R,λ_=>rfl,.inr ⟨rfl,x,n,d,hx,e,hn,rfl⟩⟩)
  generalize x.n=xn at *;generalize x.d=xd at *;generalize (T++R).length=M at *;go_wp2;refine tr_ 10 (λV=>z_ V tb 2 (S_ l M L)/\z_ V q 0 (I_ n)/\z_ V q 1 d/\z_ V l (i*4+2) (I_ xn)/\z_ V l (i*4+2+1) xd) ?_;refine tB_ 0 [1,10] ?_;refine tB_ 1 [10] ?_;refine tB_ 2 [3,4,5,7,8,9,10] ?_;refine tB_ 3 [4,5,7,8,9,10] ?_;refine tB_ 4 [5,7,8,9,10] ?_;refine tB_ 5 [7,8,9,10] ?_;refine tB_ 6 [7,8,9,10] ?_;refine tB_ 7 [8,9,10] ?_;refine tB_ 8 [9,10] ?_;refine tB_ 9 [10] ?_;refine zh 10 rfl K_ (λ_=>⟨c2,X,Y,I,J⟩) (λK p=>?_);go_simp;apply(hB.o _ n xn d xd).mono;rintro e w2 ⟨rfl,a5⟩;refine p _ _ ?_;have f:Fr wc w2 N_:=(A_ wc _).drew.trans a5 u_;have x1:=f.keepF I A;have x2:=f.keepF J B;have x3:=f.keepF c4 t4;have k2:=f.ke c2;have k4:=f.ke c4;have p0:=f.ke X;have p1:=f.ke Y;replace I:=f.ke I;replace J:=f.ke J;replace f:=zy f;refine td_ ?_ _;cases a4:btr n xn
  .go_wp2;go_end0;exact no.o _ f a4
  .go_wp2;refine tr_ 8 (λV=>z_ V tb 2 (S_ l M L)/\z_ V q 0 (I_ n)/\z_ V q 1 d) ?_;refine tz_ 0 ?_;refine tz_ 1 ?_;refine tz_ 2 ?_;refine tz_ 3 ?_;refine tz_ 4 ?_;refine tz_ 5 ?_;refine tB_ 6 [7,8] ?_;refine tz_ 7 ?_;refine t1_ 8 ⟨k2,p0,p1⟩ ?_;refine td_ ?_ _;go_wp2;go_end0;exact a8.o _ f a4
end
def Wr:laidOutB prog=true:=K_
def PH:WideMaps.ArrKey prog 101 3 2:=⟨K_,K_,K_,K_⟩
def QH:Tryz.prog.underlying 135=some (.map 101 3):=K_
def GH:Tryz.prog.underlying 134=some (.slice 240):=K_
def Us:(Tryz.prog.info? 240).map (λi=>(i.zero,i.size,i.bytes))=some (some (.agg #[.nilIface,.nilIface,O_,.nilIface]),4,56):=K_
def fE:Maps.Keyed prog 101:=Maps.Keyed.of_law (deep_law_laid Wr (m:=2) M_ (of_decide_eq_true K_) K_ (by rw[PH.hu]))
def lW{a:Nat}(ha:a<=1000000)(hb:b<=1000000):∃l,keyOf prog 101 (.agg #[I_ a,I_ b])=some l:=
 ⟨_,WideMaps.keyOf_pair PH qJ ⟨445-1,K_⟩ (WalkArith.wf_i64 M_) (WalkArith.wf_i64 M_)⟩
def Ky{s:BA}{t t':PT}(h:wG s t)(c:wG s t')(e:t.place=t'.place):t=t':=by
 obtain⟨j,h1⟩:=h;obtain⟨j',d⟩:=c;rw[e,d]at h1;cases h1;rfl
def Xs{F:FD}(c:F.OK):(uI F).OK:=by
 have lt:∀a,uQ F a->a.1.place<300/\a.2.place<300:=λa ha=>by
  have h1:=lG ha.1.1;have d:=lG ha.2.1;have:=c.hs;have:=c.hs';omega
 have inj:∀a b,uQ F a->uQ F b->a.1.place=b.1.place->a.2.place=b.2.place->a=b:=λa b ha hb e e'=>Prod.ext (Ky ha.1.1 hb.1.1 e) (Ky ha.2.1 hb.2.1 e');refine⟨by show 137≠240;decide,fE,λa ha=>lW (by have:=lt a ha;omega) (by have:=lt a ha;omega),λa b ha hb e=>?_,λa ha=>?_,λa b ha hb e=>?_⟩
 .have e':Value.agg #[I_ a.1.place,I_ a.2.place]=.agg #[I_ b.1.place,I_ b.2.place]:=e;simp only[Value.agg.injEq,Array.mk.injEq,List.cons.injEq,Value.int.injEq,true_and,and_true]at e';exact inj a b ha hb M_ M_
 .have:=lt a ha;show a.1.place*300+a.2.place<90000;omega
 .have h1:=lt a ha;have d:=lt b hb;have e':a.1.place*300+a.2.place=b.1.place*300+b.2.place:=e;exact inj a b ha hb M_ M_
section
variable {o:De} {a:Act} {K:Ce} {Q:Aa} {w:Aw}
def XW(m x:Operand)(ho:o.op=Op.lookup 135 m x true){n:Nat}{D:DataW Unit}{key:Ax}(hm:a.eval m=.map (some b))(e:w.ownsMap prog 101 (plainElem prog 3) b n D)(hx:a.eval x=key)(d:keyOf prog 101 key=some kl)(h:∀c:Int,D.atKey kl (.lit (.int .i64 0))=.lit (.int .i64 c)->K (a.put o.dst (.tuple #[.int .i64 c,.bool (Maps.has D kl)])) w):o.wp prog a w K Q:=by
 obtain⟨v,l,f,hv⟩:=e.look_ok fE QH (QX w) (plainElem_int qJ D_) d;obtain⟨c,rfl,hc,j⟩:=plainElem_int_inv qJ hv;unfold Oper.wp;simp[execOp,ho,hm,hx,f,Result.andThen];exact h c (congrArg Prod.fst hc)
def Ux(m x v:Operand)(ho:o.op=Op.mapUpdate 135 m x v){n:Nat}{D:DataW Unit}{key:Ax}{z:Nat}(hm:a.eval m=.map (some b))(d:w.ownsMap prog 101 (plainElem prog 3) b n D)(hn:n<=1000000)(hx:a.eval x=key)(c:keyOf prog 101 key=some kl)(hv:a.eval v=I_ z)(hz:z<=1000000)(h:∀w',w'.ownsMap prog 101 (plainElem prog 3) b (n+1) (D.put kl (.lit (.int .i64 (z:Int))))->w.grownBy w' (some b)->K (a.put o.dst undef) w'):o.wp prog a w K Q:=by
 obtain⟨w',e,r1,f⟩:=d.update fE QH xr_ c (plainElem_int qJ (WalkArith.wf_i64 (by omega : -9223372036854775808<=(z:Int)/\(z:Int)<=9223372036854775807)));unfold Oper.wp;simp[execOp,ho,hm,hx,hv,e,Result.andThen];exact h w' r1 f
def Uv(s x:Operand)(ho:o.op=.call { callee:=.builtin .append,args:=#[s,x],argTypes:=#[134,134] }){B g n:Nat}{v c0 c1 c2 c3:Ax}{xs:Ay}(hb:w.ownsRow B 240 4 v n xs)(y:n<=1000000)(hB:B<=w.heap.size)(hg:g=w.heap.size)(hs:a.eval s=v)(hx:a.eval x=S_ g 1 1)(h0:c0.oneCell'=true)(h1:c1.oneCell'=true)(d:c2.oneCell'=true)(e:c3.oneCell'=true)(h:∀c w',w'.ownsRow B 240 4 c (n+1) (xs++[c0,c1,c2,c3])->(w.alloc (.cells #[c0,c1,c2,c3] 240)).grownBy w' v.ownBlock->(c.ownBlock=v.ownBlock\/c.ownBlock=some (w.alloc (.cells #[c0,c1,c2,c3] 240)).heap.size)->K (a.put o.dst c) w'):o.wp prog a (w.alloc (.cells #[c0,c1,c2,c3] 240)) K Q:=by
 obtain⟨ti,j,l,m,p⟩:=info_parts Us;obtain⟨t,u,hr,r,f,_,q⟩:=run_append_own_at (P:=prog) (w.alloc (.cells #[c0,c1,c2,c3] 240)) B 134 o.type 240 ti _ 4 56 GH j l m p rfl D_ _ n xs (World.ownsRow.alloc hb _) ⟨g,0,none⟩ 1 1 [c0,c1,c2,c3] rfl (zF _ #[c0,c1,c2,c3] _ _ hg) (by simp[h0,h1,d,e]) xr_ M_ x1_;unfold Oper.wp execOp;simp only[ho,resolve,invoke,builtin,Sem.run_bind,Sem.run_pure,Result.andThen_ok,List.map_toArray,av_,ba_,hs,hx,hr];exact h t u r f q
end
def kO{uT:Av}(hm:∀W,(method 545 uT ux "Place").run prog W=.ok (77,I_ k) W)(B:∀W,(method 545 uT' ux' "Place").run prog W=.ok (77,I_ k') W):Calls prog 51 #[.agg #[.iface uT ux,.iface uT' ux']] W λe w'=>e=.returned (.agg #[I_ k,I_ k'])/\Fr W w' N_:=by
 obtain⟨u,p⟩:=y_ (λ(e:Ending) (w':World)=>e=.returned (.agg #[I_ k,I_ k'])/\Fr W w' N_);rw[<- p.o];obtain⟨w1,hw1⟩:=e_ ((W.alloc (.cells #[.iface uT ux,.iface uT' ux'] 100)).alloc (.cells #[O_,O_] 101));have m:Fr W w1 N_:=xa_
 have h:Blk w1 W.heap.size [.iface uT ux,.iface uT' ux'] 100:=xf_
 have n:Blk w1 (W.heap.size+1) [O_,O_] 101:=by
  rw[hw1];have:=B_ (W.alloc (.cells #[.iface uT ux,.iface uT' ux'] 100)) #[O_,O_] 101;rw[zc]at this;exact this
 have c0:=h.c0;have c1:=h.c1;replace hw1:=zy hw1;go_in;go_upto_region 1 with fail;rw[<- hw1.o];refine tr_ 7 (λV=>z_ V W.heap.size 0 (.iface uT ux)/\z_ V W.heap.size 1 (.iface uT' ux')) ?_;refine tz_ 0 ?_;refine tz_ 1 ?_;refine tz_ 3 ?_;refine tz_ 4 ?_;refine zh 2 rfl K_ (λ_=>⟨c0,c1⟩) (λK d=>?_);go_simp;apply(xg (k:Int) _).mono;rintro e A ⟨rfl,q⟩;refine d _ _ ?_;clear d K;have f:Fr w1 A N_:=by rw[q];exact(A_ w1 _).drew
 clear q;refine zh 5 rfl K_ (λ_=>⟨f.ke c0,f.ke c1⟩) (λK d=>?_);go_simp;apply(xg (k':Int) _).mono;rintro e l ⟨rfl,r⟩;refine d _ _ ?_;clear d K;have f3:Fr w1 l N_:=by rw[r];exact f
 clear r f;have c:=f3.bl n id;have y:=c.cell 0;have z:=c.cell 1;have C:=c.th 0;have D:=c.th 1;have j:=(c.set 0 (I_ k)).set 1 (I_ k');have s:=j.cell 0;have t:=j.cell 1;simp only[am_,ao_,aa_,ab_]at y z s t;have fin:H_ (u (.returned (.agg #[I_ k,I_ k'])) ((l.setCell ⟨W.heap.size+1,0,none⟩ (I_ k)).setCell ⟨W.heap.size+1,1,none⟩ (I_ k'))):=zy (by
  rw[p.o]
  exact⟨rfl,(m.trans f3 u_).trans (J_ l (W.heap.size+1) 0 1 _ _) (λx hx e=>M_)⟩)
 have c3:=f3.ke c0;have c4:=f3.ke c1;clear j c n h m f3;refine t1_ 6 ⟨c3,c4⟩ ?_;refine t1_ 7 ⟨c3,c4⟩ ?_;refine td_ ?_ _;go_wp2;refine bodyPost_ret (v:=.agg #[I_ k,I_ k']) (by simp[results,results51,go_sem,s,t]) rfl ?_;exact fin
section
variable {α ρ:Type} {P:TP α ρ} {kv:α->Value} {Q:α->Prop} {num:α->Nat} {N fb tb mb:Nat} {fn:Et} {fa:Ax}
def Yi{W:Aw}{r:ρ}{rv:Ax}{g:Ar}{T:List (Rw α)}{i:Nat}{x:Rw α}{uT uT':Av}{ux ux':Ax}{k k':Nat}{kl:Lit}(I:P.OK (IU kv Q num N) ⟨fb,tb,mb,.func (.func 51) #[] #[],.func (.func fn) #[fa] #[]⟩)(h:TbI P (IU kv Q num N) ⟨fb,tb,mb,.func (.func 51) #[] #[],.func (.func fn) #[fa] #[]⟩ W r rv g T)(hx:T[i]?=some x)(hk:kv x.a=.agg #[I_ k,I_ k'])(a1:keyOf prog 101 (.agg #[I_ k,I_ k'])=some kl)(hm:∀W,(method 545 uT ux "Place").run prog W=.ok (77,I_ k) W)(a2:∀W,(method 545 uT' ux' "Place").run prog W=.ok (77,I_ k') W):Calls prog 53 #[P_ tb,.agg #[.iface uT ux,.iface uT' ux']] W (tZ P (IU kv Q num N) ⟨fb,tb,mb,.func (.func 51) #[] #[],.func (.func fn) #[fa] #[]⟩ W r rv g T x.a):=by
 obtain⟨a4,Q_⟩:=y_ (tZ P (IU kv Q num N) ⟨fb,tb,mb,.func (.func 51) #[] #[],.func (.func fn) #[fa] #[]⟩ W r rv g T x.a);rw[<- Q_.o];have U:=ag_ hx;obtain⟨w1,hw1⟩:=e_ ((W.alloc (.cells #[.iface uT ux,.iface uT' ux'] 100)).alloc (.cells #[O_,.nilIface] 93));have X:Fr W w1 N_:=xa_
 have Y:Blk w1 W.heap.size [.iface uT ux,.iface uT' ux'] 100:=xf_
 have B1:Blk w1 (W.heap.size+1) [O_,.nilIface] 93:=by
  rw[hw1];have:=B_ (W.alloc (.cells #[.iface uT ux,.iface uT' ux'] 100)) #[O_,.nilIface] 93;rw[zc]at this;exact this
 have h1:=h.new I X;have c0:=h1.t.b.c0;have G:=Y.c0;have H:=Y.c1;have hi:=(ai_.1 hx).1;have a6:(i:Int)<(T.length:Int):=M_;have a3:=((h.t.q x U).2.2.2);have s1:=λW a m=>run_store prog W a x.d m a3.one;have rest:H_ (∀V,Fr w1 V N_->∃D b E,rv=S_ b T.length E/\V.ownsMap prog 101 (plainElem prog 3) mb T.length D/\Maps.has D kl=true/\D.atKey kl (.lit (.int .i64 0))=.lit (.int .i64 (i:Int))/\V.cell? ⟨tb,3,none⟩=some (.map (some mb))/\V.cell? ⟨tb,2,none⟩=some (S_ b T.length E)/\V.cell? ⟨b,i*4+2,none⟩=some (I_ x.n)/\V.cell? ⟨b,i*4+2+1,none⟩=some x.d/\Blk V (W.heap.size+1) [O_,.nilIface] 93/\a4 (.returned (.agg #[I_ x.n,x.d])) ((V.setCell ⟨W.heap.size+1,0,none⟩ (I_ x.n)).setCell ⟨W.heap.size+1,1,none⟩ x.d).drew):=zy (λV S=>by
  have hf:=X.trans S u_
  have F:=h.new I hf
  obtain⟨D,A,a5⟩:=F.t.map
  obtain⟨hh,B⟩:=(a5 x.a _ (h.t.q x U).1 (show keyOf prog 101 (kv x.a)=_ by rw[hk];exact a1)).1 i x hx rfl
  obtain⟨b,E,u,u',rfl,hu,e0,e9,e1,e2,-,-⟩:=F.cellsU hx
  have f:=S.bl B1 id
  have hF:=(J_ V (W.heap.size+1) 0 1 (I_ x.n) x.d).drew
  refine⟨D,b,E,rfl,A,hh,B,F.t.b.cell 3,F.t.b.cell 2,e1,e2,f,?_⟩
  rw[Q_.o]
  have a7:fb<tb/\tb<W.heap.size:=(h.t.li (x:=tb) (.inl rfl))
  exact⟨x,rfl,U,rfl,F.put I yr_ f hF,⟨(hf.mono v_).trans hF (λy hy e=>M_),λ_ _ e=>e⟩⟩)
 generalize x.n=xn at *;generalize x.d=xd at *;replace hw1:=zy hw1;go_in;go_upto_region 1 with fail;rw[<- hw1.o];go_cut [5] (λv V=>∃q,v=P_ q/\H_ (Fr w1 V N_)/\H_ (Blk V q [I_ k,I_ k'] 101));case first=>
  refine tr_ 7 (λV=>z_ V tb 0 (.func (.func 51) #[] #[])/\z_ V W.heap.size 0 (.iface uT ux)/\z_ V W.heap.size 1 (.iface uT' ux')) ?_;refine tz_ 0 ?_;refine tz_ 1 ?_;refine tz_ 2 ?_;refine tz_ 3 ?_;refine tz_ 4 ?_;refine jV 5 6 rfl rfl K_ (λ_=>⟨c0,G,H⟩) (λK l=>?_) (λK l=>?_)
  .go_simp;apply(kO hm a2).mono;rintro e C ⟨rfl,z⟩;refine l _ _ ?_;have j:Fr w1 C N_:=(A_ w1 _).drew.trans z u_;have fin:=zy (j.alloc (.cells #[I_ k,I_ k'] 101));have a0:=zy (B_ C #[I_ k,I_ k'] 101);have J:=j.ke c0;have L:=j.ke G;have O:=j.ke H;have p:=λo=>(A_ C N_).alloc o;refine t1_ 6 ⟨J,L,O⟩ ?_;refine t1_ 7 ⟨(p _).ke J,(p _).ke L,(p _).ke O⟩ ?_;refine td_ ?_ _;go_wp2;go_meet;exact⟨_,rfl,fin,a0⟩
  .go_simp;refine l _ _ ?_;have p:=(A_ w1 N_).alloc (.cells #[O_,O_] 101);have f:=B_ w1 #[O_,O_] 101;refine zh 5 rfl K_ (λ_=>⟨p.ke c0,p.ke G,p.ke H⟩) (λK l=>?_);go_simp;apply(kO hm a2).mono;rintro e C ⟨rfl,z⟩;refine l _ _ ?_;have j:Fr w1 C N_:=p.drew.trans z u_;have s:=z.bl f.drew id;have fin:=zy (j.trans (J_ C w1.heap.size 0 1 (I_ k) (I_ k')) (λx hx e=>M_));have a0:=zy ((s.set 0 (I_ k)).set 1 (I_ k'));have J:=j.ke c0;have L:=j.ke G;have O:=j.ke H;have k0:=s.c0;have k1:=s.c1;have t0:=s.th 0;have t1:=s.th 1;refine t1_ 7 ⟨J,L,O⟩ ?_;refine td_ ?_ _;go_wp2;go_meet;exact⟨_,rfl,fin,a0⟩
 case rest=>
  obtain⟨q,rfl,S,hB⟩:=hcut;obtain⟨D,b,E,rfl,A,hh,B,d3,d2,e1,e2,f,fin⟩:=rest.o _ S;have q0:=hB.o.c0;have q1:=hB.o.c1;replace A:=zy A;replace B:=zy B;generalize T.length=M at *;go_wp2;refine tr_ 10 (λV=>z_ V tb 3 (.map (some mb))/\z_ V q 0 (I_ k)/\z_ V q 1 (I_ k')) ?_;refine tz_ 0 ?_;refine tz_ 1 ?_;refine tz_ 2 ?_;refine tz_ 3 ?_;refine tz_ 4 ?_;refine zh 5 rfl K_ (λ_=>⟨d3,q0,q1⟩) (λK l=>?_);rw[i_ (show Region.wanted _ _=true by kernel_rfl)];refine XW _ _ rfl rfl A rfl a1 ?_;intro c hc;refine l _ _ ?_;rw[B.o]at hc;simp only[DataW.lit.injEq,Lit.int.injEq,true_and]at hc;subst hc;rw[hh];refine tz_ 6 ?_;refine tz_ 7 ?_;refine tz_ 8 ?_;refine t1_ 9 ⟨d3,q0,q1⟩ ?_;refine t1_ 10 ⟨d3,q0,q1⟩ ?_;refine td_ ?_ _;have z0:=f.cell 0;have z1:=f.cell 1;have t0:=f.th 0;have t1:=f.th 1;have Z:=(f.set 0 (I_ xn)).set 1 xd;have r0:=Z.cell 0;have r1:=Z.cell 1;simp only[am_,ao_,aa_,ab_]at z0 z1 r0 r1;replace fin:=zy fin;go_wp2;refine bodyPost_ret (v:=.agg #[I_ xn,xd]) (by simp[results,results53,go_sem,r0,r1]) rfl ?_;exact fin
end
section
variable {α ρ:Type} {P:TP α ρ} {kv:α->Value} {Q:α->Prop} {num:α->Nat} {N fb tb mb:Nat} {fn:Et} {fa:Ax}
def Ye{r:ρ}{T:List (Rw α)}{a:α}{uT:Av}(a2:(IU kv Q num N).OK)(s:P.OK (IU kv Q num N) ⟨fb,tb,mb,.func (.func 51) #[] #[],.func (.func fn) #[fa] #[]⟩)(h:TbI P (IU kv Q num N) ⟨fb,tb,mb,.func (.func 51) #[] #[],.func (.func fn) #[fa] #[]⟩ W r rv g T)(ha:Q a)(hq:P.QV W a [.iface uT ux,.iface uT' ux'])(hx:∀x∈T,x.a≠a)(hk:kv a=.agg #[I_ k,I_ k'])(a7:keyOf prog 101 (.agg #[I_ k,I_ k'])=some kl)(hm:∀W,(method 545 uT ux "Place").run prog W=.ok (77,I_ k) W)(b8:∀W,(method 545 uT' ux' "Place").run prog W=.ok (77,I_ k') W)(hT:T.length<=1000000)(hL:∀V d7,TbI P (IU kv Q num N) ⟨fb,tb,mb,.func (.func 51) #[] #[],.func (.func fn) #[fa] #[]⟩ V r d7 g (T++[⟨a,[.iface uT ux,.iface uT' ux'],0,.nilIface⟩])->Calls prog 54 #[P_ tb,I_ T.length] V (cg P (IU kv Q num N) ⟨fb,tb,mb,.func (.func 51) #[] #[],.func (.func fn) #[fa] #[]⟩ V r d7 g (T++[⟨a,[.iface uT ux,.iface uT' ux'],0,.nilIface⟩]) T.length)):Calls prog 53 #[P_ tb,.agg #[.iface uT ux,.iface uT' ux']] W (jp P (IU kv Q num N) ⟨fb,tb,mb,.func (.func 51) #[] #[],.func (.func fn) #[fa] #[]⟩ W r rv g T a):=by
 obtain⟨d8,Q_⟩:=y_ (jp P (IU kv Q num N) ⟨fb,tb,mb,.func (.func 51) #[] #[],.func (.func fn) #[fa] #[]⟩ W r rv g T a);rw[<- Q_.o];obtain⟨w1,hw1⟩:=e_ ((W.alloc (.cells #[.iface uT ux,.iface uT' ux'] 100)).alloc (.cells #[O_,.nilIface] 93));have A1:Fr W w1 N_:=xa_
 have Y:Blk w1 W.heap.size [.iface uT ux,.iface uT' ux'] 100:=xf_
 have B1:Blk w1 (W.heap.size+1) [O_,.nilIface] 93:=by
  rw[hw1];have:=B_ (W.alloc (.cells #[.iface uT ux,.iface uT' ux'] 100)) #[O_,.nilIface] 93;rw[zc]at this;exact this
 have h1:=h.new s A1;have c0:=h1.t.b.c0;have p0:=Y.c0;have O:=Y.c1;have a6:keyOf prog 101 (kv a)=some kl:=by rw[hk];exact a7
 have a0:∀x,TSS P ⟨fb,tb,mb,.func (.func 51) #[] #[],.func (.func fn) #[fa] #[]⟩ rv r x->fb<x/\x<W.heap.size:=λx e=>h.li s e;have e7:fb<tb/\tb<W.heap.size:=a0 tb (.inl (.inl rfl));have b9:W.ownsRow (fb+1) 240 4 rv T.length (T.flatMap Rw.cells):=h.t.row;obtain⟨F,G,rfl⟩:=zw b9;have rest:H_ (∀V,Fr w1 V N_->∃D,V.ownsMap prog 101 (plainElem prog 3) mb T.length D/\Maps.has D kl=false/\V.cell? ⟨tb,3,none⟩=some (.map (some mb))/\V.cell? ⟨tb,2,none⟩=some (.slice F T.length G)/\
  H_ (∀w0 j,Fr V w0 N_->w0.grownBy j (some mb)->j.cell? ⟨tb,2,none⟩=some (.slice F T.length G)/\j.cell? ⟨W.heap.size,0,none⟩=some (.iface uT ux)/\j.cell? ⟨W.heap.size,1,none⟩=some (.iface uT' ux')/\j.ownsRow (fb+1) 240 4 (.slice F T.length G) T.length (T.flatMap Rw.cells)/\fb+1<=j.heap.size)/\
  H_ (∀w0 j I C,Fr V w0 N_->w0.grownBy j (some mb)->Fr j I N_->(I.alloc (.cells #[.iface uT ux,.iface uT' ux',O_,.nilIface] 240)).grownBy C (Value.slice F T.length G).ownBlock->C.cell? ⟨tb,2,none⟩=some (.slice F T.length G)/\C.frozen? ⟨tb,2,none⟩=false/\C.cell? ⟨W.heap.size,0,none⟩=some (.iface uT ux)/\C.cell? ⟨W.heap.size,1,none⟩=some (.iface uT' ux'))/\
  H_ (∀w0 j I C A,Fr V w0 N_->j.ownsMap prog 101 (plainElem prog 3) mb (T.length+1) (D.put kl (.lit (.int .i64 (T.length:Int))))->w0.grownBy j (some mb)->Fr j I N_->(I.alloc (.cells #[.iface uT ux,.iface uT' ux',O_,.nilIface] 240)).grownBy C (Value.slice F T.length G).ownBlock->C.ownsRow (fb+1) 240 4 A (T.length+1) (T.flatMap Rw.cells++[.iface uT ux,.iface uT' ux',O_,.nilIface])->(A.ownBlock=(Value.slice F T.length G).ownBlock\/A.ownBlock=some (I.alloc (.cells #[.iface uT ux,.iface uT' ux',O_,.nilIface] 240)).heap.size)->
   ∀V',Fr (C.setCell ⟨tb,2,none⟩ A) V' N_->TbI P (IU kv Q num N) ⟨fb,tb,mb,.func (.func 51) #[] #[],.func (.func fn) #[fa] #[]⟩ V' r A g (T++[⟨a,[.iface uT ux,.iface uT' ux'],0,.nilIface⟩])/\Stp W V' (TSS P ⟨fb,tb,mb,.func (.func 51) #[] #[],.func (.func fn) #[fa] #[]⟩ (.slice F T.length G) r) (TSS P ⟨fb,tb,mb,.func (.func 51) #[] #[],.func (.func fn) #[fa] #[]⟩ A r)/\Blk V' (W.heap.size+1) [O_,.nilIface] 93/\¬TSS P ⟨fb,tb,mb,.func (.func 51) #[] #[],.func (.func fn) #[fa] #[]⟩ A r (W.heap.size+1))):=zy (λV hV=>by
  have hf:=A1.trans hV u_
  have X:=h.new s hf
  obtain⟨D,L,b6⟩:=X.t.map
  obtain⟨a8,d9,e0⟩:=X.t.apart a2
  have sz:=A1.size
  have f0:=Y.lt
  refine⟨D,L,(b6 a _ ha a6).2 hx,X.t.b.cell 3,X.t.b.cell 2,zy (λw0 j u l=>?_),zy (λw0 j I C u l f3 U=>?_),zy (λw0 j I C A u J l f3 U k4 k5 V' a5=>?_)⟩
  .have f:Fr w0 j (λx=>x=mb):=(A_ w0 _).gw l (λk e _=>by simpa using e.symm)
   have h0:=X.new s u
   have e9:mb<W.heap.size:=(a0 mb (.inl (.inr (.inl rfl)))).2
   have b2:=f.bl h0.t.b a8
   have bp:=f.bl ((hV.trans u u_).bl Y id) M_
   have z:=f.size
   have z1:=u.size
   have z2:=hf.size
   have e2:=b2.c2
   have e3:=bp.c0
   have e4:=bp.c1
   exact⟨e2,e3,e4,zj h0.t.row f (λx e k=>e0 (by rw[e,show x=mb from k])),M_⟩
  .have f:Fr w0 j (λx=>x=mb):=(A_ w0 _).gw l (λk e _=>by simpa using e.symm)
   have h0:=X.new s u
   have f5:Fr I C (λx=>(Value.slice F T.length G).ownBlock=some x):=((A_ I (λx=>(Value.slice F T.length G).ownBlock=some x)).alloc (.cells #[.iface uT ux,.iface uT' ux',O_,.nilIface] 240)).gw U (λk e _=>e)
   have e9:mb<W.heap.size:=(a0 mb (.inl (.inr (.inl rfl)))).2
   have b2:=f5.bl (f3.bl (f.bl h0.t.b a8) id) d9
   have bp:=f5.bl (f3.bl (f.bl ((hV.trans u u_).bl Y id) M_) id) (λe=>by have:=(a0 _ (.inl (.inr (.inr e)))).2;omega)
   have e2:=b2.c2
   have e3:=bp.c0
   have e4:=bp.c1
   exact⟨e2,b2.th 2,e3,e4⟩
  .have h0:=X.new s u
   have e6:=vI L u id
   obtain⟨O,p2⟩:=h0.t.push a2 (r:=⟨a,[.iface uT ux,.iface uT' ux'],0,.nilIface⟩) ⟨ha,rfl,by show(0:Nat)<=301;omega,.inl rfl⟩ hx a6 b6 e6.isMap J l (f3.trans ((A_ I _).alloc _) u_) U k4 (k5.imp id (λe=>⟨_,e,l_⟩))
   have b4:=hf.trans u u_
   have p3:=h0.turn s p2 O (λy hy=>by
    rcases a4_.1 hy with hy|hy
    .exact .inl hy
    .simp only[a2_]at hy
     subst hy
     exact .inr ⟨s.z _ _ _,s.qv _ _ _ _ _ (s.qv _ _ _ _ _ hq b4 (λ_ f=>f.elim)) p2.1 (λy hy=>(h0.t.li hy).1)⟩)
   have bl:=(hV.trans u u_).bl B1 id
   have p4:=p3.2.1.bl bl (λe=>by have:=(a0 _ e).2;omega)
   exact⟨p3.1.new s a5,((E_ b4 (λ_ h=>h)).trans p3.2).trans (E_ a5 (λ_ h=>h)),a5.bl p4 id,λe=>e.elim (O.ot p4 (Ne.symm s.tt.1) (Ne.symm s.tt.2)) (λe=>by have:=(s.rs _ _ _ h.i e).2;omega)⟩)
 have fin:H_ (∀V r' rv' g' T' (y:Rw α) V1,TbI P (IU kv Q num N) ⟨fb,tb,mb,.func (.func 51) #[] #[],.func (.func fn) #[fa] #[]⟩ V r' rv' g' T'->Stp W V (TSS P ⟨fb,tb,mb,.func (.func 51) #[] #[],.func (.func fn) #[fa] #[]⟩ (.slice F T.length G) r) (TSS P ⟨fb,tb,mb,.func (.func 51) #[] #[],.func (.func fn) #[fa] #[]⟩ rv' r')->Grw P.Cl T T' g g'->y∈T'->y.a=a->Blk V (W.heap.size+1) [O_,.nilIface] 93->Fr V V1 (λx=>x=W.heap.size+1)->d8 (.returned (.agg #[I_ y.n,y.d])) V1):=zy (λV r' rv' g' T' y V1 J k2 k3 k4 k5 k6 hF=>by
  rw[Q_.o]
  exact⟨r',rv',g',T',y,rfl,k4,k5,J.put s yr_ k6 hF,⟨k2.1.trans hF (λy hy e=>M_),k2.2⟩,k3⟩)
 replace hL:=zy hL;generalize hM:T.length=M at *;replace hM:=zy hM;replace hw1:=zy hw1;generalize T.flatMap Rw.cells=CS at *;go_in;go_upto_region 1 with fail;rw[<- hw1.o];go_cut [5] (λv V=>∃q,v=P_ q/\H_ (Fr w1 V N_)/\H_ (Blk V q [I_ k,I_ k'] 101));case first=>
  refine tr_ 7 (λV=>z_ V tb 0 (.func (.func 51) #[] #[])/\z_ V W.heap.size 0 (.iface uT ux)/\z_ V W.heap.size 1 (.iface uT' ux')) ?_;refine tz_ 0 ?_;refine tz_ 1 ?_;refine tz_ 2 ?_;refine tz_ 3 ?_;refine tz_ 4 ?_;refine jV 5 6 rfl rfl K_ (λ_=>⟨c0,p0,O⟩) (λK p=>?_) (λK p=>?_)
  .go_simp;apply(kO hm b8).mono;rintro e j ⟨rfl,f2⟩;refine p _ _ ?_;have H:Fr w1 j N_:=(A_ w1 _).drew.trans f2 u_;have fin:=zy (H.alloc (.cells #[I_ k,I_ k'] 101));have a4:=zy (B_ j #[I_ k,I_ k'] 101);have g0:=H.ke c0;have g1:=H.ke p0;have l:=H.ke O;have E:=λo=>(A_ j N_).alloc o;refine t1_ 6 ⟨g0,g1,l⟩ ?_;refine t1_ 7 ⟨(E _).ke g0,(E _).ke g1,(E _).ke l⟩ ?_;refine td_ ?_ _;go_wp2;go_meet;exact⟨_,rfl,fin,a4⟩
  .go_simp;refine p _ _ ?_;have E:=(A_ w1 N_).alloc (.cells #[O_,O_] 101);have B2:=B_ w1 #[O_,O_] 101;refine zh 5 rfl K_ (λ_=>⟨E.ke c0,E.ke p0,E.ke O⟩) (λK p=>?_);go_simp;apply(kO hm b8).mono;rintro e j ⟨rfl,f2⟩;refine p _ _ ?_;have H:Fr w1 j N_:=E.drew.trans f2 u_;have Z:=f2.bl B2.drew id;have fin:=zy (H.trans (J_ j w1.heap.size 0 1 (I_ k) (I_ k')) (λx hx e=>M_));have a4:=zy ((Z.set 0 (I_ k)).set 1 (I_ k'));have g0:=H.ke c0;have g1:=H.ke p0;have l:=H.ke O;have k0:=Z.c0;have J:=Z.c1;have t0:=Z.th 0;have t1:=Z.th 1;refine t1_ 7 ⟨g0,g1,l⟩ ?_;refine td_ ?_ _;go_wp2;go_meet;exact⟨_,rfl,fin,a4⟩
 case rest=>
  obtain⟨q,rfl,hV,hB⟩:=hcut;obtain⟨D,L,hh,d3,d2,a9,a3,push⟩:=rest.o _ hV;have q0:=hB.o.c0;have q1:=hB.o.c1;replace L:=zy L;go_wp2;refine tr_ 10 (λV=>z_ V tb 3 (.map (some mb))/\z_ V q 0 (I_ k)/\z_ V q 1 (I_ k')) ?_;refine tz_ 0 ?_;refine tz_ 1 ?_;refine tz_ 2 ?_;refine tz_ 3 ?_;refine tz_ 4 ?_;refine zh 5 rfl K_ (λ_=>⟨d3,q0,q1⟩) (λK p=>?_);rw[i_ (show Region.wanted _ _=true by kernel_rfl)];refine XW _ _ rfl rfl L rfl a7 ?_;intro c hc;refine p _ _ ?_;rw[hh];refine tz_ 6 ?_;refine tz_ 7 ?_;refine tz_ 8 ?_;refine t1_ 9 ⟨d3,q0,q1⟩ ?_;refine t1_ 10 ⟨d3,q0,q1⟩ ?_;refine td_ ?_ _;go_wp2;refine tr_ 6 (λV=>z_ V tb 3 (.map (some mb))/\z_ V q 0 (I_ k)/\z_ V q 1 (I_ k')) ?_;refine tz_ 0 ?_;refine tz_ 1 ?_;refine tz_ 2 ?_;refine tz_ 3 ?_;refine tz_ 4 ?_;refine tz_ 5 ?_;refine zh 6 rfl K_ (λ_=>⟨d3,q0,q1⟩) (λK p=>?_);rw[i_ (show Region.wanted _ _=true by kernel_rfl)];refine Ux _ _ _ rfl (z:=M) rfl L hT rfl a7 rfl hT ?_;intro j J l;go_simp;refine p _ _ ?_;have u:Fr wc wc.drew.drew N_:=(A_ wc _).drew.drew;obtain⟨y2,y0,y1,a1,yz⟩:=a9.o _ j u l;replace J:=zy J;replace l:=zy l;replace a1:=zy a1;refine td_ ?_ _;go_wp2;go_cut [] (λV=>∃A,H_ (TbI P (IU kv Q num N) ⟨fb,tb,mb,.func (.func 51) #[] #[],.func (.func fn) #[fa] #[]⟩ V r A g (T++[⟨a,[.iface uT ux,.iface uT' ux'],0,.nilIface⟩])/\Stp W V (TSS P ⟨fb,tb,mb,.func (.func 51) #[] #[],.func (.func fn) #[fa] #[]⟩ (.slice F M G) r) (TSS P ⟨fb,tb,mb,.func (.func 51) #[] #[],.func (.func fn) #[fa] #[]⟩ A r)/\Blk V (W.heap.size+1) [O_,.nilIface] 93/\¬TSS P ⟨fb,tb,mb,.func (.func 51) #[] #[],.func (.func fn) #[fa] #[]⟩ A r (W.heap.size+1)));case first=>
   refine tr_ 11 (λV=>z_ V tb 2 (.slice F M G)/\z_ V W.heap.size 0 (.iface uT ux)/\z_ V W.heap.size 1 (.iface uT' ux')) ?_;refine tz_ 0 ?_;refine tz_ 1 ?_;refine tz_ 2 ?_;refine tz_ 3 ?_;refine tz_ 4 ?_;refine tz_ 5 ?_;refine tz_ 6 ?_;have E:=λo=>(A_ j N_).drew.alloc o;refine t1_ 7 ⟨y2,y0,y1⟩ ?_;refine zh 8 rfl K_ (λ_=>⟨(E _).ke y2,(E _).ke y0,(E _).ke y1⟩) (λK p=>?_);rw[i_ (show Region.wanted _ _=true by kernel_rfl)];refine Uv _ _ rfl (B:=fb+1) (v:=.slice F M G) (c0:=.iface uT ux) (c1:=.iface uT' ux') (c2:=O_) (c3:=.nilIface) (w:=j.drew) (zj a1 (A_ j N_).drew u_) hT yz rfl rfl rfl rfl rfl rfl rfl ?_;intro A C o5 U l5;go_simp;refine p _ _ ?_;have c5:=λf3=>a3.o _ j _ C u l f3 U;obtain⟨z2,zf,z0,z1⟩:=c5 xu_;have hp:=λf3=>push.o _ j _ C A u J l f3 U o5 l5;have e8:=zy (hp xu_);obtain⟨b5,f1,rfl⟩:=zp o5 M_;refine t1_ 9 ⟨z2,z0,z1⟩ ?_;refine t1_ 10 ⟨z2,z0,z1⟩ ?_;refine t1_ 11 ⟨z2,z0,z1⟩ ?_;refine td_ ?_ _;go_wp2;go_meet;exact⟨_,zy (e8.o _ xu_)⟩
  case rest=>
   obtain⟨A,hp⟩:=hcut;go_wp2_with (go_at_call 54;apply(hL.o _ _ hp.o.1).mono;rintro e w7 ⟨r7,f7,g7,T7,rfl,h7,s7,l7⟩;rw[<- hM.o]at l7;obtain⟨G7,y,hy,d6⟩:=l7.grw;have S:=s7.1.bl hp.o.2.2.1 hp.o.2.2.2;obtain⟨b7,f6,u7,u8,rfl,-,-,-,e1,e2,-,-⟩:=h7.cellsU hy;have i7:(M:Int)<(T7.length:Int):=(by have:=(ai_.1 hy).1;rw[hM.o]at this;omega);rw[hM.o]at e1 e2;have d2:=h7.t.b.c2;have q0:=S.c0;have q1:=S.c1;have t0:=S.th 0;have t1:=S.th 1;have s1:=λW a m=>run_store prog W a y.d m ((h7.t.q y (ag_ hy)).2.2.2).one;have B8:Blk ((w7.setCell ⟨W.heap.size+1,0,none⟩ (I_ y.n)).setCell ⟨W.heap.size+1,1,none⟩ y.d) (W.heap.size+1) [I_ y.n,y.d] 93:=(S.set 0 _).set 1 _;have r0:=B8.c0;have r1:=B8.c1;have e5:=zy (λV1=>fin.o w7 r7 _ g7 T7 y V1 h7 (hp.o.2.1.trans s7) G7 (ag_ hy) d6 S);have F7:=zy (J_ w7 (W.heap.size+1) 0 1 (I_ y.n) y.d);generalize y.n=yn at *;generalize y.d=yd at *;generalize T7.length=M7 at *);refine bodyPost_ret (v:=.agg #[I_ yn,yd]) (by simp[results,results53,go_sem,r0,r1]) rfl ?_;exact e5.o _ (by first|exact F7.o|exact F7.o.drew)
def Gl(kv:α->Value)(a:α)(v:Ay):Prop:=∃uT ux uT' ux' k k',v=[.iface uT ux,.iface uT' ux']/\kv a=.agg #[Z_ ((k:Nat):Int),Z_ ((k':Nat):Int)]/\k<=1000000/\k'<=1000000/\(∀W,(method 545 uT ux "Place").run prog W=.ok (77,I_ k) W)/\∀W,(method 545 uT' ux' "Place").run prog W=.ok (77,I_ k') W
def prV(v:Ay):Value:=.agg v.toArray
def mP{r:ρ}{T:List (Rw α)}{a:α}{v:Ay}(c:P.OK (IU kv Q num N) ⟨fb,tb,mb,.func (.func 51) #[] #[],.func (.func fn) #[fa] #[]⟩)(l:∀W a v,P.QV W a v->Gl kv a v)(h:TbI P (IU kv Q num N) ⟨fb,tb,mb,.func (.func 51) #[] #[],.func (.func fn) #[fa] #[]⟩ W r rv g T)(hv:P.QV W a v)(ha:a∈T.map Rw.a):Calls prog 53 #[P_ tb,prV v] W (tZ P (IU kv Q num N) ⟨fb,tb,mb,.func (.func 51) #[] #[],.func (.func fn) #[fa] #[]⟩ W r rv g T a):=by
 obtain⟨uT,ux,uT',ux',k,k',rfl,hk,d,e,hm,j⟩:=l W a v hv;obtain⟨x,m,rfl⟩:=a3_.1 ha;obtain⟨i,hi⟩:=bp_ m;obtain⟨kl,f⟩:=lW d e;exact Yi c h hi hk f hm j
def nf{m:Nat}(Iok:(IU kv Q num N).OK)(O:P.OK (IU kv Q num N) ⟨fb,tb,mb,.func (.func 51) #[] #[],.func (.func fn) #[fa] #[]⟩)(hfn:∀args W,(callFunc fn args).run prog W=.ok (.enter fn args) W)(hq:∀W a v,P.QV W a v->Gl kv a v)(hN:N<=1000000)(hF:∀m',m=m'+1->FOK P (IU kv Q num N) ⟨fb,tb,mb,.func (.func 51) #[] #[],.func (.func fn) #[fa] #[]⟩ fn fa prV m'):KOK P (IU kv Q num N) ⟨fb,tb,mb,.func (.func 51) #[] #[],.func (.func fn) #[fa] #[]⟩ 53 prV m:=by
 have cc1:=Nat
 exact cq24_
end
section
variable {α ρ:Type} {P:TP α ρ} {kv:α->Value} {Q:α->Prop} {num:α->Nat} {N fb tb mb:Nat} {kf ff:Ax}
def Kq{W:Aw}{r:ρ}{rv:Ax}{T:List (Rw α)}{a:α}{uT uT':Av}{ux ux':Ax}(a3:(IU kv Q num N).OK)(z:P.OK (IU kv Q num N) ⟨fb,tb,mb,kf,ff⟩)(h:TbI P (IU kv Q num N) ⟨fb,tb,mb,kf,ff⟩ W r rv false T)(hG:Gd P.Cl T)(hq:P.QV W a [.iface uT ux,.iface uT' ux'])(hN:N<=1000000)(hK:∀V,Fr W V N_->Calls prog 53 #[P_ tb,.agg #[.iface uT ux,.iface uT' ux']] V (jp P (IU kv Q num N) ⟨fb,tb,mb,kf,ff⟩ V r rv false T a))(a1:∀V r rv g T,TbI P (IU kv Q num N) ⟨fb,tb,mb,kf,ff⟩ V r rv g T->P.QV V a [.iface uT ux,.iface uT' ux']->a∈T.map Rw.a->Calls prog 53 #[P_ tb,.agg #[.iface uT ux,.iface uT' ux']] V (tZ P (IU kv Q num N) ⟨fb,tb,mb,kf,ff⟩ V r rv g T a))(hL:∀V r rv g T i x,TbI P (IU kv Q num N) ⟨fb,tb,mb,kf,ff⟩ V r rv g T->T[i]?=some x->Calls prog 54 #[P_ tb,Z_ ((i:Nat):Int)] V (cg P (IU kv Q num N) ⟨fb,tb,mb,kf,ff⟩ V r rv g T i)):Calls prog 32 #[P_ tb,.agg #[.iface uT ux,.iface uT' ux']] W (cw P (IU kv Q num N) ⟨fb,tb,mb,kf,ff⟩ W r rv a):=by
 obtain⟨a7,Q_⟩:=y_ (cw P (IU kv Q num N) ⟨fb,tb,mb,kf,ff⟩ W r rv a);rw[<- Q_.o];obtain⟨l,E⟩:=e_ (W.alloc (.cells #[.iface uT ux,.iface uT' ux'] 100));have L:Fr W l N_:=by rw[E];exact(A_ W _).alloc _
 have Bb:Blk l W.heap.size [.iface uT ux,.iface uT' ux'] 100:=by rw[E];exact B_ W _ _
 have zb:l.heap.size=W.heap.size+1:=by rw[E,zc]
 have a4:∀x,TSS P ⟨fb,tb,mb,kf,ff⟩ rv r x->fb<x/\x<W.heap.size:=λx e=>h.li z e;replace h:=h.new z L;replace hq:=z.qv _ _ _ _ _ hq L (λ_ f=>f.elim);obtain⟨w1,X⟩:=e_ ((W.alloc (.cells #[.iface uT ux,.iface uT' ux'] 100)).alloc (.cells #[O_,.nilIface] 93));have Z:Fr l w1 N_:=by rw[X,E];exact(A_ _ _).alloc _
 have B1:Blk w1 l.heap.size [O_,.nilIface] 93:=by rw[X,E];exact B_ _ _ _
 have B0:=Z.bl Bb id;have p0:=B0.c0;have p1:=B0.c1;have a9:=zy (hK w1 (L.trans Z u_));have U:∀x,TSS P ⟨fb,tb,mb,kf,ff⟩ rv r x->fb<x/\x<l.heap.size:=λx e=>h.li z e;have a0:fb<tb/\tb<l.heap.size:=U tb (.inl (.inl rfl));have few:H_ (∀V r rv g (T:List (Rw α)),TbI P (IU kv Q num N) ⟨fb,tb,mb,kf,ff⟩ V r rv g T->T.length<=N):=zy (λ_ _ _ _ _ h=>wL a3 h.t.nd (λx hx=>(h.t.q x hx).1));have start:H_ (∀J r' rv' g' T' (x:Rw α),x∈T'->x.a=a->TbI P (IU kv Q num N) ⟨fb,tb,mb,kf,ff⟩ J r' rv' g' T'->Stp w1 J (TSS P ⟨fb,tb,mb,kf,ff⟩ rv r) (TSS P ⟨fb,tb,mb,kf,ff⟩ rv' r')->Grw P.Cl T T' false g'->wZ P (IU kv Q num N) ⟨fb,tb,mb,kf,ff⟩ l r rv a J r' rv' g' T'/\(g'=false->Gd P.Cl T')):=zy (λJ r' rv' g' T' x c Y F G k5=>by
  have hb:=G.1.bl B1 (λe=>absurd (U _ e).2 (a5_ _))
  refine⟨⟨F,(E_ Z (λ_ h=>h)).trans G,a3_.2 ⟨x,c,Y⟩,hb,λe=>absurd (U _ (G.2 _ B1.lt e)).2 (a5_ _)⟩,λe y hy=>?_⟩
  obtain⟨R,rfl,_,_,h3⟩:=k5
  rcases a4_.1 hy with hy|hy
  .exact(hG y hy).more z.mono R
  .exact h3 e y hy)
 have step:H_ (∀V r' rv' g' T' V2 H I D A i,wZ P (IU kv Q num N) ⟨fb,tb,mb,kf,ff⟩ l r rv a V r' rv' g' T'->TbI P (IU kv Q num N) ⟨fb,tb,mb,kf,ff⟩ V2 H I D A->Stp V V2 (TSS P ⟨fb,tb,mb,kf,ff⟩ rv' r') (TSS P ⟨fb,tb,mb,kf,ff⟩ I H)->Lk P.Cl T' A g' D i->wZ P (IU kv Q num N) ⟨fb,tb,mb,kf,ff⟩ l r rv a V2 H I D A):=zy (λV r' rv' g' T' V2 H I D A i c Y F G=>
  ⟨Y,c.s.trans F,G.mem c.a,F.1.bl c.b c.n,λe=>c.n (F.2 _ c.b.lt e)⟩)
 have flag:H_ (∀V r' rv' g' T' u,wZ P (IU kv Q num N) ⟨fb,tb,mb,kf,ff⟩ l r rv a V r' rv' g' T'->wZ P (IU kv Q num N) ⟨fb,tb,mb,kf,ff⟩ l r rv a (V.setCell ⟨tb,4,none⟩ (.bool u)) r' rv' u T'):=zy (λV r' rv' g' T' u c=>by
  have S:Fr V (V.setCell ⟨tb,4,none⟩ (.bool u)) (TbS tb mb rv'):=(X_ V ⟨tb,4,none⟩ (.bool u)).mono (λx _ e=>.inl e)
  have h3:=c.i.turn z (rv':=rv') ⟨S,λ_ _ h=>h⟩ (c.i.t.flag a3 u) (λy hy=>.inl hy)
  exact⟨h3.1,c.s.trans h3.2,c.a,S.bl c.b (λe=>c.n (.inl e)),c.n⟩)
 have fin:H_ (∀V r' rv' T' (y:Rw α) V1,wZ P (IU kv Q num N) ⟨fb,tb,mb,kf,ff⟩ l r rv a V r' rv' false T'->Gd P.Cl T'->y∈T'->y.a=a->∀O,TbI P (IU kv Q num N) ⟨fb,tb,mb,kf,ff⟩ O r' rv' false T'->Stp V O (TSS P ⟨fb,tb,mb,kf,ff⟩ rv' r') (TSS P ⟨fb,tb,mb,kf,ff⟩ rv' r')->V1=(O.setCell ⟨W.heap.size+1,0,none⟩ (I_ y.n)).setCell ⟨W.heap.size+1,1,none⟩ y.d->a7 (.returned (.agg #[I_ y.n,y.d])) V1):=zy (λV r' rv' T' y V1 c Y F G O k5 k6 k7=>by
  rw[Q_.o,k7]
  have S:=J_ O (W.heap.size+1) 0 1 (I_ y.n) y.d
  have hb:=k6.1.bl c.b c.n
  rw[zb]at hb
  have st:=(E_ L (λ_ h=>h)).trans (c.s.trans k6)
  exact⟨r',rv',T',y,rfl,F,G,k5.put z yr_ hb S,⟨st.1.trans S (λy hy e=>M_),st.2⟩,Y⟩)
 have qv:H_ (∀V r' rv' g' T',wZ P (IU kv Q num N) ⟨fb,tb,mb,kf,ff⟩ l r rv a V r' rv' g' T'->P.QV V a [.iface uT ux,.iface uT' ux']):=zy (λV r' rv' g' T' k=>z.qv _ _ _ _ _ hq k.s.1 (λx hx=>(U x hx).1));have pb:H_ (∀V r' rv' g' T',wZ P (IU kv Q num N) ⟨fb,tb,mb,kf,ff⟩ l r rv a V r' rv' g' T'->V.cell? ⟨W.heap.size,0,none⟩=some (.iface uT ux)/\V.cell? ⟨W.heap.size,1,none⟩=some (.iface uT' ux')):=zy (λV r' rv' g' T' k=>by
  have b:=k.s.1.bl Bb (λe=>absurd (a4 _ e).2 (a5_ _))
  exact⟨b.cell 0,b.cell 1⟩)
 replace a1:=zy a1;replace hL:=zy hL;replace X:=zy X;replace E:=zy E;replace zb:=zy zb;go_in;go_upto_region 1 with fail;rw[<- X.o];go_wp2_with (go_at_call 53;apply a9.o.mono;rintro e J ⟨H,I,D,A,x2,rfl,x3,x4,h2,s2,G2⟩;obtain⟨S2,H2⟩:=start.o J H I D A x2 x3 x4 h2 s2 G2;replace S2:=zy S2;replace H2:=zy H2);go_loopg [] (phi N A+1) (λm V=>∃r' rv' g' T',H_ (wZ P (IU kv Q num N) ⟨fb,tb,mb,kf,ff⟩ l r rv a V r' rv' g' T')/\H_ (g'=false->Gd P.Cl T')/\(g'=true->phi N T'<m));case atStart=>exact⟨H,I,D,A,S2,H2,λ_=>M_⟩
 case round=>
  obtain⟨r3,b5,g3,C,p,H3,a2⟩:=hrel;have c4:=p.o.i.t.b.c4;have t4:=p.o.i.t.b.th 4;cases g3
  .have a6:=zy (H3.o rfl);obtain⟨p0,p1⟩:=pb.o _ _ _ _ _ p;go_wp2_with (go_at_call 53;apply(a1.o _ _ _ _ _ p.o.i (qv.o _ _ _ _ _ p) p.o.a).mono;rintro e w5 ⟨y,rfl,y1,y2,h5,s5⟩;have B:=s5.1.bl p.o.b p.o.n;rw[zb.o]at B;have q0:=B.c0;have q1:=B.c1;have z0:=B.th 0;have z1:=B.th 1;have s1:=λW a m=>run_store prog W a y.d m ((h5.t.q y y1).2.2.2).one;have B8:Blk ((w5.setCell ⟨W.heap.size+1,0,none⟩ (I_ y.n)).setCell ⟨W.heap.size+1,1,none⟩ y.d) (W.heap.size+1) [I_ y.n,y.d] 93:=(B.set 0 _).set 1 _;have x0:=B8.c0;have x1:=B8.c1;have a8:=zy (λV1=>fin.o _ r3 b5 C y V1 p a6 y1 y2 w5 h5 s5);generalize y.n=yn at *;generalize y.d=yd at *);refine bodyPost_ret (v:=.agg #[I_ yn,yd]) (by simp[results,results32,go_sem,x0,x1]) rfl ?_;exact a8.o _ rfl
  .have hm:=a2 rfl;have S4:=zy (flag.o _ _ _ _ _ false p);obtain⟨ra,rc,rfl⟩:=zw p.o.i.t.row;have c2:=S4.o.i.t.b.c2;have b6:=few.o _ _ _ _ _ S4.o.i;have a5:H_ (SIn P.Cl N C.length 0 (phi N C) false C):=zy ⟨l_,l_,λe=>yg_,λ_ i x hx hi=>by
    have:=(ai_.1 hx).1
    omega⟩
   generalize hM:C.length=M at *;replace hM:=zy hM;go_wp2;go_loopg [21] (M+1) (λm v V=>∃j:Nat,∃r' rv' g' T',v=I_ j/\j<=M/\M+1-j<=m/\H_ (wZ P (IU kv Q num N) ⟨fb,tb,mb,kf,ff⟩ l r rv a V r' rv' g' T')/\H_ (SIn P.Cl N M j (phi N C) g' T'));case atStart=>exact⟨0,_,_,_,_,rfl,al_ _,M_,S4,a5⟩
   case round=>
    obtain⟨j,r5,b8,g5,T5,rfl,hj,b7,S5,I5⟩:=hrel;by_cases a0:j<M
    .have b4:(j:Int)<(M:Int):=M_;obtain⟨x,hx⟩:∃x,T5[j]?=some x:=⟨_,ak_ (bg_ a0 I5.o.1)⟩;replace hx:=zy hx;go_wp2_with (go_at_call 54;apply(hL.o _ _ _ _ _ j x S5.o.i hx).mono;rintro e w6 ⟨r6,b9,g6,T6,rfl,h6,s6,l6⟩;have S6:=zy (step.o _ _ _ _ _ _ _ _ _ _ _ S5 h6 s6 l6);have I6:=zy (I5.o.step z.mono l6 (few.o _ _ _ _ _ h6) (λy hy=>(S5.o.i.t.q y hy).2.2.1) (λy hy=>(h6.t.q y hy).2.2.1)));go_roundg (M+1-(j+1));case measure=>omega
     case rel=>exact⟨j+1,_,_,_,_,by simp,a0,l_,S6,I6⟩
    .have b4:¬((j:Int)<(M:Int)):=M_;obtain rfl:j=M:=M_;have nx:H_ (g5=false->Gd P.Cl T5):=zy (λe y hy=>by
      obtain⟨i,hi⟩:=bp_ hy
      exact I5.o.2.2.2 e i y hi M_)
     have B:=I5.o.2.2.1;go_wp2;go_roundg (phi N C);case measure=>exact hm
     case rel=>exact⟨_,_,_,_,S5,nx,B⟩
end
end Go.Proofs.YtamhgejdkclmdaaGreatDoor
