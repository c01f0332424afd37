import Derived.Test.YtlmebjdmdogmfaaGreatDoorW27
set_option linter.unusedVariables false
set_option maxHeartbeats 16000000
set_option maxRecDepth 100000
set_option linter.defProp false
set_option linter.unusedSimpArgs false
open Go.Proofs.Tryz
namespace Go.Proofs.YtlmebjdmdogmfaaGreatDoor
open Go.RowKit
variable {rv bx:Ax}{bT:Av}{ua va:Am}{uc un vc:Nat}{p q:Int}{g:Aq}{w:Aw}
section
variable {α ρ:Type} {P:TP α ρ} {kv:α->Value} {Q:α->Prop} {num:α->Nat} {N fb tb mb:Nat} {fn:Et} {fa:Ax}
def Ye{W:Aw}{r:ρ}{T:List (Rw α)}{a:α}{uT l:Av}{ux s:Ax}{k S:Nat}{kl:Lit}(a2:(IU kv Q num N).OK)(C:P.OK (IU kv Q num N) ⟨fb,tb,mb,.func (.func 52) #[] #[],.func (.func fn) #[fa] #[]⟩)(h:TbI P (IU kv Q num N) ⟨fb,tb,mb,.func (.func 52) #[] #[],.func (.func fn) #[fa] #[]⟩ W r rv g T)(ha:Q a)(hq:P.QV W a [.iface uT ux,.iface l s])(hx:∀x∈T,x.a≠a)(hk:kv a=.agg #[I_ k,I_ S])(a7:keyOf prog 93 (.agg #[I_ k,I_ S])=some kl)(hm:∀W,(method 554 uT ux "Place").run prog W=.ok (72,I_ k) W)(b4:∀W,(method 554 l s "Place").run prog W=.ok (72,I_ S) W)(hT:T.length<=1000000)(hL:∀V b7,TbI P (IU kv Q num N) ⟨fb,tb,mb,.func (.func 52) #[] #[],.func (.func fn) #[fa] #[]⟩ V r b7 g (T++[⟨a,[.iface uT ux,.iface l s],0,.nilIface⟩])->Calls prog 55 #[P_ tb,I_ T.length] V (cm P (IU kv Q num N) ⟨fb,tb,mb,.func (.func 52) #[] #[],.func (.func fn) #[fa] #[]⟩ V r b7 g (T++[⟨a,[.iface uT ux,.iface l s],0,.nilIface⟩]) T.length)):Calls prog 54 #[P_ tb,.agg #[.iface uT ux,.iface l s]] W (ju P (IU kv Q num N) ⟨fb,tb,mb,.func (.func 52) #[] #[],.func (.func fn) #[fa] #[]⟩ W r rv g T a):=by
 obtain⟨b8,Q_⟩:=y_ (ju P (IU kv Q num N) ⟨fb,tb,mb,.func (.func 52) #[] #[],.func (.func fn) #[fa] #[]⟩ W r rv g T a);rw[<- Q_.o];obtain⟨w1,hw1⟩:=e_ ((W.alloc (.cells #[.iface uT ux,.iface l s] 92)).alloc (.cells #[O_,.nilIface] 85));have A1:Fr W w1 N_:=x9_
 have B0:Blk w1 W.heap.size [.iface uT ux,.iface l s] 92:=xg_
 have B1:Blk w1 (W.heap.size+1) [O_,.nilIface] 85:=by
  rw[hw1];have:=B_ (W.alloc (.cells #[.iface uT ux,.iface l s] 92)) #[O_,.nilIface] 85;rw[zm]at this;exact this
 have h1:=h.new C A1;have c0:=h1.t.b.c0;have p0:=B0.c0;have Y:=B0.c1;have a6:keyOf prog 93 (kv a)=some kl:=by rw[hk];exact a7
 have a0:∀x,TSS P ⟨fb,tb,mb,.func (.func 52) #[] #[],.func (.func fn) #[fa] #[]⟩ rv r x->fb<x/\x<W.heap.size:=λx e=>h.li C e;have d8:fb<tb/\tb<W.heap.size:=a0 tb (.inl (.inl rfl));have b5:W.ownsRow (fb+1) 243 4 rv T.length (T.flatMap Rw.cells):=h.t.row;obtain⟨I,J,rfl⟩:=zw b5;have rest:H_ (∀V,Fr w1 V N_->∃D,V.ownsMap prog 93 (plainElem prog 3) mb T.length D/\Maps.has D kl=false/\V.cell? ⟨tb,3,none⟩=some (.map (some mb))/\V.cell? ⟨tb,2,none⟩=some (.slice I T.length J)/\
  H_ (∀w0 j,Fr V w0 N_->w0.grownBy j (some mb)->j.cell? ⟨tb,2,none⟩=some (.slice I T.length J)/\j.cell? ⟨W.heap.size,0,none⟩=some (.iface uT ux)/\j.cell? ⟨W.heap.size,1,none⟩=some (.iface l s)/\j.ownsRow (fb+1) 243 4 (.slice I T.length J) T.length (T.flatMap Rw.cells)/\fb+1<=j.heap.size)/\
  H_ (∀w0 j O G,Fr V w0 N_->w0.grownBy j (some mb)->Fr j O N_->(O.alloc (.cells #[.iface uT ux,.iface l s,O_,.nilIface] 243)).grownBy G (Value.slice I T.length J).ownBlock->G.cell? ⟨tb,2,none⟩=some (.slice I T.length J)/\G.frozen? ⟨tb,2,none⟩=false/\G.cell? ⟨W.heap.size,0,none⟩=some (.iface uT ux)/\G.cell? ⟨W.heap.size,1,none⟩=some (.iface l s))/\
  H_ (∀w0 j O G F,Fr V w0 N_->j.ownsMap prog 93 (plainElem prog 3) mb (T.length+1) (D.put kl (.lit (.int .i64 (T.length:Int))))->w0.grownBy j (some mb)->Fr j O N_->(O.alloc (.cells #[.iface uT ux,.iface l s,O_,.nilIface] 243)).grownBy G (Value.slice I T.length J).ownBlock->G.ownsRow (fb+1) 243 4 F (T.length+1) (T.flatMap Rw.cells++[.iface uT ux,.iface l s,O_,.nilIface])->(F.ownBlock=(Value.slice I T.length J).ownBlock\/F.ownBlock=some (O.alloc (.cells #[.iface uT ux,.iface l s,O_,.nilIface] 243)).heap.size)->
   ∀V',Fr (G.setCell ⟨tb,2,none⟩ F) V' N_->TbI P (IU kv Q num N) ⟨fb,tb,mb,.func (.func 52) #[] #[],.func (.func fn) #[fa] #[]⟩ V' r F g (T++[⟨a,[.iface uT ux,.iface l s],0,.nilIface⟩])/\Stp W V' (TSS P ⟨fb,tb,mb,.func (.func 52) #[] #[],.func (.func fn) #[fa] #[]⟩ (.slice I T.length J) r) (TSS P ⟨fb,tb,mb,.func (.func 52) #[] #[],.func (.func fn) #[fa] #[]⟩ F r)/\Blk V' (W.heap.size+1) [O_,.nilIface] 85/\¬TSS P ⟨fb,tb,mb,.func (.func 52) #[] #[],.func (.func fn) #[fa] #[]⟩ F r (W.heap.size+1))):=zy (λV hV=>by
  have hf:=A1.trans hV u_
  have h2:=h.new C hf
  obtain⟨D,X,a9⟩:=h2.t.map
  obtain⟨a8,b9,d6⟩:=h2.t.apart a2
  have sz:=A1.size
  have e1:=B0.lt
  refine⟨D,X,(a9 a _ ha a6).2 hx,h2.t.b.cell 3,h2.t.b.cell 2,zy (λw0 j E u=>?_),zy (λw0 j O G E u f3 g5=>?_),zy (λw0 j O G F E U u f3 g5 k4 k5 V' a5=>?_)⟩
  .have f:Fr w0 j (λx=>x=mb):=(A_ w0 _).gw u (λk e _=>by simpa using e.symm)
   have h0:=h2.new C E
   have e0:mb<W.heap.size:=(a0 mb (.inl (.inr (.inl rfl)))).2
   have b2:=f.bl h0.t.b a8
   have bp:=f.bl ((hV.trans E u_).bl B0 id) M_
   have z:=f.size
   have z1:=E.size
   have z2:=hf.size
   have e2:=b2.c2
   have e3:=bp.c0
   have e4:=bp.c1
   exact⟨e2,e3,e4,zj h0.t.row f (λx e k=>d6 (by rw[e,show x=mb from k])),M_⟩
  .have f:Fr w0 j (λx=>x=mb):=(A_ w0 _).gw u (λk e _=>by simpa using e.symm)
   have h0:=h2.new C E
   have f5:Fr O G (λx=>(Value.slice I T.length J).ownBlock=some x):=((A_ O (λx=>(Value.slice I T.length J).ownBlock=some x)).alloc (.cells #[.iface uT ux,.iface l s,O_,.nilIface] 243)).gw g5 (λk e _=>e)
   have e0:mb<W.heap.size:=(a0 mb (.inl (.inr (.inl rfl)))).2
   have b2:=f5.bl (f3.bl (f.bl h0.t.b a8) id) b9
   have bp:=f5.bl (f3.bl (f.bl ((hV.trans E u_).bl B0 id) M_) id) (λe=>o1_ ((a0 _ (.inl (.inr (.inr e)))).2))
   have e2:=b2.c2
   have e3:=bp.c0
   have e4:=bp.c1
   exact⟨e2,b2.th 2,e3,e4⟩
  .have h0:=h2.new C E
   have Z:=jy X E id
   obtain⟨Y,L⟩:=h0.t.push a2 (r:=⟨a,[.iface uT ux,.iface l s],0,.nilIface⟩) ⟨ha,rfl,by show(0:Nat)<=301;omega,.inl rfl⟩ hx a6 a9 Z.isMap U u (f3.trans ((A_ O _).alloc _) u_) g5 k4 (k5.imp id (λe=>⟨_,e,l_⟩))
   have H:=hf.trans E u_
   have A:=h0.turn C L Y (λy hy=>by
    rcases a1_.1 hy with hy|hy
    .exact .inl hy
    .simp only[a0_]at hy
     subst hy
     exact .inr ⟨C.z _ _ _,C.qv _ _ _ _ _ (C.qv _ _ _ _ _ hq H (λ_ f=>f.elim)) L.1 (λy hy=>(h0.t.li hy).1)⟩)
   have bl:=(hV.trans E u_).bl B1 id
   have L:=A.2.1.bl bl (λe=>o1_ ((a0 _ e).2))
   exact⟨A.1.new C a5,((C_ H (λ_ h=>h)).trans A.2).trans (C_ a5 (λ_ h=>h)),a5.bl L id,λe=>e.elim (Y.ot L (Ne.symm C.tt.1) (Ne.symm C.tt.2)) (λe=>o1_ ((C.rs _ _ _ h.i e).2))⟩)
 have fin:H_ (∀V r' rv' g' T' (y:Rw α) V1,TbI P (IU kv Q num N) ⟨fb,tb,mb,.func (.func 52) #[] #[],.func (.func fn) #[fa] #[]⟩ V r' rv' g' T'->Stp W V (TSS P ⟨fb,tb,mb,.func (.func 52) #[] #[],.func (.func fn) #[fa] #[]⟩ (.slice I T.length J) r) (TSS P ⟨fb,tb,mb,.func (.func 52) #[] #[],.func (.func fn) #[fa] #[]⟩ rv' r')->Grw P.Cl T T' g g'->y∈T'->y.a=a->Blk V (W.heap.size+1) [O_,.nilIface] 85->Fr V V1 (λx=>x=W.heap.size+1)->b8 (.returned (.agg #[I_ y.n,y.d])) V1):=zy (λV r' rv' g' T' y V1 U k2 k3 k4 k5 k6 hF=>by
  rw[Q_.o]
  exact⟨r',rv',g',T',y,rfl,k4,k5,U.put C yq_ k6 hF,⟨k2.1.trans hF (λy hy e=>M_),k2.2⟩,k3⟩)
 replace hL:=zy hL;generalize hM:T.length=M at *;replace hM:=zy hM;replace hw1:=zy hw1;generalize T.flatMap Rw.cells=CS at *;go_in;go_upto_region 1 with fail;rw[<- hw1.o];go_cut [5] (λv V=>∃q,v=P_ q/\H_ (Fr w1 V N_)/\H_ (Blk V q [I_ k,I_ S] 93));case first=>
  refine tr_ 7 (λV=>z_ V tb 0 (.func (.func 52) #[] #[])/\z_ V W.heap.size 0 (.iface uT ux)/\z_ V W.heap.size 1 (.iface l s)) ?_;refine tz_ 0 ?_;refine tz_ 1 ?_;refine tz_ 2 ?_;refine tz_ 3 ?_;refine tz_ 4 ?_;refine jV 5 6 rfl rfl K_ (λ_=>⟨c0,p0,Y⟩) (λK A=>?_) (λK A=>?_)
  .go_simp;apply(kO hm b4).mono;rintro e j ⟨rfl,f2⟩;refine A _ _ ?_;have L:Fr w1 j N_:=(A_ w1 _).drew.trans f2 u_;have fin:=zy (L.alloc (.cells #[I_ k,I_ S] 93));have a4:=zy (B_ j #[I_ k,I_ S] 93);have g0:=L.ke c0;have g1:=L.ke p0;have u:=L.ke Y;have H:=λo=>(A_ j N_).alloc o;refine t1_ 6 ⟨g0,g1,u⟩ ?_;refine t1_ 7 ⟨(H _).ke g0,(H _).ke g1,(H _).ke u⟩ ?_;refine td_ ?_ _;go_wp2;go_meet;exact⟨_,rfl,fin,a4⟩
  .go_simp;refine A _ _ ?_;have H:=(A_ w1 N_).alloc (.cells #[O_,O_] 93);have Z:=B_ w1 #[O_,O_] 93;refine zh 5 rfl K_ (λ_=>⟨H.ke c0,H.ke p0,H.ke Y⟩) (λK A=>?_);go_simp;apply(kO hm b4).mono;rintro e j ⟨rfl,f2⟩;refine A _ _ ?_;have L:Fr w1 j N_:=H.drew.trans f2 u_;have O:=f2.bl Z.drew id;have fin:=zy (L.trans (J_ j w1.heap.size 0 1 (I_ k) (I_ S)) (λx hx e=>M_));have a4:=zy ((O.set 0 (I_ k)).set 1 (I_ S));have g0:=L.ke c0;have g1:=L.ke p0;have u:=L.ke Y;have k0:=O.c0;have U:=O.c1;have t0:=O.th 0;have t1:=O.th 1;refine t1_ 7 ⟨g0,g1,u⟩ ?_;refine td_ ?_ _;go_wp2;go_meet;exact⟨_,rfl,fin,a4⟩
 case rest=>
  obtain⟨q,rfl,hV,hB⟩:=hcut;obtain⟨D,X,O,d3,d2,L,a3,push⟩:=rest.o _ hV;have q0:=hB.o.c0;have q1:=hB.o.c1;replace X:=zy X;go_wp2;refine tr_ 10 (λV=>z_ V tb 3 (.map (some mb))/\z_ V q 0 (I_ k)/\z_ V q 1 (I_ S)) ?_;refine tz_ 0 ?_;refine tz_ 1 ?_;refine tz_ 2 ?_;refine tz_ 3 ?_;refine tz_ 4 ?_;refine zh 5 rfl K_ (λ_=>⟨d3,q0,q1⟩) (λK A=>?_);rw[i_ (show Region.wanted _ _=true by kernel_rfl)];refine XP _ _ rfl rfl X rfl a7 ?_;intro c hc;refine A _ _ ?_;rw[O];refine tz_ 6 ?_;refine tz_ 7 ?_;refine tz_ 8 ?_;refine t1_ 9 ⟨d3,q0,q1⟩ ?_;refine t1_ 10 ⟨d3,q0,q1⟩ ?_;refine td_ ?_ _;go_wp2;refine tr_ 6 (λV=>z_ V tb 3 (.map (some mb))/\z_ V q 0 (I_ k)/\z_ V q 1 (I_ S)) ?_;refine tz_ 0 ?_;refine tz_ 1 ?_;refine tz_ 2 ?_;refine tz_ 3 ?_;refine tz_ 4 ?_;refine tz_ 5 ?_;refine zh 6 rfl K_ (λ_=>⟨d3,q0,q1⟩) (λK A=>?_);rw[i_ (show Region.wanted _ _=true by kernel_rfl)];refine Uj _ _ _ rfl (z:=M) rfl X hT rfl a7 rfl hT ?_;intro j U u;go_simp;refine A _ _ ?_;have E:Fr wc wc.drew.drew N_:=(A_ wc _).drew.drew;obtain⟨y2,y0,y1,a1,yz⟩:=L.o _ j E u;replace U:=zy U;replace u:=zy u;replace a1:=zy a1;refine td_ ?_ _;go_wp2;go_cut [] (λV=>∃F,H_ (TbI P (IU kv Q num N) ⟨fb,tb,mb,.func (.func 52) #[] #[],.func (.func fn) #[fa] #[]⟩ V r F g (T++[⟨a,[.iface uT ux,.iface l s],0,.nilIface⟩])/\Stp W V (TSS P ⟨fb,tb,mb,.func (.func 52) #[] #[],.func (.func fn) #[fa] #[]⟩ (.slice I M J) r) (TSS P ⟨fb,tb,mb,.func (.func 52) #[] #[],.func (.func fn) #[fa] #[]⟩ F r)/\Blk V (W.heap.size+1) [O_,.nilIface] 85/\¬TSS P ⟨fb,tb,mb,.func (.func 52) #[] #[],.func (.func fn) #[fa] #[]⟩ F r (W.heap.size+1)));case first=>
   refine tr_ 11 (λV=>z_ V tb 2 (.slice I M J)/\z_ V W.heap.size 0 (.iface uT ux)/\z_ V W.heap.size 1 (.iface l s)) ?_;refine tz_ 0 ?_;refine tz_ 1 ?_;refine tz_ 2 ?_;refine tz_ 3 ?_;refine tz_ 4 ?_;refine tz_ 5 ?_;refine tz_ 6 ?_;have H:=λo=>(A_ j N_).drew.alloc o;refine t1_ 7 ⟨y2,y0,y1⟩ ?_;refine zh 8 rfl K_ (λ_=>⟨(H _).ke y2,(H _).ke y0,(H _).ke y1⟩) (λK A=>?_);rw[i_ (show Region.wanted _ _=true by kernel_rfl)];refine Uq _ _ rfl (B:=fb+1) (v:=.slice I M J) (c0:=.iface uT ux) (c1:=.iface l s) (c2:=O_) (c3:=.nilIface) (w:=j.drew) (zj a1 (A_ j N_).drew u_) hT yz rfl rfl rfl rfl rfl rfl rfl ?_;intro F G o5 g5 l5;go_simp;refine A _ _ ?_;have c5:=λf3=>a3.o _ j _ G E u f3 g5;obtain⟨z2,l,z0,z1⟩:=c5 xx_;have hp:=λf3=>push.o _ j _ G F E U u f3 g5 o5 l5;have d9:=zy (hp xx_);obtain⟨j,j,rfl⟩:=zg o5 M_;refine t1_ 9 ⟨z2,z0,z1⟩ ?_;refine t1_ 10 ⟨z2,z0,z1⟩ ?_;refine t1_ 11 ⟨z2,z0,z1⟩ ?_;refine td_ ?_ _;go_wp2;go_meet;exact⟨_,zy (d9.o _ xx_)⟩
  case rest=>
   obtain⟨F,hp⟩:=hcut;go_wp2_with (go_at_call 55;apply(hL.o _ _ hp.o.1).mono;rintro e w7 ⟨r7,j,g7,T7,rfl,h7,s7,l7⟩;rw[<- hM.o]at l7;obtain⟨G7,y,hy,b6⟩:=l7.grw;have Z:=s7.1.bl hp.o.2.2.1 hp.o.2.2.2;obtain⟨j,j,j,u8,rfl,-,-,-,j,e2,-,-⟩:=h7.cellsU hy;have l:(M:Int)<(T7.length:Int):=(by have:=(aj_.1 hy).1;rw[hM.o]at this;omega);rw[hM.o]at j e2;have d2:=h7.t.b.c2;have q0:=Z.c0;have q1:=Z.c1;have t0:=Z.th 0;have t1:=Z.th 1;have j:=λW a m=>run_store prog W a y.d m ((h7.t.q y (ah_ hy)).2.2.2).one;have B8:Blk ((w7.setCell ⟨W.heap.size+1,0,none⟩ (I_ y.n)).setCell ⟨W.heap.size+1,1,none⟩ y.d) (W.heap.size+1) [I_ y.n,y.d] 85:=(Z.set 0 _).set 1 _;have r0:=B8.c0;have r1:=B8.c1;have d7:=zy (λV1=>fin.o w7 r7 _ g7 T7 y V1 h7 (hp.o.2.1.trans s7) G7 (ah_ hy) b6 Z);have F7:=zy (J_ w7 (W.heap.size+1) 0 1 (I_ y.n) y.d);generalize y.n=yn at *;generalize y.d=yd at *;generalize T7.length=M7 at *);refine bodyPost_ret (v:=.agg #[I_ yn,yd]) (by simp[results,results54,go_sem,r0,r1]) rfl ?_;exact d7.o _ (by first|exact F7.o|exact F7.o.drew)
def Gl(kv:α->Value)(a:α)(v:Ay):Prop:=∃uT ux uT' ux' k k',v=[.iface uT ux,.iface uT' ux']/\kv a=.agg #[Z_ ((k:Nat):Int),Z_ ((k':Nat):Int)]/\k<=1000000/\k'<=1000000/\(∀W,(method 554 uT ux "Place").run prog W=.ok (72,I_ k) W)/\∀W,(method 554 uT' ux' "Place").run prog W=.ok (72,I_ k') W
def prV(v:Ay):Value:=.agg v.toArray
def mM{W:Aw}{r:ρ}{T:List (Rw α)}{a:α}{v:Ay}(b:P.OK (IU kv Q num N) ⟨fb,tb,mb,.func (.func 52) #[] #[],.func (.func fn) #[fa] #[]⟩)(e:∀W a v,P.QV W a v->Gl kv a v)(h:TbI P (IU kv Q num N) ⟨fb,tb,mb,.func (.func 52) #[] #[],.func (.func fn) #[fa] #[]⟩ W r rv g T)(hv:P.QV W a v)(ha:a∈T.map Rw.a):Calls prog 54 #[P_ tb,prV v] W (tZ P (IU kv Q num N) ⟨fb,tb,mb,.func (.func 52) #[] #[],.func (.func fn) #[fa] #[]⟩ W r rv g T a):=by
 obtain⟨uT,ux,l,l,k,l,rfl,hk,c,d,hm,f⟩:=e W a v hv;obtain⟨x,j,rfl⟩:=a5_.1 ha;obtain⟨i,hi⟩:=bw_ j;obtain⟨e,e⟩:=lJ c d;exact Yi b h hi hk e hm f
def ng{m:Nat}(Iok:(IU kv Q num N).OK)(O:P.OK (IU kv Q num N) ⟨fb,tb,mb,.func (.func 52) #[] #[],.func (.func fn) #[fa] #[]⟩)(hfn:∀args W,(callFunc fn args).run prog W=.ok (.enter fn args) W)(hq:∀W a v,P.QV W a v->Gl kv a v)(hN:N<=1000000)(hF:∀m',m=m'+1->FOK P (IU kv Q num N) ⟨fb,tb,mb,.func (.func 52) #[] #[],.func (.func fn) #[fa] #[]⟩ fn fa prV m'):KOK P (IU kv Q num N) ⟨fb,tb,mb,.func (.func 52) #[] #[],.func (.func fn) #[fa] #[]⟩ 54 prV m:=by
 have cc1:=Nat
 exact cq22_
end
section
variable {α ρ:Type} {P:TP α ρ} {kv:α->Value} {Q:α->Prop} {num:α->Nat} {N fb tb mb:Nat} {kf ff:Ax}
def Kj{W:Aw}{r:ρ}{rv:Ax}{T:List (Rw α)}{a:α}{uT A:Av}{ux B:Ax}(a3:(IU kv Q num N).OK)(C:P.OK (IU kv Q num N) ⟨fb,tb,mb,kf,ff⟩)(h:TbI P (IU kv Q num N) ⟨fb,tb,mb,kf,ff⟩ W r rv false T)(hG:Gd P.Cl T)(hq:P.QV W a [.iface uT ux,.iface A B])(hN:N<=1000000)(hK:∀V,Fr W V N_->Calls prog 54 #[P_ tb,.agg #[.iface uT ux,.iface A B]] V (ju P (IU kv Q num N) ⟨fb,tb,mb,kf,ff⟩ V r rv false T a))(a1:∀V r rv g T,TbI P (IU kv Q num N) ⟨fb,tb,mb,kf,ff⟩ V r rv g T->P.QV V a [.iface uT ux,.iface A B]->a∈T.map Rw.a->Calls prog 54 #[P_ tb,.agg #[.iface uT ux,.iface A B]] V (tZ P (IU kv Q num N) ⟨fb,tb,mb,kf,ff⟩ V r rv g T a))(hL:∀V r rv g T i x,TbI P (IU kv Q num N) ⟨fb,tb,mb,kf,ff⟩ V r rv g T->T[i]?=some x->Calls prog 55 #[P_ tb,Z_ ((i:Nat):Int)] V (cm P (IU kv Q num N) ⟨fb,tb,mb,kf,ff⟩ V r rv g T i)):Calls prog 30 #[P_ tb,.agg #[.iface uT ux,.iface A B]] W (cg P (IU kv Q num N) ⟨fb,tb,mb,kf,ff⟩ W r rv a):=by
 obtain⟨a7,Q_⟩:=y_ (cg P (IU kv Q num N) ⟨fb,tb,mb,kf,ff⟩ W r rv a);rw[<- Q_.o];obtain⟨l,H⟩:=e_ (W.alloc (.cells #[.iface uT ux,.iface A B] 92));have S:Fr W l N_:=by rw[H];exact(A_ W _).alloc _
 have Bb:Blk l W.heap.size [.iface uT ux,.iface A B] 92:=by rw[H];exact B_ W _ _
 have zb:l.heap.size=W.heap.size+1:=by rw[H,zm]
 have a4:∀x,TSS P ⟨fb,tb,mb,kf,ff⟩ rv r x->fb<x/\x<W.heap.size:=λx e=>h.li C e;replace h:=h.new C S;replace hq:=C.qv _ _ _ _ _ hq S (λ_ f=>f.elim);obtain⟨w1,Z⟩:=e_ ((W.alloc (.cells #[.iface uT ux,.iface A B] 92)).alloc (.cells #[O_,.nilIface] 85));have A1:Fr l w1 N_:=by rw[Z,H];exact(A_ _ _).alloc _
 have B1:Blk w1 l.heap.size [O_,.nilIface] 85:=by rw[Z,H];exact B_ _ _ _
 have B0:=A1.bl Bb id;have p0:=B0.c0;have p1:=B0.c1;have a9:=zy (hK w1 (S.trans A1 u_));have Y:∀x,TSS P ⟨fb,tb,mb,kf,ff⟩ rv r x->fb<x/\x<l.heap.size:=λx e=>h.li C e;have a0:fb<tb/\tb<l.heap.size:=Y tb (.inl (.inl rfl));have few:H_ (∀V r rv g (T:List (Rw α)),TbI P (IU kv Q num N) ⟨fb,tb,mb,kf,ff⟩ V r rv g T->T.length<=N):=zy (λ_ _ _ _ _ h=>wL a3 h.t.nd (λx hx=>(h.t.q x hx).1));have start:H_ (∀O r' rv' g' T' (x:Rw α),x∈T'->x.a=a->TbI P (IU kv Q num N) ⟨fb,tb,mb,kf,ff⟩ O r' rv' g' T'->Stp w1 O (TSS P ⟨fb,tb,mb,kf,ff⟩ rv r) (TSS P ⟨fb,tb,mb,kf,ff⟩ rv' r')->Grw P.Cl T T' false g'->wa P (IU kv Q num N) ⟨fb,tb,mb,kf,ff⟩ l r rv a O r' rv' g' T'/\(g'=false->Gd P.Cl T')):=zy (λO r' rv' g' T' x c k2 I J k5=>by
  have hb:=J.1.bl B1 (λe=>absurd (Y _ e).2 (a2_ _))
  refine⟨⟨I,(C_ A1 (λ_ h=>h)).trans J,a5_.2 ⟨x,c,k2⟩,hb,λe=>absurd (Y _ (J.2 _ B1.lt e)).2 (a2_ _)⟩,λe y hy=>?_⟩
  obtain⟨R,rfl,_,_,h3⟩:=k5
  rcases a1_.1 hy with hy|hy
  .exact(hG y hy).more C.mono R
  .exact h3 e y hy)
 have step:H_ (∀V r' rv' g' T' V2 K L G D i,wa P (IU kv Q num N) ⟨fb,tb,mb,kf,ff⟩ l r rv a V r' rv' g' T'->TbI P (IU kv Q num N) ⟨fb,tb,mb,kf,ff⟩ V2 K L G D->Stp V V2 (TSS P ⟨fb,tb,mb,kf,ff⟩ rv' r') (TSS P ⟨fb,tb,mb,kf,ff⟩ L K)->Lk P.Cl T' D g' G i->wa P (IU kv Q num N) ⟨fb,tb,mb,kf,ff⟩ l r rv a V2 K L G D):=zy (λV r' rv' g' T' V2 K L G D i c k2 I J=>
  ⟨k2,c.s.trans I,J.mem c.a,I.1.bl c.b c.n,λe=>c.n (I.2 _ c.b.lt e)⟩)
 have flag:H_ (∀V r' rv' g' T' u,wa P (IU kv Q num N) ⟨fb,tb,mb,kf,ff⟩ l r rv a V r' rv' g' T'->wa P (IU kv Q num N) ⟨fb,tb,mb,kf,ff⟩ l r rv a (V.setCell ⟨tb,4,none⟩ (.bool u)) r' rv' u T'):=zy (λV r' rv' g' T' u c=>by
  have X:Fr V (V.setCell ⟨tb,4,none⟩ (.bool u)) (TbS tb mb rv'):=(X_ V ⟨tb,4,none⟩ (.bool u)).mono (λx _ e=>.inl e)
  have h3:=c.i.turn C (rv':=rv') ⟨X,λ_ _ h=>h⟩ (c.i.t.flag a3 u) (λy hy=>.inl hy)
  exact⟨h3.1,c.s.trans h3.2,c.a,X.bl c.b (λe=>c.n (.inl e)),c.n⟩)
 have fin:H_ (∀V r' rv' T' (y:Rw α) V1,wa P (IU kv Q num N) ⟨fb,tb,mb,kf,ff⟩ l r rv a V r' rv' false T'->Gd P.Cl T'->y∈T'->y.a=a->∀U,TbI P (IU kv Q num N) ⟨fb,tb,mb,kf,ff⟩ U r' rv' false T'->Stp V U (TSS P ⟨fb,tb,mb,kf,ff⟩ rv' r') (TSS P ⟨fb,tb,mb,kf,ff⟩ rv' r')->V1=(U.setCell ⟨W.heap.size+1,0,none⟩ (I_ y.n)).setCell ⟨W.heap.size+1,1,none⟩ y.d->a7 (.returned (.agg #[I_ y.n,y.d])) V1):=zy (λV r' rv' T' y V1 c k2 I J U k5 k6 k7=>by
  rw[Q_.o,k7]
  have X:=J_ U (W.heap.size+1) 0 1 (I_ y.n) y.d
  have hb:=k6.1.bl c.b c.n
  rw[zb]at hb
  have st:=(C_ S (λ_ h=>h)).trans (c.s.trans k6)
  exact⟨r',rv',T',y,rfl,I,J,k5.put C yq_ hb X,⟨st.1.trans X (λy hy e=>M_),st.2⟩,k2⟩)
 have qv:H_ (∀V r' rv' g' T',wa P (IU kv Q num N) ⟨fb,tb,mb,kf,ff⟩ l r rv a V r' rv' g' T'->P.QV V a [.iface uT ux,.iface A B]):=zy (λV r' rv' g' T' k=>C.qv _ _ _ _ _ hq k.s.1 (λx hx=>(Y x hx).1));have pb:H_ (∀V r' rv' g' T',wa P (IU kv Q num N) ⟨fb,tb,mb,kf,ff⟩ l r rv a V r' rv' g' T'->V.cell? ⟨W.heap.size,0,none⟩=some (.iface uT ux)/\V.cell? ⟨W.heap.size,1,none⟩=some (.iface A B)):=zy (λV r' rv' g' T' k=>by
  have b:=k.s.1.bl Bb (λe=>absurd (a4 _ e).2 (a2_ _))
  exact⟨b.cell 0,b.cell 1⟩)
 replace a1:=zy a1;replace hL:=zy hL;replace Z:=zy Z;replace H:=zy H;replace zb:=zy zb;go_in;go_upto_region 1 with fail;rw[<- Z.o];go_wp2_with (go_at_call 54;apply a9.o.mono;rintro e O ⟨K,L,G,D,x2,rfl,x3,x4,h2,s2,G2⟩;obtain⟨S2,H2⟩:=start.o O K L G D x2 x3 x4 h2 s2 G2;replace S2:=zy S2;replace H2:=zy H2);go_loopg [] (phi N D+1) (λm V=>∃r' rv' g' T',H_ (wa P (IU kv Q num N) ⟨fb,tb,mb,kf,ff⟩ l r rv a V r' rv' g' T')/\H_ (g'=false->Gd P.Cl T')/\(g'=true->phi N T'<m));case atStart=>exact⟨K,L,G,D,S2,H2,λ_=>M_⟩
 case round=>
  obtain⟨r3,b5,g3,F,z,H3,a2⟩:=hrel;have c4:=z.o.i.t.b.c4;have t4:=z.o.i.t.b.th 4;cases g3
  .have a6:=zy (H3.o rfl);obtain⟨p0,p1⟩:=pb.o _ _ _ _ _ z;go_wp2_with (go_at_call 54;apply(a1.o _ _ _ _ _ z.o.i (qv.o _ _ _ _ _ z) z.o.a).mono;rintro e w5 ⟨y,rfl,y1,y2,h5,s5⟩;have E:=s5.1.bl z.o.b z.o.n;rw[zb.o]at E;have q0:=E.c0;have q1:=E.c1;have z0:=E.th 0;have z1:=E.th 1;have s1:=λW a m=>run_store prog W a y.d m ((h5.t.q y y1).2.2.2).one;have B8:Blk ((w5.setCell ⟨W.heap.size+1,0,none⟩ (I_ y.n)).setCell ⟨W.heap.size+1,1,none⟩ y.d) (W.heap.size+1) [I_ y.n,y.d] 85:=(E.set 0 _).set 1 _;have x0:=B8.c0;have x1:=B8.c1;have a8:=zy (λV1=>fin.o _ r3 b5 F y V1 z a6 y1 y2 w5 h5 s5);generalize y.n=yn at *;generalize y.d=yd at *);refine bodyPost_ret (v:=.agg #[I_ yn,yd]) (by simp[results,results30,go_sem,x0,x1]) rfl ?_;exact a8.o _ rfl
  .have hm:=a2 rfl;have S4:=zy (flag.o _ _ _ _ _ false z);obtain⟨ra,rc,rfl⟩:=zw z.o.i.t.row;have c2:=S4.o.i.t.b.c2;have b6:=few.o _ _ _ _ _ S4.o.i;have a5:H_ (SIn P.Cl N F.length 0 (phi N F) false F):=zy ⟨l_,l_,λe=>yk_,λ_ i x hx hi=>by
    have:=(aj_.1 hx).1
    omega⟩
   generalize hM:F.length=M at *;replace hM:=zy hM;go_wp2;go_loopg [21] (M+1) (λm v V=>∃j:Nat,∃r' rv' g' T',v=I_ j/\j<=M/\M+1-j<=m/\H_ (wa P (IU kv Q num N) ⟨fb,tb,mb,kf,ff⟩ l r rv a V r' rv' g' T')/\H_ (SIn P.Cl N M j (phi N F) g' T'));case atStart=>exact⟨0,_,_,_,_,rfl,al_ _,M_,S4,a5⟩
   case round=>
    obtain⟨j,r5,b8,g5,T5,rfl,hj,b7,S5,I5⟩:=hrel;by_cases a0:j<M
    .have b4:(j:Int)<(M:Int):=M_;obtain⟨x,hx⟩:∃x,T5[j]?=some x:=⟨_,ai_ (bi_ a0 I5.o.1)⟩;replace hx:=zy hx;go_wp2_with (go_at_call 55;apply(hL.o _ _ _ _ _ j x S5.o.i hx).mono;rintro e w6 ⟨r6,b9,g6,T6,rfl,h6,s6,l6⟩;have S6:=zy (step.o _ _ _ _ _ _ _ _ _ _ _ S5 h6 s6 l6);have I6:=zy (I5.o.step C.mono l6 (few.o _ _ _ _ _ h6) (λy hy=>(S5.o.i.t.q y hy).2.2.1) (λy hy=>(h6.t.q y hy).2.2.1)));go_roundg (M+1-(j+1));case measure=>omega
     case rel=>exact⟨j+1,_,_,_,_,by simp,a0,l_,S6,I6⟩
    .have b4:¬((j:Int)<(M:Int)):=M_;obtain rfl:j=M:=M_;have nx:H_ (g5=false->Gd P.Cl T5):=zy (λe y hy=>by
      obtain⟨i,hi⟩:=bw_ hy
      exact I5.o.2.2.2 e i y hi M_)
     have E:=I5.o.2.2.1;go_wp2;go_roundg (phi N F);case measure=>exact hm
     case rel=>exact⟨_,_,_,_,S5,nx,E⟩
end
def FX.cell5{F:FD}{W:Aw}(h:FX F W):W.cell? ⟨F.fb,5,none⟩=some (P_ F.tu):=h.b.cell 5
def Zt{F:FD}(H:F.OK){W:Aw}{r:By}{uv:Ax}{T:Ah}{p m:Nat}{l:Af}{y:PT}{X:Ai}(hK:KOK (uT F) (uI F) (uL F) 54 prV m)(h:TbI (uT F) (uI F) (uL F) W r rv g T)(ho:W.ownsRow 0 46 1 uv l.length ((List.range l.length).map X))(hP:∀g,uv.ownBlock=some g->F.P g)(hX:∀i t,l[i]?=some t->TyV W F.P t (X i))(hy:TyV W F.P' y (.iface bT bx))(hq:okQ F (.ty (.alts p l)))(hqy:okY F y)(hm:90000<=T.length+m):Calls prog 159 #[P_ F.fb,.agg #[uv,.iface bT bx]] W (yB (uT F) (uI F) (uL F) W r rv g T (.alts p l,y)):=by
 have cc1:=Nat
 exact cq1_
set_option maxRecDepth 100000
set_option linter.defProp false
@[go_sem]def Ur:=yI 308 208
@[go_sem]def Jt:=vt 308 208 (.agg #[])
section
variable {W:Aw} {R:Bt} {fb:Nat} {wT:Av} {wx:Ax}
def cq8_{p:Prop}(h:p:=by
 refine hq_ λs k=>?_;have f:H_ (∀o,Fr W ((W.alloc (.cells #[O_,.nilIface] 85)).alloc o) N_/\Blk ((W.alloc (.cells #[O_,.nilIface] 85)).alloc o) W.heap.size [O_,.nilIface] 85):=zy (λo=>⟨((A_ W _).alloc _).alloc _,(B_ W _ _).alloc _⟩);replace h:=zy h;(first|(have:=cc4;have n0:=Jt 280 D_)|(have:=cc5;have t:=yt hc)|(skip));go_in;go_wp2_with ((first|go_at_call 161|go_at_call 162|go_at_call 160|go_at_call 159|go_at_call 92|go_at_call 158);apply(h.o _ ?fr ?bl).mono;(case fr=>exact(f.o _).1);(case bl=>exact(f.o _).2);rintro e z ⟨n,d,rfl,hd,hb,c⟩;have l:=hb.cell 0;have r:=hb.cell 1;have x:=hb.th 0;have y:=hb.th 1;have u:=(λW a m=>run_store prog W a d m hd.one);have b:=(hb.set 0 (I_ n)).set 1 d;have i:=b.cell 0;have j:=b.cell 1;simp only[am_,an_,aa_,ab_]at l r i j;replace c:=zy c;clear b hb hd);refine bodyPost_ret (v:=.agg #[I_ n,d]) (by simp[results,results92,go_sem,i,j]) rfl ?_;rw[k.o];exact c.o):p:=h
def sW{tb:Nat}(hc:W.cell? ⟨fb,4,none⟩=some (P_ tb))(h:∀W1,Fr W W1 N_->Blk W1 W.heap.size [O_,.nilIface] 85->Calls prog 158 #[P_ tb,.iface wT wx] W1 (kL W R)):Calls prog 92 #[P_ fb,.iface 308 (.agg #[]),.iface wT wx] W R:=by
 have cc5:=Nat
 exact cq8_
def sQ(h:∀W1,Fr W W1 N_->Blk W1 W.heap.size [O_,.nilIface] 85->Calls prog 159 #[P_ fb,.agg #[.slice ua un uc,.iface bT bx]] W1 (kL W R)):Calls prog 92 #[P_ fb,.iface 277 (.agg #[.slice ua un uc,.iface bT bx]),.iface wT wx] W R:=by
 have cc3:=Nat
 exact cq8_
def eP{n0:Int}(h:∀W1,Fr W W1 N_->Blk W1 W.heap.size [O_,.nilIface] 85->Calls prog 92 #[P_ fb,.iface bT bx,.iface wT wx] W1 (kL W R)):Calls prog 92 #[P_ fb,.iface 280 (.agg #[Z_ n0,.iface bT bx]),.iface wT wx] W R:=by
 have cc4:=Nat
 exact cq8_
def lz{aT:Av}{ax:Ax}(h:∀W1,Fr W W1 N_->Blk W1 W.heap.size [O_,.nilIface] 85->Calls prog 160 #[P_ fb,.agg #[.iface aT ax,.iface bT bx],.iface wT wx] W1 (kL W R)):Calls prog 92 #[P_ fb,.iface 282 (.agg #[.iface aT ax,.iface bT bx]),.iface wT wx] W R:=by
 have cc2:=Nat
 exact cq8_
def ui{vn:Nat}{a b:Am}(h:∀W1,Fr W W1 N_->Blk W1 W.heap.size [O_,.nilIface] 85->Calls prog 161 #[.agg #[Z_ p,.slice ua un uc,.pointer a,Z_ q,.slice va vn vc,.pointer b]] W1 (kL W R)):Calls prog 92 #[P_ fb,.iface 285 (.agg #[Z_ p,.slice ua un uc,.pointer a,Z_ q,.slice va vn vc,.pointer b]),.iface wT wx] W R:=by
 exact cq8_
def cd{vn:Nat}(h:∀W1,Fr W W1 N_->Blk W1 W.heap.size [O_,.nilIface] 85->Calls prog 162 #[P_ fb,.agg #[Z_ p,.slice ua un uc,Z_ q,.slice va vn vc]] W1 (kL W R)):Calls prog 92 #[P_ fb,.iface 288 (.agg #[Z_ p,.slice ua un uc,Z_ q,.slice va vn vc]),.iface wT wx] W R:=by
 have cc1:=Nat
 exact cq8_
def eB(h:∀a,Fr W a N_->R (.returned (.agg #[O_,.nilIface])) a):Calls prog 92 #[P_ fb,.iface 275 (.agg #[]),.iface wT wx] W R:=by
 refine hq_ λa i=>?_;obtain⟨w1,hw1⟩:=e_ (W.alloc (.cells #[O_,.nilIface] 85));have c:Fr W w1 N_:=xy_
 have a:Blk w1 W.heap.size [O_,.nilIface] 85:=yb_
 have j:=a.cell 0;have k:=a.cell 1;have b:=a.th 0;have b:=a.th 1;have b:=(a.set 0 (O_)).set 1 .nilIface;have d:=b.cell 0;have f:=b.cell 1;simp only[am_,an_,aa_,ab_]at j k d f;have fin:=zy (h _ (c.trans (J_ w1 W.heap.size 0 1 (O_) .nilIface) (λx hx e=>M_)));replace hw1:=zy hw1;go_in;go_upto_region 1 with fail;rw[<- hw1.o];go_wp2;refine bodyPost_ret (v:=.agg #[O_,.nilIface]) (by simp[results,results92,go_sem,d,f]) rfl ?_;rw[i.o];exact fin
end
def Gu(W:Aw)(lw lr:As)(o:Ac)(e:Ak)(w':Aw):Prop:=
 Fr W w' N_/\((e=.returned (.agg #[O_,.nilIface])/\∀(i:Nat) (c:Nat×Nat),lw[i]?=some c->qh lr o c.1≠none)\/∃(i:Nat) (c:Nat×Nat),lw[i]?=some c/\qh lr o c.1=none/\e=.returned (.agg #[Z_ 1,.iface 154 (.agg #[U_ c.1,I_ i])]))
def BF{W:Aw}{g cap:Nat}{l:As}(ho:W.ownsRow 0 191 2 (S_ g l.length cap) l.length (zE l)){i:Nat}{c:Nat×Nat}(hi:l[i]?=some c):W.cell? ⟨g,i*2,none⟩=some (I_ c.2)/\W.cell? ⟨g,i*2+1,none⟩=some (U_ c.1):=by
 have h0:=gY (f:=λq:Nat×Nat=>[Value.int .i64 (q.2:Int),Value.int .u8 (q.1:Int)]) (w:=2) (l:=l) (λx _=>rfl) (j:=0) hi M_;have h1:=gY (f:=λq:Nat×Nat=>[Value.int .i64 (q.2:Int),Value.int .u8 (q.1:Int)]) (w:=2) (l:=l) (λx _=>rfl) (j:=1) hi M_;exact⟨zr ho rfl h0,zr ho rfl h1⟩
def Vt{W:Aw}{Q:Az}{lw lr:As}{o:Ac}{a b:Am}(hw:W.ownsRow 0 191 2 (.slice ua lw.length uc) lw.length (zE lw))(hr:W.ownsRow 0 191 2 (.slice va lr.length vc) lr.length (zE lr))(hu:qb W Q o (.pointer b))(hl:lw.length<=300)(J:lr.length<=300):Calls prog 161 #[.agg #[Z_ p,.slice ua lw.length uc,.pointer a,Z_ q,.slice va lr.length vc,.pointer b]] W (Gu W lw lr o):=by
 obtain⟨D,r⟩:=y_ (Gu W lw lr o);rw[<- r.o];obtain⟨w1,hw1⟩:=e_ ((W.alloc (.cells #[Z_ p,.slice ua lw.length uc,.pointer a,Z_ q,.slice va lr.length vc,.pointer b] 285)).alloc (.cells #[O_,.nilIface] 85));have m:Fr W w1 N_:=x9_
 have t:Blk w1 W.heap.size [Z_ p,.slice ua lw.length uc,.pointer a,Z_ q,.slice va lr.length vc,.pointer b] 285:=xg_
 have C:Blk w1 (W.heap.size+1) [O_,.nilIface] 85:=by
  rw[hw1];have:=B_ (W.alloc (.cells #[Z_ p,.slice ua lw.length uc,.pointer a,Z_ q,.slice va lr.length vc,.pointer b] 285)) #[O_,.nilIface] 85;rw[zm]at this;exact this
 have c1:=t.c1;have u:H_ (∀V,Fr w1 V N_->V.cell? ⟨W.heap.size,3,none⟩=some (Z_ q)/\V.cell? ⟨W.heap.size,4,none⟩=some (.slice va lr.length vc)/\V.cell? ⟨W.heap.size,5,none⟩=some (.pointer b)/\Blk V (W.heap.size+1) [O_,.nilIface] 85):=zy (λV d=>by
  have k:=d.bl t id
  exact⟨k.cell 3,k.cell 4,k.cell 5,d.bl C id⟩)
 have item:H_ (∀V (i:Nat) (c:Nat×Nat),Fr w1 V N_->lw[i]?=some c->∃g,ua=some ⟨g,0,none⟩/\V.cell? ⟨g,i*2,none⟩=some (I_ c.2)/\V.cell? ⟨g,i*2+1,none⟩=some (U_ c.1)):=zy (λV i c d hi=>by
  have o1:=zj hw (m.trans d u_) u_
  obtain⟨g,U,e⟩:=zg o1 (o1_ ((aj_.1 hi).1))
  cases e
  exact⟨g,rfl,BF o1 hi⟩)
 have L:H_ (∀V c,Fr w1 V N_->Calls prog 191 #[.agg #[Z_ q,.slice va lr.length vc,.pointer b],.int .u8 ((c:Nat):Int)] V λe w'=>e=.returned (gv (qh lr o c))/\Fr V w' N_):=zy (λV c d=>by
  have hf:=m.trans d u_
  exact rl (zj hr hf u_) (hu.fr hf u_) J)
 have no:H_ (∀V,Fr w1 V N_->(∀(i:Nat) (c:Nat×Nat),lw[i]?=some c->qh lr o c.1≠none)->D (.returned (.agg #[O_,.nilIface])) ((V.setCell ⟨W.heap.size+1,0,none⟩ (O_)).setCell ⟨W.heap.size+1,1,none⟩ .nilIface)):=zy (λV d k=>by
  rw[r.o]
  exact⟨(m.trans d u_).trans (J_ V (W.heap.size+1) 0 1 _ _) (λx hx e=>M_),.inl ⟨rfl,k⟩⟩)
 have T:H_ (∀V (i:Nat) (c:Nat×Nat),Fr w1 V N_->lw[i]?=some c->qh lr o c.1=none->D (.returned (.agg #[Z_ 1,.iface 154 (.agg #[U_ c.1,I_ i])])) ((V.setCell ⟨W.heap.size+1,0,none⟩ (Z_ 1)).setCell ⟨W.heap.size+1,1,none⟩ (.iface 154 (.agg #[U_ c.1,I_ i])))):=zy (λV i c d G D=>by
  rw[r.o]
  exact⟨(m.trans d u_).trans (J_ V (W.heap.size+1) 0 1 _ _) (λx hx e=>M_),.inr ⟨i,c,G,D,rfl⟩⟩)
 replace hw1:=zy hw1;go_in;go_upto_region 1 with fail;rw[<- hw1.o];go_wp2;go_loopg [11] (lw.length+1) (λmm v V=>∃i:Nat,v=I_ i/\H_ (Fr w1 V N_)/\i<=lw.length/\lw.length+1-i<=mm/\H_ (∀(j:Nat) (c:Nat×Nat),j<i->lw[j]?=some c->qh lr o c.1≠none));case atStart=>exact⟨0,rfl,zy (A_ _ _),al_ _,M_,zy (λj c E=>absurd E (Nat.not_lt_zero j))⟩
 case round=>
  obtain⟨i,rfl,d,hi,m,hs⟩:=hrel;by_cases F:i<lw.length
  .have K:(i:Int)<(lw.length:Int):=M_;obtain⟨c,hc⟩:∃c,lw[i]?=some c:=⟨_,ai_ F⟩;obtain⟨g,rfl,k0,G⟩:=item.o wr i c d hc;obtain⟨s,hw4⟩:=e_ (wr.alloc (.cells #[I_ c.2,U_ c.1] 191));have f4:Fr w1 s N_:=by rw[hw4];exact d.o.alloc _
   have m:Blk s wr.heap.size [I_ c.2,U_ c.1] 191:=yv_
   obtain⟨d3,d4,d5,-⟩:=u.o s f4;have I:=m.c1;have h:=zy (L.o s c.1 f4);replace hw4:=zy hw4;cases l:qh lr o c.1 with
   |none=>
    rw[l]at h;have n:gv none=.tuple #[O_,.bool false]:=rfl;rw[n]at h;have fin:=zy (λV d=>T.o V i c d hc l);generalize c.1=cc at *;generalize c.2=cp at *;go_upto_region 4 with fail;rw[<- hw4.o];go_wp2_with (first
     |(go_at_call 191;apply h.o.mono;rintro e S ⟨rfl,f5⟩;have y:=zy (f4.trans f5 u_);have m:=f5.ke I)
     |(go_at_call 87;apply nR.mono;rintro e z ⟨rfl,r⟩;have m:=y.o.trans r u_;have hb:=(u.o z m).2.2.2;have A:=hb.cell 0;have B:=hb.cell 1;have M:=hb.th 0;have O:=hb.th 1;have f:=(hb.set 0 (Z_ 1)).set 1 (.iface 154 (.agg #[U_ cc,I_ i]));have x0:=f.cell 0;have x1:=f.cell 1;simp only[am_,an_,aa_,ab_]at A B x0 x1;have fn:=zy (fin.o z m)))
    refine bodyPost_ret (v:=.agg #[Z_ 1,.iface 154 (.agg #[U_ cc,I_ i])]) z5_ rfl ?_;exact fn
   |some k=>
    rw[l]at h;have n:gv (some k)=.tuple #[I_ k,.bool true]:=rfl;rw[n]at h;have nx:H_ (∀(j:Nat) (c:Nat×Nat),j<i+1->lw[j]?=some c->qh lr o c.1≠none):=zy (λj H E z=>by
     by_cases e:j=i
     .subst e
      rw[hc]at z
      cases z
      rw[l]
      simp
     .exact hs.o j H M_ z)
    generalize c.1=cc at *;generalize c.2=cp at *;go_upto_region 4 with fail;rw[<- hw4.o];go_wp2_with (go_at_call 191;apply h.o.mono;rintro e S ⟨rfl,f5⟩;have y:=zy (f4.trans f5 u_));go_roundg (lw.length+1-(i+1));case measure=>omega
    case rel=>exact⟨i+1,by simp,y,F,l_,nx⟩
  .have K:¬((i:Int)<(lw.length:Int)):=M_;have fin:=zy (no.o wr d (λj c hc=>hs.o j c (o1_ ((aj_.1 hc).1)) hc));have hb:=(u.o wr d).2.2.2;have A:=hb.cell 0;have B:=hb.cell 1;have M:=hb.th 0;have O:=hb.th 1;have f:=(hb.set 0 (O_)).set 1 .nilIface;have x0:=f.cell 0;have x1:=f.cell 1;simp only[am_,an_,aa_,ab_]at A B x0 x1;go_wp2;refine bodyPost_ret (v:=.agg #[O_,.nilIface]) z5_ rfl ?_;exact fin
set_option maxRecDepth 100000
set_option linter.defProp false
@[go_sem]def Mz:=yI 223 20
@[go_sem]def Qm:=vt 223 20 (.agg #[O_,.nilIface])
def Wn(u:Av)(h:u≠223)(v:Ax):Calls prog 211 #[.iface u v] w λe w'=>e=.returned (.bool false)/\Fr w w' N_:=by
 refine hq_ λa a=>?_;have n:=Qm u h;go_in;go_wp2;try go_ret
 rw[a.o];exact⟨rfl,by first|exact A_ _ _|exact(A_ _ _).alloc _⟩
def JJ{vT:Av}{vx:Ax}:Calls prog 211 #[.iface 223 (.agg #[Z_ p,.iface vT vx])] w λe w'=>e=.returned (.bool true)/\Fr w w' N_:=by
 refine hq_ λa a=>?_;go_in;go_wp2;try go_ret
 rw[a.o];exact⟨rfl,by first|exact A_ _ _|exact(A_ _ _).alloc _⟩
def ItR(c B:Nat)(dv v:Ax)(W:Aw):Prop:=
 (c=91/\∃pv,v=.iface 144 pv/\W.ownsRow B 52 1 pv 1 [dv])\/(c=123/\∃pv,v=.iface 147 pv/\W.ownsRow B 201 2 pv 1 [.string ⟨#[97]⟩,dv])
def ItR.fr{c B:Nat}{dv v:Ax}{W W':Aw}{S:Az}(h:ItR c B dv v W)(hf:Fr W W' S)(b:∀g,B<=g->¬S g):ItR c B dv v W':=by
 rcases h with⟨e,pv,h1,a⟩|⟨e,pv,h1,a⟩
 .exact .inl ⟨e,pv,h1,zj a hf (λg hg=>b g (a.lt g hg).1)⟩
 .exact .inr ⟨e,pv,h1,zj a hf (λg hg=>b g (a.lt g hg).1)⟩
def YV{b c B:Nat}{pv dT:Ax}{wT:Av}{wx:Ax}(hc:(c=91/\wT≠223)\/(c=123/\wT=223/\∃p vT vx,wx=.agg #[Z_ p,.iface vT vx]))(n:IfV dT)(h:Blk w b [.iface wT wx] 46)(ho:w.ownsRow B 52 1 pv 1 [dT])(hB:B<=w.heap.size):Calls prog 210 #[pv,P_ b] w λe w'=>∃v,e=.returned v/\IfV v/\Fr w w' N_/\ItR c B dT v w':=by
 obtain⟨k,d⟩:=y_ (λ(e:Ending) (w':World)=>∃v,e=.returned v/\IfV v/\Fr w w' N_/\ItR c B dT v w');rw[<- d.o];have c0:=h.c0;obtain⟨g,l,rfl⟩:=zg ho M_;have m:w.cell? ⟨g,0,none⟩=some dT:=zr ho rfl rfl;rcases hc with⟨hc,hw⟩|⟨hc,rfl,p,vT,vx,rfl⟩
 .have i:=zy (Wn (w:=w) wT hw wx);have fin:H_ (∀V,Fr w V N_->k (.returned (.iface 144 (S_ g 1 l))) V):=zy (λV f=>by
   rw[d.o]
   exact⟨_,rfl,.inr ⟨_,_,rfl⟩,f,.inl ⟨hc,_,rfl,zj ho f u_⟩⟩)
  replace hc:=zy hc;go_in;go_wp2_with (go_at_call 211;apply i.o.mono;rintro e j ⟨rfl,a⟩;have fn:=zy (fin.o j a));try go_ret
  exact fn
 .have i:=zy (JJ (w:=w) (p:=p) (vT:=vT) (vx:=vx));have fin:H_ (∀V,Fr w V N_->k (.returned (.iface 147 (S_ V.heap.size 1 1))) (V.alloc (.cells #[.string ⟨#[97]⟩,dT] 201))):=zy (λV f=>by
   rw[d.o]
   refine⟨_,rfl,.inr ⟨_,_,rfl⟩,f.alloc _,.inr ⟨hc,_,rfl,?_⟩⟩
   exact cU (cs:=[.string ⟨#[97]⟩,dT]) (B_ V #[.string ⟨#[97]⟩,dT] 201) (ak_ hB f.size) rfl xt_)
  replace hc:=zy hc;rcases n with rfl|⟨d,tx,rfl⟩;all_goals
   go_in;go_wp2_with (go_at_call 211;apply i.o.mono;rintro e j ⟨rfl,a⟩;have d:=a.ke m;have fn:=zy (fin.o j a));try go_ret
   exact fn
end Go.Proofs.YtlmebjdmdogmfaaGreatDoor
