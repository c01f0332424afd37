import Derived.Test.YtjkiencmjggakaaGreatDoorW22
set_option maxHeartbeats 16000000
set_option maxRecDepth 100000
set_option linter.unusedVariables false
set_option linter.defProp false
set_option linter.unusedSimpArgs false
open Go.Proofs.Tryz
namespace Go.Proofs.YtjkiencmjggakaaGreatDoor
open Go.RowKit
variable {rv bx ux ux':Value}{g:Bool}{bT uT':TypeId}{ua:Option Addr}{un uc:Nat}
section
variable {α ρ:Type} {P:TP α ρ} {kv:α->Value} {Q:α->Prop} {num:α->Nat} {N fb tb mb:Nat} {fn:FuncId} {fa:Value}
def ol{W:World}{r:ρ}{rv:Value}{g:Bool}{T:List (Rw α)}{i:Nat}{x:Rw α}{uT uT':TypeId}{ux ux':Value}{k s:Nat}{kl:Lit}(I:P.OK (IU kv Q num N) ⟨fb,tb,mb,.func (.func 50) #[] #[],.func (.func fn) #[fa] #[]⟩)(h:TbI P (IU kv Q num N) ⟨fb,tb,mb,.func (.func 50) #[] #[],.func (.func fn) #[fa] #[]⟩ W r rv g T)(hx:T[i]?=some x)(hk:kv x.a=.agg #[I_ k,I_ s])(a1:keyOf prog 96 (.agg #[I_ k,I_ s])=some kl)(hm:∀W,(method 525 uT ux "Place").run prog W=.ok (70,I_ k) W)(a2:∀W,(method 525 uT' ux' "Place").run prog W=.ok (70,I_ s) W):Calls prog 52 #[P_ tb,.agg #[.iface uT ux,.iface uT' ux']] W (lW P (IU kv Q num N) ⟨fb,tb,mb,.func (.func 50) #[] #[],.func (.func fn) #[fa] #[]⟩ W r rv g T x.a):=by
 obtain⟨a4,Q_⟩:=y_ (lW P (IU kv Q num N) ⟨fb,tb,mb,.func (.func 50) #[] #[],.func (.func fn) #[fa] #[]⟩ W r rv g T x.a);rw[<- Q_.o];have U:=aj_ hx;obtain⟨w1,C⟩:=e_ ((W.alloc (.cells #[.iface uT ux,.iface uT' ux'] 95)).alloc (.cells #[O_,.nilIface] 88));have X:Fr W w1 N_:=by rw[C];exact((A_ W _).alloc _).alloc _
 have Y:Blk w1 W.heap.size [.iface uT ux,.iface uT' ux'] 95:=by rw[C];exact(B_ W _ _).alloc _
 have B1:Blk w1 (W.heap.size+1) [O_,.nilIface] 88:=by
  rw[C];have:=B_ (W.alloc (.cells #[.iface uT ux,.iface uT' ux'] 95)) #[O_,.nilIface] 88;rw[zi]at this;exact this
 have h1:=h.new I X;have c0:=h1.t.b.c0;have G:=Y.c0;have H:=Y.c1;have hi:=(ae_.1 hx).1;have a6:(i:Int)<(T.length:Int):=M_;have a3:=((h.t.q x U).2.2.2);have s1:=λW a m=>run_store prog W a x.d m a3.one;have rest:H_ (∀V,Fr w1 V N_->∃D b cap,rv=S_ b T.length cap/\V.ownsMap prog 96 (plainElem prog 3) mb T.length D/\Maps.has D kl=true/\D.atKey kl (.lit (.int .i64 0))=.lit (.int .i64 (i:Int))/\V.cell? ⟨tb,3,none⟩=some (.map (some mb))/\V.cell? ⟨tb,2,none⟩=some (S_ b T.length cap)/\V.cell? ⟨b,i*4+2,none⟩=some (I_ x.n)/\V.cell? ⟨b,i*4+2+1,none⟩=some x.d/\Blk V (W.heap.size+1) [O_,.nilIface] 88/\a4 (.returned (.agg #[I_ x.n,x.d])) ((V.setCell ⟨W.heap.size+1,0,none⟩ (I_ x.n)).setCell ⟨W.heap.size+1,1,none⟩ x.d).drew):=zy (λV S=>by
  have hf:=X.trans S u_
  have F:=h.new I hf
  obtain⟨D,A,a5⟩:=F.t.map
  obtain⟨hh,B⟩:=(a5 x.a _ (h.t.q x U).1 (show keyOf prog 96 (kv x.a)=_ by rw[hk];exact a1)).1 i x hx rfl
  obtain⟨b,cap,u,u',rfl,hu,e0,e9,e1,e2,-,-⟩:=F.cellsU hx
  have f:=S.bl B1 id
  have hF:=(V_ V (W.heap.size+1) 0 1 (I_ x.n) x.d).drew
  refine⟨D,b,cap,rfl,A,hh,B,F.t.b.cell 3,F.t.b.cell 2,e1,e2,f,?_⟩
  rw[Q_.o]
  have a7:fb<tb/\tb<W.heap.size:=(h.t.li (x:=tb) (.inl rfl))
  exact⟨x,rfl,U,rfl,F.put I (by show fb<_;omega) f hF,⟨(hf.mono v_).trans hF (λy hy e=>M_),λ_ _ e=>e⟩⟩)
 generalize x.n=xn at *;generalize x.d=xd at *;replace C:=zy C;go_in;go_upto_region 1 with fail;rw[<- C.o];go_cut [5] (λv V=>∃q,v=P_ q/\H_ (Fr w1 V N_)/\H_ (Blk V q [I_ k,I_ s] 96));case first=>
  refine tr_ 7 (λV=>f_ V tb 0 (.func (.func 50) #[] #[])/\f_ V W.heap.size 0 (.iface uT ux)/\f_ V W.heap.size 1 (.iface uT' ux')) ?_;refine tz_ 0 ?_;refine tz_ 1 ?_;refine tz_ 2 ?_;refine tz_ 3 ?_;refine tz_ 4 ?_;refine jp 5 6 rfl rfl K_ (λ_=>⟨c0,G,H⟩) (λK l=>?_) (λK l=>?_)
  .go_simp;apply(ku hm a2).mono;rintro e E ⟨rfl,z⟩;refine l _ _ ?_;have j:Fr w1 E N_:=(A_ w1 _).drew.trans z u_;have fin:=zy (j.alloc (.cells #[I_ k,I_ s] 96));have a0:=zy (B_ E #[I_ k,I_ s] 96);have J:=j.ke c0;have L:=j.ke G;have O:=j.ke H;have p:=λo=>(A_ E N_).alloc o;refine t1_ 6 ⟨J,L,O⟩ ?_;refine t1_ 7 ⟨(p _).ke J,(p _).ke L,(p _).ke O⟩ ?_;refine td_ ?_ _;go_wp2;go_meet;exact⟨_,rfl,fin,a0⟩
  .go_simp;refine l _ _ ?_;have p:=(A_ w1 N_).alloc (.cells #[O_,O_] 96);have f:=B_ w1 #[O_,O_] 96;refine zw 5 rfl K_ (λ_=>⟨p.ke c0,p.ke G,p.ke H⟩) (λK l=>?_);go_simp;apply(ku hm a2).mono;rintro e E ⟨rfl,z⟩;refine l _ _ ?_;have j:Fr w1 E N_:=p.drew.trans z u_;have w:=z.bl f.drew id;have fin:=zy (j.trans (V_ E w1.heap.size 0 1 (I_ k) (I_ s)) (λx hx e=>M_));have a0:=zy ((w.set 0 (I_ k)).set 1 (I_ s));have J:=j.ke c0;have L:=j.ke G;have O:=j.ke H;have k0:=w.c0;have k1:=w.c1;have t0:=w.th 0;have t1:=w.th 1;refine t1_ 7 ⟨J,L,O⟩ ?_;refine td_ ?_ _;go_wp2;go_meet;exact⟨_,rfl,fin,a0⟩
 case rest=>
  obtain⟨q,rfl,S,hB⟩:=hcut;obtain⟨D,b,cap,rfl,A,hh,B,d3,d2,e1,e2,f,fin⟩:=rest.o _ S;have q0:=hB.o.c0;have q1:=hB.o.c1;replace A:=zy A;replace B:=zy B;generalize T.length=M at *;go_wp2;refine tr_ 10 (λV=>f_ V tb 3 (.map (some mb))/\f_ V q 0 (I_ k)/\f_ V q 1 (I_ s)) ?_;refine tz_ 0 ?_;refine tz_ 1 ?_;refine tz_ 2 ?_;refine tz_ 3 ?_;refine tz_ 4 ?_;refine zw 5 rfl K_ (λ_=>⟨d3,q0,q1⟩) (λK l=>?_);rw[i_ (show Region.wanted _ _=true by kernel_rfl)];refine ZX _ _ rfl rfl A rfl a1 ?_;intro c hc;refine l _ _ ?_;rw[B.o]at hc;simp only[DataW.lit.injEq,Lit.int.injEq,true_and]at hc;subst hc;rw[hh];refine tz_ 6 ?_;refine tz_ 7 ?_;refine tz_ 8 ?_;refine t1_ 9 ⟨d3,q0,q1⟩ ?_;refine t1_ 10 ⟨d3,q0,q1⟩ ?_;refine td_ ?_ _;have z0:=f.cell 0;have z1:=f.cell 1;have t0:=f.th 0;have t1:=f.th 1;have Z:=(f.set 0 (I_ xn)).set 1 xd;have r0:=Z.cell 0;have r1:=Z.cell 1;simp only[am_,an_,aa_,ab_]at z0 z1 r0 r1;replace fin:=zy fin;go_wp2;refine bodyPost_ret (v:=.agg #[I_ xn,xd]) (by simp[results,results52,go_sem,r0,r1]) rfl ?_;exact fin
end
section
variable {α ρ:Type} {P:TP α ρ} {kv:α->Value} {Q:α->Prop} {num:α->Nat} {N fb tb mb:Nat} {fn:FuncId} {fa:Value}
def oh{W:World}{r:ρ}{T:List (Rw α)}{a:α}{uT:TypeId}{k I:Nat}{kl:Lit}(a3:(IU kv Q num N).OK)(s:P.OK (IU kv Q num N) ⟨fb,tb,mb,.func (.func 50) #[] #[],.func (.func fn) #[fa] #[]⟩)(h:TbI P (IU kv Q num N) ⟨fb,tb,mb,.func (.func 50) #[] #[],.func (.func fn) #[fa] #[]⟩ W r rv g T)(ha:Q a)(hq:P.QV W a [.iface uT ux,.iface uT' ux'])(hx:∀x∈T,x.a≠a)(hk:kv a=.agg #[I_ k,I_ I])(a8:keyOf prog 96 (.agg #[I_ k,I_ I])=some kl)(hm:∀W,(method 525 uT ux "Place").run prog W=.ok (70,I_ k) W)(b8:∀W,(method 525 uT' ux' "Place").run prog W=.ok (70,I_ I) W)(hT:T.length<=1000000)(hL:∀V d7,TbI P (IU kv Q num N) ⟨fb,tb,mb,.func (.func 50) #[] #[],.func (.func fn) #[fa] #[]⟩ V r d7 g (T++[⟨a,[.iface uT ux,.iface uT' ux'],0,.nilIface⟩])->Calls prog 53 #[P_ tb,I_ T.length] V (uq P (IU kv Q num N) ⟨fb,tb,mb,.func (.func 50) #[] #[],.func (.func fn) #[fa] #[]⟩ V r d7 g (T++[⟨a,[.iface uT ux,.iface uT' ux'],0,.nilIface⟩]) T.length)):Calls prog 52 #[P_ tb,.agg #[.iface uT ux,.iface uT' ux']] W (vN P (IU kv Q num N) ⟨fb,tb,mb,.func (.func 50) #[] #[],.func (.func fn) #[fa] #[]⟩ W r rv g T a):=by
 obtain⟨d8,Q_⟩:=y_ (vN P (IU kv Q num N) ⟨fb,tb,mb,.func (.func 50) #[] #[],.func (.func fn) #[fa] #[]⟩ W r rv g T a);rw[<- Q_.o];obtain⟨w1,a1⟩:=e_ ((W.alloc (.cells #[.iface uT ux,.iface uT' ux'] 95)).alloc (.cells #[O_,.nilIface] 88));have A1:Fr W w1 N_:=by rw[a1];exact((A_ W _).alloc _).alloc _
 have Z:Blk w1 W.heap.size [.iface uT ux,.iface uT' ux'] 95:=by rw[a1];exact(B_ W _ _).alloc _
 have B1:Blk w1 (W.heap.size+1) [O_,.nilIface] 88:=by
  rw[a1];have:=B_ (W.alloc (.cells #[.iface uT ux,.iface uT' ux'] 95)) #[O_,.nilIface] 88;rw[zi]at this;exact this
 have h1:=h.new s A1;have c0:=h1.t.b.c0;have p0:=Z.c0;have S:=Z.c1;have a7:keyOf prog 96 (kv a)=some kl:=by rw[hk];exact a8
 have a0:∀x,TSS P ⟨fb,tb,mb,.func (.func 50) #[] #[],.func (.func fn) #[fa] #[]⟩ rv r x->fb<x/\x<W.heap.size:=λx e=>h.li s e;have e7:fb<tb/\tb<W.heap.size:=a0 tb (.inl (.inl rfl));have b9:W.ownsRow (fb+1) 230 4 rv T.length (T.flatMap Rw.cells):=h.t.row;obtain⟨F,rc,rfl⟩:=zl b9;have rest:H_ (∀V,Fr w1 V N_->∃D,V.ownsMap prog 96 (plainElem prog 3) mb T.length D/\Maps.has D kl=false/\V.cell? ⟨tb,3,none⟩=some (.map (some mb))/\V.cell? ⟨tb,2,none⟩=some (.slice F T.length rc)/\
  H_ (∀w0 j,Fr V w0 N_->w0.grownBy j (some mb)->j.cell? ⟨tb,2,none⟩=some (.slice F T.length rc)/\j.cell? ⟨W.heap.size,0,none⟩=some (.iface uT ux)/\j.cell? ⟨W.heap.size,1,none⟩=some (.iface uT' ux')/\j.ownsRow (fb+1) 230 4 (.slice F T.length rc) T.length (T.flatMap Rw.cells)/\fb+1<=j.heap.size)/\
  H_ (∀w0 j H C,Fr V w0 N_->w0.grownBy j (some mb)->Fr j H N_->(H.alloc (.cells #[.iface uT ux,.iface uT' ux',O_,.nilIface] 230)).grownBy C (Value.slice F T.length rc).ownBlock->C.cell? ⟨tb,2,none⟩=some (.slice F T.length rc)/\C.frozen? ⟨tb,2,none⟩=false/\C.cell? ⟨W.heap.size,0,none⟩=some (.iface uT ux)/\C.cell? ⟨W.heap.size,1,none⟩=some (.iface uT' ux'))/\
  H_ (∀w0 j H C A,Fr V w0 N_->j.ownsMap prog 96 (plainElem prog 3) mb (T.length+1) (D.put kl (.lit (.int .i64 (T.length:Int))))->w0.grownBy j (some mb)->Fr j H N_->(H.alloc (.cells #[.iface uT ux,.iface uT' ux',O_,.nilIface] 230)).grownBy C (Value.slice F T.length rc).ownBlock->C.ownsRow (fb+1) 230 4 A (T.length+1) (T.flatMap Rw.cells++[.iface uT ux,.iface uT' ux',O_,.nilIface])->(A.ownBlock=(Value.slice F T.length rc).ownBlock\/A.ownBlock=some (H.alloc (.cells #[.iface uT ux,.iface uT' ux',O_,.nilIface] 230)).heap.size)->
   ∀V',Fr (C.setCell ⟨tb,2,none⟩ A) V' N_->TbI P (IU kv Q num N) ⟨fb,tb,mb,.func (.func 50) #[] #[],.func (.func fn) #[fa] #[]⟩ V' r A g (T++[⟨a,[.iface uT ux,.iface uT' ux'],0,.nilIface⟩])/\Stp W V' (TSS P ⟨fb,tb,mb,.func (.func 50) #[] #[],.func (.func fn) #[fa] #[]⟩ (.slice F T.length rc) r) (TSS P ⟨fb,tb,mb,.func (.func 50) #[] #[],.func (.func fn) #[fa] #[]⟩ A r)/\Blk V' (W.heap.size+1) [O_,.nilIface] 88/\¬TSS P ⟨fb,tb,mb,.func (.func 50) #[] #[],.func (.func fn) #[fa] #[]⟩ A r (W.heap.size+1))):=zy (λV hV=>by
  have hf:=A1.trans hV u_
  have Y:=h.new s hf
  obtain⟨D,O,b6⟩:=Y.t.map
  obtain⟨a9,d9,e0⟩:=Y.t.apart a3
  refine⟨D,O,(b6 a _ ha a7).2 hx,Y.t.b.cell 3,Y.t.b.cell 2,zy (λw0 j u l=>?_),zy (λw0 j H C u l L X=>?_),zy (λw0 j H C A u J l L X k4 k5 V' a6=>?_)⟩
  .have f:Fr w0 j (λx=>x=mb):=(A_ w0 _).gw l (λk e _=>by simpa using e.symm)
   have h0:=Y.new s u
   have e9:mb<W.heap.size:=(a0 mb (.inl (.inr (.inl rfl)))).2
   have b2:=f.bl h0.t.b a9
   have bp:=f.bl ((hV.trans u u_).bl Z id) M_
   have z:=f.size
   have z1:=u.size
   have z2:=hf.size
   have e2:=b2.c2
   have e3:=bp.c0
   have e4:=bp.c1
   exact⟨e2,e3,e4,zj h0.t.row f (λx e k=>e0 (by rw[e,show x=mb from k])),M_⟩
  .have f:Fr w0 j (λx=>x=mb):=(A_ w0 _).gw l (λk e _=>by simpa using e.symm)
   have h0:=Y.new s u
   have f5:Fr H C (λx=>(Value.slice F T.length rc).ownBlock=some x):=((A_ H (λx=>(Value.slice F T.length rc).ownBlock=some x)).alloc (.cells #[.iface uT ux,.iface uT' ux',O_,.nilIface] 230)).gw X (λk e _=>e)
   have e9:mb<W.heap.size:=(a0 mb (.inl (.inr (.inl rfl)))).2
   have b2:=f5.bl (L.bl (f.bl h0.t.b a9) id) d9
   have bp:=f5.bl (L.bl (f.bl ((hV.trans u u_).bl Z id) M_) id) (λe=>by have:=(a0 _ (.inl (.inr (.inr e)))).2;omega)
   have e2:=b2.c2
   have e3:=bp.c0
   have e4:=bp.c1
   exact⟨e2,b2.th 2,e3,e4⟩
  .have h0:=Y.new s u
   have e6:=vK O u id
   obtain⟨S,p2⟩:=h0.t.push a3 (r:=⟨a,[.iface uT ux,.iface uT' ux'],0,.nilIface⟩) ⟨ha,rfl,by show(0:Nat)<=301;omega,.inl rfl⟩ hx a7 b6 e6.isMap J l (L.trans ((A_ H _).alloc _) u_) X k4 (k5.imp id (λe=>⟨_,e,l_⟩))
   have b4:=hf.trans u u_
   have U:=h0.turn s p2 S (λy hy=>by
    rcases a2_.1 hy with hy|hy
    .exact .inl hy
    .simp only[a1_]at hy
     subst hy
     exact .inr ⟨s.z _ _ _,s.qv _ _ _ _ _ (s.qv _ _ _ _ _ hq b4 (λ_ f=>f.elim)) p2.1 (λy hy=>(h0.t.li hy).1)⟩)
   have bl:=(hV.trans u u_).bl B1 id
   have p4:=U.2.1.bl bl (λe=>by have:=(a0 _ e).2;omega)
   exact⟨U.1.new s a6,((E_ b4 (λ_ h=>h)).trans U.2).trans (E_ a6 (λ_ h=>h)),a6.bl p4 id,λe=>e.elim (S.other p4 (Ne.symm s.tt.1) (Ne.symm s.tt.2)) (λe=>by have:=(s.rs _ _ _ h.i e).2;omega)⟩)
 have fin:H_ (∀V r' rv' g' T' (y:Rw α) V1,TbI P (IU kv Q num N) ⟨fb,tb,mb,.func (.func 50) #[] #[],.func (.func fn) #[fa] #[]⟩ V r' rv' g' T'->Stp W V (TSS P ⟨fb,tb,mb,.func (.func 50) #[] #[],.func (.func fn) #[fa] #[]⟩ (.slice F T.length rc) r) (TSS P ⟨fb,tb,mb,.func (.func 50) #[] #[],.func (.func fn) #[fa] #[]⟩ rv' r')->Grw P.Cl T T' g g'->y∈T'->y.a=a->Blk V (W.heap.size+1) [O_,.nilIface] 88->Fr V V1 (λx=>x=W.heap.size+1)->d8 (.returned (.agg #[I_ y.n,y.d])) V1):=zy (λV r' rv' g' T' y V1 J k2 k3 k4 k5 k6 hF=>by
  rw[Q_.o]
  exact⟨r',rv',g',T',y,rfl,k4,k5,J.put s (by show fb<_;omega) k6 hF,⟨k2.1.trans hF (λy hy e=>M_),k2.2⟩,k3⟩)
 replace hL:=zy hL;generalize hM:T.length=M at *;replace hM:=zy hM;replace a1:=zy a1;generalize T.flatMap Rw.cells=CS at *;go_in;go_upto_region 1 with fail;rw[<- a1.o];go_cut [5] (λv V=>∃q,v=P_ q/\H_ (Fr w1 V N_)/\H_ (Blk V q [I_ k,I_ I] 96));case first=>
  refine tr_ 7 (λV=>f_ V tb 0 (.func (.func 50) #[] #[])/\f_ V W.heap.size 0 (.iface uT ux)/\f_ V W.heap.size 1 (.iface uT' ux')) ?_;refine tz_ 0 ?_;refine tz_ 1 ?_;refine tz_ 2 ?_;refine tz_ 3 ?_;refine tz_ 4 ?_;refine jp 5 6 rfl rfl K_ (λ_=>⟨c0,p0,S⟩) (λK p=>?_) (λK p=>?_)
  .go_simp;apply(ku hm b8).mono;rintro e j ⟨rfl,f2⟩;refine p _ _ ?_;have G:Fr w1 j N_:=(A_ w1 _).drew.trans f2 u_;have fin:=zy (G.alloc (.cells #[I_ k,I_ I] 96));have a5:=zy (B_ j #[I_ k,I_ I] 96);have g0:=G.ke c0;have g1:=G.ke p0;have l:=G.ke S;have E:=λo=>(A_ j N_).alloc o;refine t1_ 6 ⟨g0,g1,l⟩ ?_;refine t1_ 7 ⟨(E _).ke g0,(E _).ke g1,(E _).ke l⟩ ?_;refine td_ ?_ _;go_wp2;go_meet;exact⟨_,rfl,fin,a5⟩
  .go_simp;refine p _ _ ?_;have E:=(A_ w1 N_).alloc (.cells #[O_,O_] 96);have B2:=B_ w1 #[O_,O_] 96;refine zw 5 rfl K_ (λ_=>⟨E.ke c0,E.ke p0,E.ke S⟩) (λK p=>?_);go_simp;apply(ku hm b8).mono;rintro e j ⟨rfl,f2⟩;refine p _ _ ?_;have G:Fr w1 j N_:=E.drew.trans f2 u_;have U:=f2.bl B2.drew id;have fin:=zy (G.trans (V_ j w1.heap.size 0 1 (I_ k) (I_ I)) (λx hx e=>M_));have a5:=zy ((U.set 0 (I_ k)).set 1 (I_ I));have g0:=G.ke c0;have g1:=G.ke p0;have l:=G.ke S;have k0:=U.c0;have J:=U.c1;have t0:=U.th 0;have t1:=U.th 1;refine t1_ 7 ⟨g0,g1,l⟩ ?_;refine td_ ?_ _;go_wp2;go_meet;exact⟨_,rfl,fin,a5⟩
 case rest=>
  obtain⟨q,rfl,hV,hB⟩:=hcut;obtain⟨D,O,hh,d3,d2,cel,a4,push⟩:=rest.o _ hV;have q0:=hB.o.c0;have q1:=hB.o.c1;replace O:=zy O;go_wp2;refine tr_ 10 (λV=>f_ V tb 3 (.map (some mb))/\f_ V q 0 (I_ k)/\f_ V q 1 (I_ I)) ?_;refine tz_ 0 ?_;refine tz_ 1 ?_;refine tz_ 2 ?_;refine tz_ 3 ?_;refine tz_ 4 ?_;refine zw 5 rfl K_ (λ_=>⟨d3,q0,q1⟩) (λK p=>?_);rw[i_ (show Region.wanted _ _=true by kernel_rfl)];refine ZX _ _ rfl rfl O rfl a8 ?_;intro c hc;refine p _ _ ?_;rw[hh];refine tz_ 6 ?_;refine tz_ 7 ?_;refine tz_ 8 ?_;refine t1_ 9 ⟨d3,q0,q1⟩ ?_;refine t1_ 10 ⟨d3,q0,q1⟩ ?_;refine td_ ?_ _;go_wp2;refine tr_ 6 (λV=>f_ V tb 3 (.map (some mb))/\f_ V q 0 (I_ k)/\f_ V q 1 (I_ I)) ?_;refine tz_ 0 ?_;refine tz_ 1 ?_;refine tz_ 2 ?_;refine tz_ 3 ?_;refine tz_ 4 ?_;refine tz_ 5 ?_;refine zw 6 rfl K_ (λ_=>⟨d3,q0,q1⟩) (λK p=>?_);rw[i_ (show Region.wanted _ _=true by kernel_rfl)];refine GI _ _ _ rfl (z:=M) rfl O hT rfl a8 rfl hT ?_;intro j J l;go_simp;refine p _ _ ?_;have u:Fr wc wc.drew.drew N_:=(A_ wc _).drew.drew;obtain⟨y2,y0,y1,a2,yz⟩:=cel.o _ j u l;replace J:=zy J;replace l:=zy l;replace a2:=zy a2;refine td_ ?_ _;go_wp2;go_cut [] (λV=>∃A,H_ (TbI P (IU kv Q num N) ⟨fb,tb,mb,.func (.func 50) #[] #[],.func (.func fn) #[fa] #[]⟩ V r A g (T++[⟨a,[.iface uT ux,.iface uT' ux'],0,.nilIface⟩])/\Stp W V (TSS P ⟨fb,tb,mb,.func (.func 50) #[] #[],.func (.func fn) #[fa] #[]⟩ (.slice F M rc) r) (TSS P ⟨fb,tb,mb,.func (.func 50) #[] #[],.func (.func fn) #[fa] #[]⟩ A r)/\Blk V (W.heap.size+1) [O_,.nilIface] 88/\¬TSS P ⟨fb,tb,mb,.func (.func 50) #[] #[],.func (.func fn) #[fa] #[]⟩ A r (W.heap.size+1)));case first=>
   refine tr_ 11 (λV=>f_ V tb 2 (.slice F M rc)/\f_ V W.heap.size 0 (.iface uT ux)/\f_ V W.heap.size 1 (.iface uT' ux')) ?_;refine tz_ 0 ?_;refine tz_ 1 ?_;refine tz_ 2 ?_;refine tz_ 3 ?_;refine tz_ 4 ?_;refine tz_ 5 ?_;refine tz_ 6 ?_;have E:=λo=>(A_ j N_).drew.alloc o;refine t1_ 7 ⟨y2,y0,y1⟩ ?_;refine zw 8 rfl K_ (λ_=>⟨(E _).ke y2,(E _).ke y0,(E _).ke y1⟩) (λK p=>?_);rw[i_ (show Region.wanted _ _=true by kernel_rfl)];refine GE _ _ rfl (B:=fb+1) (v:=.slice F M rc) (c0:=.iface uT ux) (c1:=.iface uT' ux') (c2:=O_) (c3:=.nilIface) (w:=j.drew) (zj a2 (A_ j N_).drew u_) hT yz rfl rfl rfl rfl rfl rfl rfl ?_;intro A C o5 X l5;go_simp;refine p _ _ ?_;have c5:=λL=>a4.o _ j _ C u l L X;obtain⟨z2,zf,z0,z1⟩:=c5 (by first|exact(A_ _ _).drew|exact A_ _ _);have hp:=λL=>push.o _ j _ C A u J l L X o5 l5;have e8:=zy (hp (by first|exact(A_ _ _).drew|exact A_ _ _));obtain⟨b5,f1,rfl⟩:=zm o5 M_;refine t1_ 9 ⟨z2,z0,z1⟩ ?_;refine t1_ 10 ⟨z2,z0,z1⟩ ?_;refine t1_ 11 ⟨z2,z0,z1⟩ ?_;refine td_ ?_ _;go_wp2;go_meet;exact⟨_,zy (e8.o _ (by first|exact(A_ _ _).drew|exact A_ _ _))⟩
  case rest=>
   obtain⟨A,hp⟩:=hcut;go_wp2_with (go_at_call 53;apply(hL.o _ _ hp.o.1).mono;rintro e w7 ⟨r7,f4,g7,T7,rfl,h7,s7,l7⟩;rw[<- hM.o]at l7;obtain⟨G7,y,hy,d6⟩:=l7.grw;have U:=s7.1.bl hp.o.2.2.1 hp.o.2.2.2;obtain⟨b7,f3,u7,u8,rfl,-,-,-,e1,e2,-,-⟩:=h7.cellsU hy;have i7:(M:Int)<(T7.length:Int):=(by have:=(ae_.1 hy).1;rw[hM.o]at this;omega);rw[hM.o]at e1 e2;have d2:=h7.t.b.c2;have q0:=U.c0;have q1:=U.c1;have t0:=U.th 0;have t1:=U.th 1;have s1:=λW a m=>run_store prog W a y.d m ((h7.t.q y (aj_ hy)).2.2.2).one;have B8:Blk ((w7.setCell ⟨W.heap.size+1,0,none⟩ (I_ y.n)).setCell ⟨W.heap.size+1,1,none⟩ y.d) (W.heap.size+1) [I_ y.n,y.d] 88:=(U.set 0 _).set 1 _;have r0:=B8.c0;have r1:=B8.c1;have e5:=zy (λV1=>fin.o w7 r7 _ g7 T7 y V1 h7 (hp.o.2.1.trans s7) G7 (aj_ hy) d6 U);have F7:=zy (V_ w7 (W.heap.size+1) 0 1 (I_ y.n) y.d);generalize y.n=yn at *;generalize y.d=yd at *;generalize T7.length=M7 at *);refine bodyPost_ret (v:=.agg #[I_ yn,yd]) (by simp[results,results52,go_sem,r0,r1]) rfl ?_;exact e5.o _ (by first|exact F7.o|exact F7.o.drew)
def QR(kv:α->Value)(a:α)(v:List Value):Prop:=∃uT ux uT' ux' k k',v=[.iface uT ux,.iface uT' ux']/\kv a=.agg #[z_ ((k:Nat):Int),z_ ((k':Nat):Int)]/\k<=1000000/\k'<=1000000/\(∀W,(method 525 uT ux "Place").run prog W=.ok (70,I_ k) W)/\∀W,(method 525 uT' ux' "Place").run prog W=.ok (70,I_ k') W
def prV(v:List Value):Value:=.agg v.toArray
def bL{W:World}{r:ρ}{T:List (Rw α)}{a:α}{v:List Value}(b:P.OK (IU kv Q num N) ⟨fb,tb,mb,.func (.func 50) #[] #[],.func (.func fn) #[fa] #[]⟩)(j:∀W a v,P.QV W a v->QR kv a v)(h:TbI P (IU kv Q num N) ⟨fb,tb,mb,.func (.func 50) #[] #[],.func (.func fn) #[fa] #[]⟩ W r rv g T)(hv:P.QV W a v)(ha:a∈T.map Rw.a):Calls prog 52 #[P_ tb,prV v] W (lW P (IU kv Q num N) ⟨fb,tb,mb,.func (.func 50) #[] #[],.func (.func fn) #[fa] #[]⟩ W r rv g T a):=by
 obtain⟨uT,ux,uT',ux',k,m,rfl,hk,c,d,hm,f⟩:=j W a v hv;obtain⟨x,l,rfl⟩:=ay_.1 ha;obtain⟨i,hi⟩:=a5_ l;obtain⟨n,e⟩:=mq c d;exact ol b h hi hk e hm f
def rg{m:Nat}(Iok:(IU kv Q num N).OK)(O:P.OK (IU kv Q num N) ⟨fb,tb,mb,.func (.func 50) #[] #[],.func (.func fn) #[fa] #[]⟩)(hfn:∀args W,(callFunc fn args).run prog W=.ok (.enter fn args) W)(hq:∀W a v,P.QV W a v->QR kv a v)(hN:N<=1000000)(hF:∀m',m=m'+1->FOK P (IU kv Q num N) ⟨fb,tb,mb,.func (.func 50) #[] #[],.func (.func fn) #[fa] #[]⟩ fn fa prV m'):KOK P (IU kv Q num N) ⟨fb,tb,mb,.func (.func 50) #[] #[],.func (.func fn) #[fa] #[]⟩ 52 prV m:=by
 have cc1:=trivial
 exact cq19_
end
section
variable {α ρ:Type} {P:TP α ρ} {kv:α->Value} {Q:α->Prop} {num:α->Nat} {N fb tb mb:Nat} {kf ff:Value}
def VS{W:World}{r:ρ}{rv:Value}{T:List (Rw α)}{a:α}{uT uT':TypeId}{ux ux':Value}(a3:(IU kv Q num N).OK)(w:P.OK (IU kv Q num N) ⟨fb,tb,mb,kf,ff⟩)(h:TbI P (IU kv Q num N) ⟨fb,tb,mb,kf,ff⟩ W r rv false T)(hG:Gd P.Cl T)(hq:P.QV W a [.iface uT ux,.iface uT' ux'])(hN:N<=1000000)(hK:∀V,Fr W V N_->Calls prog 52 #[P_ tb,.agg #[.iface uT ux,.iface uT' ux']] V (vN P (IU kv Q num N) ⟨fb,tb,mb,kf,ff⟩ V r rv false T a))(a1:∀V r rv g T,TbI P (IU kv Q num N) ⟨fb,tb,mb,kf,ff⟩ V r rv g T->P.QV V a [.iface uT ux,.iface uT' ux']->a∈T.map Rw.a->Calls prog 52 #[P_ tb,.agg #[.iface uT ux,.iface uT' ux']] V (lW P (IU kv Q num N) ⟨fb,tb,mb,kf,ff⟩ V r rv g T a))(hL:∀V r rv g T i x,TbI P (IU kv Q num N) ⟨fb,tb,mb,kf,ff⟩ V r rv g T->T[i]?=some x->Calls prog 53 #[P_ tb,z_ ((i:Nat):Int)] V (uq P (IU kv Q num N) ⟨fb,tb,mb,kf,ff⟩ V r rv g T i)):Calls prog 31 #[P_ tb,.agg #[.iface uT ux,.iface uT' ux']] W (uy P (IU kv Q num N) ⟨fb,tb,mb,kf,ff⟩ W r rv a):=by
 obtain⟨a7,Q_⟩:=y_ (uy P (IU kv Q num N) ⟨fb,tb,mb,kf,ff⟩ W r rv a);rw[<- Q_.o];obtain⟨l,D⟩:=e_ (W.alloc (.cells #[.iface uT ux,.iface uT' ux'] 95));have J:Fr W l N_:=by rw[D];exact(A_ W _).alloc _
 have Bb:Blk l W.heap.size [.iface uT ux,.iface uT' ux'] 95:=by rw[D];exact B_ W _ _
 have zb:l.heap.size=W.heap.size+1:=by rw[D,zi]
 have a4:∀x,TSS P ⟨fb,tb,mb,kf,ff⟩ rv r x->fb<x/\x<W.heap.size:=λx e=>h.li w e;replace h:=h.new w J;replace hq:=w.qv _ _ _ _ _ hq J (λ_ f=>f.elim);obtain⟨w1,S⟩:=e_ ((W.alloc (.cells #[.iface uT ux,.iface uT' ux'] 95)).alloc (.cells #[O_,.nilIface] 88));have X:Fr l w1 N_:=by rw[S,D];exact(A_ _ _).alloc _
 have B1:Blk w1 l.heap.size [O_,.nilIface] 88:=by rw[S,D];exact B_ _ _ _
 have B0:=X.bl Bb id;have p0:=B0.c0;have p1:=B0.c1;have a9:=zy (hK w1 (J.trans X u_));have O:∀x,TSS P ⟨fb,tb,mb,kf,ff⟩ rv r x->fb<x/\x<l.heap.size:=λx e=>h.li w e;have a0:fb<tb/\tb<l.heap.size:=O tb (.inl (.inl rfl));have few:H_ (∀V r rv g (T:List (Rw α)),TbI P (IU kv Q num N) ⟨fb,tb,mb,kf,ff⟩ V r rv g T->T.length<=N):=zy (λ_ _ _ _ _ h=>kS a3 h.t.nd (λx hx=>(h.t.q x hx).1));have start:H_ (∀I r' rv' g' T' (x:Rw α),x∈T'->x.a=a->TbI P (IU kv Q num N) ⟨fb,tb,mb,kf,ff⟩ I r' rv' g' T'->Stp w1 I (TSS P ⟨fb,tb,mb,kf,ff⟩ rv r) (TSS P ⟨fb,tb,mb,kf,ff⟩ rv' r')->Grw P.Cl T T' false g'->kW P (IU kv Q num N) ⟨fb,tb,mb,kf,ff⟩ l r rv a I r' rv' g' T'/\(g'=false->Gd P.Cl T')):=zy (λI r' rv' g' T' x c U E F k5=>by
  have hb:=F.1.bl B1 (λe=>absurd (O _ e).2 (a3_ _))
  refine⟨⟨E,(E_ X (λ_ h=>h)).trans F,ay_.2 ⟨x,c,U⟩,hb,λe=>absurd (O _ (F.2 _ B1.lt e)).2 (a3_ _)⟩,λe y hy=>?_⟩
  obtain⟨R,rfl,_,_,h3⟩:=k5
  rcases a2_.1 hy with hy|hy
  .exact(hG y hy).more w.mono R
  .exact h3 e y hy)
 have step:H_ (∀V r' rv' g' T' V2 G H C z i,kW P (IU kv Q num N) ⟨fb,tb,mb,kf,ff⟩ l r rv a V r' rv' g' T'->TbI P (IU kv Q num N) ⟨fb,tb,mb,kf,ff⟩ V2 G H C z->Stp V V2 (TSS P ⟨fb,tb,mb,kf,ff⟩ rv' r') (TSS P ⟨fb,tb,mb,kf,ff⟩ H G)->Lk P.Cl T' z g' C i->kW P (IU kv Q num N) ⟨fb,tb,mb,kf,ff⟩ l r rv a V2 G H C z):=zy (λV r' rv' g' T' V2 G H C z i c U E F=>
  ⟨U,c.s.trans E,F.mem c.a,E.1.bl c.b c.n,λe=>c.n (E.2 _ c.b.lt e)⟩)
 have flag:H_ (∀V r' rv' g' T' u,kW P (IU kv Q num N) ⟨fb,tb,mb,kf,ff⟩ l r rv a V r' rv' g' T'->kW P (IU kv Q num N) ⟨fb,tb,mb,kf,ff⟩ l r rv a (V.setCell ⟨tb,4,none⟩ (.bool u)) r' rv' u T'):=zy (λV r' rv' g' T' u c=>by
  have L:Fr V (V.setCell ⟨tb,4,none⟩ (.bool u)) (TbS tb mb rv'):=(Y_ V ⟨tb,4,none⟩ (.bool u)).mono (λx _ e=>.inl e)
  have h3:=c.i.turn w (rv':=rv') ⟨L,λ_ _ h=>h⟩ (c.i.t.flag a3 u) (λy hy=>.inl hy)
  exact⟨h3.1,c.s.trans h3.2,c.a,L.bl c.b (λe=>c.n (.inl e)),c.n⟩)
 have fin:H_ (∀V r' rv' T' (y:Rw α) V1,kW P (IU kv Q num N) ⟨fb,tb,mb,kf,ff⟩ l r rv a V r' rv' false T'->Gd P.Cl T'->y∈T'->y.a=a->∀K,TbI P (IU kv Q num N) ⟨fb,tb,mb,kf,ff⟩ K r' rv' false T'->Stp V K (TSS P ⟨fb,tb,mb,kf,ff⟩ rv' r') (TSS P ⟨fb,tb,mb,kf,ff⟩ rv' r')->V1=(K.setCell ⟨W.heap.size+1,0,none⟩ (I_ y.n)).setCell ⟨W.heap.size+1,1,none⟩ y.d->a7 (.returned (.agg #[I_ y.n,y.d])) V1):=zy (λV r' rv' T' y V1 c U E F K k5 k6 k7=>by
  rw[Q_.o,k7]
  have L:=V_ K (W.heap.size+1) 0 1 (I_ y.n) y.d
  have hb:=k6.1.bl c.b c.n
  rw[zb]at hb
  have st:=(E_ J (λ_ h=>h)).trans (c.s.trans k6)
  exact⟨r',rv',T',y,rfl,E,F,k5.put w (by show fb<_;omega) hb L,⟨st.1.trans L (λy hy e=>M_),st.2⟩,U⟩)
 have qv:H_ (∀V r' rv' g' T',kW P (IU kv Q num N) ⟨fb,tb,mb,kf,ff⟩ l r rv a V r' rv' g' T'->P.QV V a [.iface uT ux,.iface uT' ux']):=zy (λV r' rv' g' T' k=>w.qv _ _ _ _ _ hq k.s.1 (λx hx=>(O x hx).1));have pb:H_ (∀V r' rv' g' T',kW P (IU kv Q num N) ⟨fb,tb,mb,kf,ff⟩ l r rv a V r' rv' g' T'->V.cell? ⟨W.heap.size,0,none⟩=some (.iface uT ux)/\V.cell? ⟨W.heap.size,1,none⟩=some (.iface uT' ux')):=zy (λV r' rv' g' T' k=>by
  have b:=k.s.1.bl Bb (λe=>absurd (a4 _ e).2 (a3_ _))
  exact⟨b.cell 0,b.cell 1⟩)
 replace a1:=zy a1;replace hL:=zy hL;replace S:=zy S;replace D:=zy D;replace zb:=zy zb;go_in;go_upto_region 1 with fail;rw[<- S.o];go_wp2_with (go_at_call 52;apply a9.o.mono;rintro e I ⟨G,H,C,z,x2,rfl,x3,x4,h2,s2,G2⟩;obtain⟨Z,Y⟩:=start.o I G H C z x2 x3 x4 h2 s2 G2;replace Z:=zy Z;replace Y:=zy Y);go_loopg [] (phi N z+1) (λm V=>∃r' rv' g' T',H_ (kW P (IU kv Q num N) ⟨fb,tb,mb,kf,ff⟩ l r rv a V r' rv' g' T')/\H_ (g'=false->Gd P.Cl T')/\(g'=true->phi N T'<m));case atStart=>exact⟨G,H,C,z,Z,Y,λ_=>M_⟩
 case round=>
  obtain⟨r3,b5,g3,B,p,H3,a2⟩:=hrel;have c4:=p.o.i.t.b.c4;have t4:=p.o.i.t.b.th 4;cases g3
  .have a6:=zy (H3.o rfl);obtain⟨p0,p1⟩:=pb.o _ _ _ _ _ p;go_wp2_with (go_at_call 52;apply(a1.o _ _ _ _ _ p.o.i (qv.o _ _ _ _ _ p) p.o.a).mono;rintro e w5 ⟨y,rfl,y1,y2,h5,s5⟩;have A:=s5.1.bl p.o.b p.o.n;rw[zb.o]at A;have q0:=A.c0;have q1:=A.c1;have z0:=A.th 0;have z1:=A.th 1;have s1:=λW a m=>run_store prog W a y.d m ((h5.t.q y y1).2.2.2).one;have B8:Blk ((w5.setCell ⟨W.heap.size+1,0,none⟩ (I_ y.n)).setCell ⟨W.heap.size+1,1,none⟩ y.d) (W.heap.size+1) [I_ y.n,y.d] 88:=(A.set 0 _).set 1 _;have x0:=B8.c0;have x1:=B8.c1;have a8:=zy (λV1=>fin.o _ r3 b5 B y V1 p a6 y1 y2 w5 h5 s5);generalize y.n=yn at *;generalize y.d=yd at *);refine bodyPost_ret (v:=.agg #[I_ yn,yd]) (by simp[results,results31,go_sem,x0,x1]) rfl ?_;exact a8.o _ rfl
  .have hm:=a2 rfl;have S4:=zy (flag.o _ _ _ _ _ false p);obtain⟨ra,rc,rfl⟩:=zl p.o.i.t.row;have c2:=S4.o.i.t.b.c2;have b6:=few.o _ _ _ _ _ S4.o.i;have a5:H_ (SIn P.Cl N B.length 0 (phi N B) false B):=zy ⟨l_,l_,λe=>(by cases e),λ_ i x hx hi=>by
    have:=(ae_.1 hx).1
    omega⟩
   generalize hM:B.length=M at *;replace hM:=zy hM;go_wp2;go_loopg [21] (M+1) (λm v V=>∃j:Nat,∃r' rv' g' T',v=I_ j/\j<=M/\M+1-j<=m/\H_ (kW P (IU kv Q num N) ⟨fb,tb,mb,kf,ff⟩ l r rv a V r' rv' g' T')/\H_ (SIn P.Cl N M j (phi N B) g' T'));case atStart=>exact⟨0,_,_,_,_,rfl,al_ _,M_,S4,a5⟩
   case round=>
    obtain⟨j,r5,b8,g5,T5,rfl,hj,b7,S5,A⟩:=hrel;by_cases a0:j<M
    .have b4:(j:Int)<(M:Int):=M_;obtain⟨x,hx⟩:∃x,T5[j]?=some x:=⟨_,af_ (bb_ a0 A.o.1)⟩;replace hx:=zy hx;go_wp2_with (go_at_call 53;apply(hL.o _ _ _ _ _ j x S5.o.i hx).mono;rintro e w6 ⟨r6,b9,g6,T6,rfl,h6,s6,l6⟩;have S6:=zy (step.o _ _ _ _ _ _ _ _ _ _ _ S5 h6 s6 l6);have I6:=zy (A.o.step w.mono l6 (few.o _ _ _ _ _ h6) (λy hy=>(S5.o.i.t.q y hy).2.2.1) (λy hy=>(h6.t.q y hy).2.2.1)));go_roundg (M+1-(j+1));case measure=>omega
     case rel=>exact⟨j+1,_,_,_,_,by simp,a0,l_,S6,I6⟩
    .have b4:¬((j:Int)<(M:Int)):=M_;obtain rfl:j=M:=M_;have nx:H_ (g5=false->Gd P.Cl T5):=zy (λe y hy=>by
      obtain⟨i,hi⟩:=a5_ hy
      exact A.o.2.2.2 e i y hi M_)
     have np:=A.o.2.2.1;go_wp2;go_roundg (phi N B);case measure=>exact hm
     case rel=>exact⟨_,_,_,_,S5,nx,np⟩
end
def FX.cell5{F:FD}{W:World}(h:FX F W):W.cell? ⟨F.fb,5,none⟩=some (P_ F.tu):=h.b.cell 5
def eN{F:FD}(H:F.OK){W:World}{r:Value×List (Rw Qu)}{uv:Value}{T:List (Rw (PT×PT))}{p m:Nat}{l:List PT}{y:PT}{X:Nat->Value}(hK:KOK (uT F) (uI F) (uL F) 52 prV m)(h:TbI (uT F) (uI F) (uL F) W r rv g T)(ho:W.ownsRow 0 53 1 uv l.length ((List.range l.length).map X))(hP:∀g,uv.ownBlock=some g->F.P g)(hX:∀i t,l[i]?=some t->TyV W F.P t (X i))(hy:TyV W F.P' y (.iface bT bx))(hq:okQ F (.ty (.alts p l)))(hqy:okY F y)(hm:90000<=T.length+m):Calls prog 122 #[P_ F.fb,.agg #[uv,.iface bT bx]] W (yi (uT F) (uI F) (uL F) W r rv g T (.alts p l,y)):=by
 have cc1:=trivial
 exact cq1_
set_option maxRecDepth 100000
set_option linter.defProp false
@[go_sem]def Ff:=yB 271 226
@[go_sem]def Xm:=vv 271 226 (.agg #[])
section
variable {W:World} {R:Ending->World->Prop} {fb:Nat} {wT:TypeId} {wx:Value}
def cq8_{p:Prop}(h:p:=by
 refine hq_ λr k=>?_;have f:H_ (∀o,Fr W ((W.alloc (.cells #[O_,.nilIface] 88)).alloc o) N_/\Blk ((W.alloc (.cells #[O_,.nilIface] 88)).alloc o) W.heap.size [O_,.nilIface] 88):=zy (λo=>⟨((A_ W _).alloc _).alloc _,(B_ W _ _).alloc _⟩);replace h:=zy h;(first|(have:=cc4;have n0:=Xm 276 D_)|(have:=cc5;have s:=zQ hc)|(skip));go_in;go_wp2_with ((first|go_at_call 124|go_at_call 125|go_at_call 123|go_at_call 122|go_at_call 81|go_at_call 121);apply(h.o _ ?fr ?bl).mono;(case fr=>exact(f.o _).1);(case bl=>exact(f.o _).2);rintro e x ⟨n,d,rfl,hd,hb,c⟩;have l:=hb.cell 0;have q:=hb.cell 1;have u:=hb.th 0;have w:=hb.th 1;have t:=(λW a m=>run_store prog W a d m hd.one);have b:=(hb.set 0 (I_ n)).set 1 d;have i:=b.cell 0;have j:=b.cell 1;simp only[am_,an_,aa_,ab_]at l q i j;replace c:=zy c;clear b hb hd);refine bodyPost_ret (v:=.agg #[I_ n,d]) (by simp[results,results81,go_sem,i,j]) rfl ?_;rw[k.o];exact c.o):p:=h
def dZ{tb:Nat}(hc:W.cell? ⟨fb,4,none⟩=some (P_ tb))(h:∀W1,Fr W W1 N_->Blk W1 W.heap.size [O_,.nilIface] 88->Calls prog 121 #[P_ tb,.iface wT wx] W1 (qS W R)):Calls prog 81 #[P_ fb,.iface 271 (.agg #[]),.iface wT wx] W R:=by
 have cc5:=trivial
 exact cq8_
def de(h:∀W1,Fr W W1 N_->Blk W1 W.heap.size [O_,.nilIface] 88->Calls prog 122 #[P_ fb,.agg #[.slice ua un uc,.iface bT bx]] W1 (qS W R)):Calls prog 81 #[P_ fb,.iface 273 (.agg #[.slice ua un uc,.iface bT bx]),.iface wT wx] W R:=by
 have cc3:=trivial
 exact cq8_
def nD{n0:Int}(h:∀W1,Fr W W1 N_->Blk W1 W.heap.size [O_,.nilIface] 88->Calls prog 81 #[P_ fb,.iface bT bx,.iface wT wx] W1 (qS W R)):Calls prog 81 #[P_ fb,.iface 276 (.agg #[z_ n0,.iface bT bx]),.iface wT wx] W R:=by
 have cc4:=trivial
 exact cq8_
def uP{aT:TypeId}{ax:Value}(h:∀W1,Fr W W1 N_->Blk W1 W.heap.size [O_,.nilIface] 88->Calls prog 123 #[P_ fb,.agg #[.iface aT ax,.iface bT bx],.iface wT wx] W1 (qS W R)):Calls prog 81 #[P_ fb,.iface 277 (.agg #[.iface aT ax,.iface bT bx]),.iface wT wx] W R:=by
 have cc2:=trivial
 exact cq8_
def pZ{p q:Int}{va:Option Addr}{vn vc:Nat}{a b:Option Addr}(h:∀W1,Fr W W1 N_->Blk W1 W.heap.size [O_,.nilIface] 88->Calls prog 124 #[.agg #[z_ p,.slice ua un uc,.pointer a,z_ q,.slice va vn vc,.pointer b]] W1 (qS W R)):Calls prog 81 #[P_ fb,.iface 280 (.agg #[z_ p,.slice ua un uc,.pointer a,z_ q,.slice va vn vc,.pointer b]),.iface wT wx] W R:=by
 exact cq8_
def uk{p q:Int}{va:Option Addr}{vn vc:Nat}(h:∀W1,Fr W W1 N_->Blk W1 W.heap.size [O_,.nilIface] 88->Calls prog 125 #[P_ fb,.agg #[z_ p,.slice ua un uc,z_ q,.slice va vn vc]] W1 (qS W R)):Calls prog 81 #[P_ fb,.iface 283 (.agg #[z_ p,.slice ua un uc,z_ q,.slice va vn vc]),.iface wT wx] W R:=by
 have cc1:=trivial
 exact cq8_
def nT(h:∀f,Fr W f N_->R (.returned (.agg #[O_,.nilIface])) f):Calls prog 81 #[P_ fb,.iface 332 (.agg #[]),.iface wT wx] W R:=by
 refine hq_ λn k=>?_;obtain⟨w1,b⟩:=e_ (W.alloc (.cells #[O_,.nilIface] 88));have d:Fr W w1 N_:=by rw[b];exact(A_ W _).alloc _
 have a:Blk w1 W.heap.size [O_,.nilIface] 88:=by rw[b];exact B_ W _ _
 have l:=a.cell 0;have m:=a.cell 1;have p:=a.th 0;have q:=a.th 1;have c:=(a.set 0 (O_)).set 1 .nilIface;have i:=c.cell 0;have j:=c.cell 1;simp only[am_,an_,aa_,ab_]at l m i j;have fin:=zy (h _ (d.trans (V_ w1 W.heap.size 0 1 (O_) .nilIface) (λx hx e=>M_)));replace b:=zy b;go_in;go_upto_region 1 with fail;rw[<- b.o];go_wp2;refine bodyPost_ret (v:=.agg #[O_,.nilIface]) (by simp[results,results81,go_sem,i,j]) rfl ?_;rw[k.o];exact fin
end
end Go.Proofs.YtjkiencmjggakaaGreatDoor
