import Derived.Test.YtokgeopihcopeaaGreatDoorW17
set_option linter.unusedVariables false
set_option maxHeartbeats 16000000
set_option maxRecDepth 100000
set_option linter.defProp false
set_option linter.unusedSimpArgs false
open Go.Proofs.Tryz
namespace Go.Proofs.YtokgeopihcopeaaGreatDoor
open Go.RowKit
variable {n:Nat}{o:Db}{Q:Aa}
def mZ{s:BA}(hs:s.size<=300){ds:Ar}{t:PT}(h:ze s=.ok (ds,t))(hn:xL ds t=[])(hu:vz ds t=[]):vj ds/\∀f∈zk ds,okT (zx ds) f.ty:=by
 obtain⟨e,g,_,_,_⟩:=jT h;rw[hn]at e;rw[hu]at g;have hw:wrU (zx ds) (jm ds++zZ t) (qy [] ds (-1))<0:=by rw[e];decide
 have hm:mix t (qp ds (-1))<0:=by rw[g];decide
 obtain⟨g,e,_,_⟩:=uo hs h hw hm;obtain⟨k,_⟩:=xA hs h;obtain⟨p,r⟩:=jL h;obtain⟨_,e⟩:=Xi hw;have i:=lF (zx ds) t _ r hm (λu hu=>e u (b8_ _ hu));have j:=(Zj (env:=zx ds) p (λu hu=>e u (b3_ _ hu)) i.1).2;refine⟨λc b he=>⟨?_,g c b he⟩,λf hf=>?_⟩
 .unfold zx at he;cases hl:vh 0 c ds with
  |none=>rw[hl]at he;cases he
  |some q=>
   obtain⟨e,e⟩:=q;rw[hl]at he;simp only[by_,af_]at he;subst he;obtain⟨d,hd,rfl⟩:=gh hl;exact k d hd
 .obtain⟨d,hd,e⟩:=bD hf;cases hb:d.body with
  |recd fs=>rw[hb]at e;exact j d hd fs hb f e
  |enum l o=>rw[hb]at e;simp[PB.fs]at e
  |bytes n=>rw[hb]at e;simp[PB.fs]at e
structure cB where
 lt:TypeId
 lx:Value
 gt:TypeId
 gx:Value
 mt:TypeId
 mx:Value
 ut:TypeId
 ux:Value
 nt:TypeId
 nx:Value
structure cB.At(E:cB)(w:Aw):Prop where
 l:vN 7 w E.lt E.lx
 g:vN 0 w E.gt E.gx
 m:vN 1 w E.mt E.mx
 u:vN 2 w E.ut E.ux
 n:vN 3 w E.nt E.nx
def jk(E:cB)(w:Aw)(lo:Nat)(ev:Ax)(a:Int×Int):Prop:=
 (a.1=0/\a.2=0/\ev=.nilIface)\/(a.1=1/\a.2=0/\ev=.iface E.lt E.lx)\/(a.1=2/\zO w lo ev a.2 (.iface E.gt E.gx))\/(a.1=3/\zO w lo ev a.2 (.iface E.mt E.mx))\/(a.1=4/\zO w lo ev a.2 (.iface E.ut E.ux))\/(a.1=5/\∃cv,zO w lo ev a.2 cv/\qC w lo E.nt E.nx cv)
def Cc(lo:Nat)(w:Aw)(s:BA)(sv rv:Ax):Prop:=
 ∃ds t xs,s.size<=300/\ze s=.ok (ds,t)/\xL ds t=[]/\vz ds t=[]/\yR w (λg=>lo<=g/\g<w.heap.size) s ds sv xs/\TyV w (λg=>lo<=g/\g<w.heap.size) t rv
def wi(lo:Nat)(w:Aw)(s:BA)(sv rv:Ax):Prop:=
 ∃ds t xs,s.size<=300/\ze s=.ok (ds,t)/\xL ds t=[]/\vz ds t=[]/\yR w (λg=>lo<=g/\g<w.heap.size) s ds sv xs/\TyV w (λg=>lo<=g/\g<w.heap.size) t rv/\Dfs lo (λg=>lo<=g/\g<w.heap.size) w s ds xs
def Qt(w:Aw)(s:BA)(E:cB)(e:Ak)(w':Aw):Prop:=
 ∃sv rv ev,e=.returned (.tuple #[.agg #[sv,rv],ev])/\(∃a n c,sv=.slice a n c)/\IfV rv/\Fr w w' N_/\jk E w' w.heap.size ev (zu s)/\((zu s).1=0->Cc w.heap.size w' s sv rv)
def ec(w:Aw)(s:BA)(E:cB)(e:Ak)(w':Aw):Prop:=
 ∃sv rv ev,e=.returned (.tuple #[.agg #[sv,rv],ev])/\(∃a n c,sv=.slice a n c)/\IfV rv/\Fr w w' N_/\jk E w' w.heap.size ev (zu s)/\((zu s).1=0->wi w.heap.size w' s sv rv)
def wH{w W W':Aw}{s:BA}{E:cB}{f:Ax}(hf:Fr w W N_)(i:Fr W W' (λg=>g=w.heap.size))(h0:(zu s).1≠0)(h:jk E W' w.heap.size f (zu s)):ec w s E (.returned (.tuple #[.agg #[L_,.nilIface],f])) W':=
 ⟨_,_,f,rfl,⟨_,_,_,rfl⟩,.inl rfl,hf.trans i (λx hx e=>M_),h,λe=>absurd e h0⟩
structure RSt(w w1:Aw)(s:BA)(ds:Ar)(t:PT)(sv rv:Ax)(xs:Ay)(q:Nat)(W:Aw):Prop where
 z:w1.heap.size+2<=W.heap.size
 z0:w.heap.size+2<=w1.heap.size
 al:Fr w W N_
 q3:q<=3
 d:yR W (λg=>w.heap.size+2<=g/\g<w1.heap.size) s ds sv xs/\TyV W (λg=>w.heap.size+2<=g/\g<w1.heap.size) t rv
 n:1<=q->xL ds t=[]
 u:2<=q->vz ds t=[]
 e:3<=q->qm s ds=[]
 R:Blk W w.heap.size [L_,.nilIface] 48
 B:Blk W w1.heap.size [sv,rv] 48
 L:∃ty,Blk W (w1.heap.size+1) [.func (.func 41) #[] #[],.func (.func 42) #[] #[],.func (.func 43) #[] #[]] ty
 f:3<=q->Dfs (w.heap.size+2) (λg=>w.heap.size+2<=g/\g<w1.heap.size) W s ds xs
section
variable {w w1 W W':Aw} {s:BA} {ds:Ar} {t:PT} {sv rv:Ax} {xs:Ay} {q:Nat}
def RSt.chk(M:RSt w w1 s ds t sv rv xs q W)(hf:Fr W W' N_):RSt w w1 s ds t sv rv xs q W':=
 ⟨al_ M.z hf.size,M.z0,M.al.trans hf v_,M.q3,⟨M.d.1.fr hf u_,M.d.2.fr hf u_⟩,M.n,M.u,M.e,hf.bl M.R id,hf.bl M.B id,M.L.imp (λ_ h=>hf.bl h id),λh=>(M.f h).fr M.d.1 hf u_ u_⟩
def RSt.next0(M:RSt w w1 s ds t sv rv xs 0 W)(h:xL ds t=[]):RSt w w1 s ds t sv rv xs 1 W:=
 ⟨M.z,M.z0,M.al,M_,M.d,λ_=>h,λh=>M_,λh=>M_,M.R,M.B,M.L,λh=>M_⟩
def RSt.next1(M:RSt w w1 s ds t sv rv xs 1 W)(h:vz ds t=[]):RSt w w1 s ds t sv rv xs 2 W:=
 ⟨M.z,M.z0,M.al,M_,M.d,λ_=>M.n M_,λ_=>h,λh=>M_,M.R,M.B,M.L,λh=>M_⟩
def RSt.dft(M:RSt w w1 s ds t sv rv xs 2 W)(hf:Fr W W' (λg=>w.heap.size+2<=g/\g<w1.heap.size)):Fr w W' N_/\Blk W' w.heap.size [L_,.nilIface] 48:=
 ⟨M.al.trans hf (λx hx e=>M_),hf.bl M.R (λe=>M_)⟩
def RSt.next2(M:RSt w w1 s ds t sv rv xs 2 W)(hf:Fr W W' (λg=>w.heap.size+2<=g/\g<w1.heap.size))(h:qm s ds=[])(f:yR W' (λg=>w.heap.size+2<=g/\g<w1.heap.size) s ds sv xs)(i:∀t x,TyV W (λg=>w.heap.size+2<=g/\g<w1.heap.size) t x->TyV W' (λg=>w.heap.size+2<=g/\g<w1.heap.size) t x)(hX:Dfs (w.heap.size+2) (λg=>w.heap.size+2<=g/\g<w1.heap.size) W' s ds xs):RSt w w1 s ds t sv rv xs 3 W':=
 ⟨al_ M.z hf.size,M.z0,(M.dft hf).1,M_,⟨f,i _ _ M.d.2⟩,λ_=>M.n M_,λ_=>M.u M_,λ_=>h,(M.dft hf).2,hf.bl M.B (λe=>M_),M.L.imp (λ_ h=>hf.bl h (λe=>M_)),λ_=>hX⟩
end
def cwXG1_{p:Prop}(h:p:=by
 (first|(have:=cc1;replace hans:=zy (show zu s=(4,(x:Int)) by rw[hans.o,hnm];simp only[hF]))|(have:=cc2;replace hans:=zy (show zu s=(5,(x:Int)) by rw[hans.o,hnm,hun];simp only[hF]))|(replace hans:=zy (show zu s=(3,(x:Int)) by rw[hans.o];simp only[hF])));replace hF:=zy hF;replace M:=zy M;clear hM;go_wp2_with ((first|go_at_call 41|go_at_call 42|go_at_call 43);apply hC.o.mono;rintro e w3 ⟨v,rfl,hf3,hm⟩;rw[hF.o]at hm;(first|(have:=cc2;obtain⟨ev,⟨g,hg1,rfl,hg2⟩,hEv⟩:=hm)|(obtain⟨g,hg1,rfl,hg2⟩:=hm));(first|(have:=cc2;have M3:=M.o.dft hf3)|(have M3:=M.o.chk hf3));(first|(have:=cc2;have R3:=M3.2)|(have R3:=M3.R));have r0:=R3.c0;have r1:=R3.c1;have g0:=R3.th 0;have g1:=R3.th 1;replace R3:=zy R3;(first|(have:=cc2;replace M3:=zy M3.1)|(replace M3:=zy M3.al));replace hf3:=zy hf3;replace hg2:=zy hg2;(try have:=cc2;replace hEv:=zy hEv));have S2:=W_ R3.o (L_) .nilIface;have q0:=S2.c0;have q1:=S2.c1;refine bodyPost_ret (v:=.tuple #[.agg #[L_,.nilIface],.iface 184 (P_ g)]) xd_ rfl ?_;rw[Q_.o];have h4:=Fr.pa w3 w.heap.size (L_) .nilIface;refine wH M3.o h4 z3_ ?_;rw[hans.o];(first|(have:=cc1;exact .inr (.inr (.inr (.inr (.inl ⟨rfl,g,M_,rfl,h4.bl hg2.o (λe=>M_)⟩)))))|(have:=cc2;exact .inr (.inr (.inr (.inr (.inr ⟨rfl,ev,⟨g,M_,rfl,h4.bl hg2.o (λe=>M_)⟩,(hEv.o.fr h4 (λg hg e=>M_)).ls M_⟩)))))|(exact .inr (.inr (.inr (.inl ⟨rfl,g,M_,rfl,h4.bl hg2.o (λe=>M_)⟩)))))):p:=h
def cwXG2_{p:Prop}(h:p:=by
 (first|(have:=cc1;have S2:=(W_ R3.o (L_) .nilIface).alloc (.cells #[.slice sa sn sc,.nilIface] 48))|(have S2:=(W_ R3.o (L_) .nilIface).alloc (.cells #[.slice sa sn sc,.iface rT rx] 48)));have q0:=S2.c0;have q1:=S2.c1;refine bodyPost_ret (v:=.tuple #[.agg #[L_,.nilIface],.iface 184 (P_ g)]) xd_ rfl ?_;rw[Q_.o];(first|(have:=cc1;have h4:=(Fr.pa w1 w.heap.size (L_) .nilIface).alloc (.cells #[.slice sa sn sc,.nilIface] 48))|(have h4:=(Fr.pa w1 w.heap.size (L_) .nilIface).alloc (.cells #[.slice sa sn sc,.iface rT rx] 48)));refine wH (hf1.o.trans hf2.o (λx hx e=>M_)) h4 z3_ ?_;rw[hans.o];exact .inr (.inr (.inl ⟨rfl,g,by simp at hg1;omega,rfl,h4.bl hg2.o (λe=>by simp at hg1;omega)⟩))):p:=h
def XG{w:Aw}{s:BA}{E:cB}(p:E.At w)(U:yM w)(Y:yH w)(X:mg w):Calls prog 23 #[.string s] w (ec w s E):=by
 refine hq_ λa3 Q_=>?_;have D:Fr w (w.alloc (.cells #[L_,.nilIface] 48)) N_:=(A_ w _).alloc _;have i:=B_ w #[L_,.nilIface] 48;have a1:(w.alloc (.cells #[L_,.nilIface] 48)).heap.size=w.heap.size+1:=x6_
 by_cases hl:300<s.size
 .have Z:(300:Int)<(s.size:Int):=M_;have j:=p.l.fr D id;unfold vN at j;replace i:=zy i;go_in;go_wp2;go_region;go_wp2;have q0:=i.o.drew.c0;have q1:=i.o.drew.c1;refine bodyPost_ret (v:=.tuple #[.agg #[L_,.nilIface],.iface E.lt E.lx]) xd_ rfl ?_;rw[Q_.o];exact⟨_,_,_,rfl,⟨_,_,_,rfl⟩,.inl rfl,D.drew,.inr (.inl ⟨by unfold zu;rw[i_ hl],by unfold zu;rw[i_ hl],rfl⟩),λe=>by unfold zu at e;rw[i_ hl]at e;simp at e⟩
 .have Z:¬(300:Int)<(s.size:Int):=M_;have hs:s.size<=300:=M_;have hf1:=D.alloc (.cells #[.string s,O_] 114);have A:PAt ((w.alloc (.cells #[L_,.nilIface] 48)).alloc (.cells #[.string s,O_] 114)) (w.heap.size+1) s 0:=by
   have:=B_ (w.alloc (.cells #[L_,.nilIface] 48)) #[.string s,O_] 114;rwa[a1]at this
  have Z:=World.block_lt_of_cell? w ⟨0,0,none⟩ p.g;have H:=zy (ak A (p.g.fr hf1 id) (by show w.heap.size+1≠_;simp only at Z;omega) hs);replace A:=zy A;replace i:=zy (i.alloc (.cells #[.string s,O_] 114));replace hf1:=zy hf1;cases hp:ze s with
  |error k=>
   have hans:=zy (show zu s=(2,(k:Int)) by unfold zu;rw[n_ hl,hp]);replace hp:=zy hp;go_in;go_wp2_with (go_at_call 40;apply H.o.mono;rintro e w1 ⟨sv,rv,ev,rfl,⟨sa,sn,sc,rfl⟩,J,hf2,hm⟩;rw[hp.o]at hm;obtain⟨g,hg1,rfl,hg2⟩:=hm;have F:=hf2.size;have S:w.heap.size+2<=w1.heap.size:=(by simp at F;omega);have a2:w.heap.size<w1.heap.size:=M_;rcases J with rfl|⟨rT,rx,rfl⟩;have R3:=hf2.bl i M_;have r0:=R3.c0;have r1:=R3.c1;have g0:=R3.th 0;have g1:=R3.th 1;replace R3:=zy R3;replace hf2:=zy hf2;replace hg2:=zy hg2;rotate_left;have R3:=hf2.bl i M_;have r0:=R3.c0;have r1:=R3.c1;have g0:=R3.th 0;have g1:=R3.th 1;revert hf2 hg2 R3;refine h_ λhf2 hg2 R3=>?_)
   .exact cwXG2_
   .have cc1:=Nat;exact cwXG2_
  |ok r=>
   obtain⟨ds,t⟩:=r;have hans:=zy (qK hs hp);have a0:=zy (mZ hs hp);have j:=zy (xA hs hp);replace hp:=zy hp;go_in;go_wp2_with (go_at_call 40;apply H.o.mono;rintro e w1 ⟨sv,rv,ev,rfl,_,J,hf2,hm⟩;rw[hp.o]at hm;obtain⟨rfl,xs,o1,o2,T,N⟩:=hm;have F:=hf2.size;have S:w.heap.size+2<=w1.heap.size:=(by simp at F;omega);have a2:w.heap.size<w1.heap.size:=M_;have I:=zy (And.intro (yR.mono (Q:=λg=>w.heap.size+2<=g/\g<w1.heap.size) (⟨o1,o2,T,j.o.2.2.2.2.2⟩:yR w1 _ s ds sv xs) (λg h1 y=>⟨by simp at y;omega,h1⟩)) (N.mono (Q:=λg=>w.heap.size+2<=g/\g<w1.heap.size) (λg h1 y=>⟨by simp at y;omega,h1⟩)));obtain⟨sa,sc,rfl⟩:=zw o1;obtain⟨rT,rx,rfl⟩:=N.iface;have O:=zy (hf2.bl i M_);replace hf2:=zy hf2);have start:H_ (∃q:Nat,Value.int .i64 0=I_ q/\4-q<=4/\RSt w w1 s ds t (.slice sa ds.length sc) (.iface rT rx) xs q ((w1.alloc (.cells #[.slice sa ds.length sc,.iface rT rx] 48)).alloc (.cells #[.func (.func 41) #[] #[],.func (.func 42) #[] #[],.func (.func 43) #[] #[]] 116))):=by
    have K:Fr w1 ((w1.alloc (.cells #[.slice sa ds.length sc,.iface rT rx] 48)).alloc (.cells #[.func (.func 41) #[] #[],.func (.func 42) #[] #[],.func (.func 43) #[] #[]] 116)) N_:=((A_ w1 _).alloc _).alloc _;refine zy ⟨0,rfl,M_,⟨by simp,S,((hf1.o.trans hf2 (λx hx e=>M_)).alloc _).alloc _,M_,⟨I.o.1.fr K u_,I.o.2.fr K u_⟩,λh=>M_,λh=>M_,λh=>M_,K.bl O id,(B_ w1 #[.slice sa ds.length sc,.iface rT rx] 48).alloc _,⟨116,?_⟩,λh=>M_⟩⟩;have:=B_ (w1.alloc (.cells #[.slice sa ds.length sc,.iface rT rx] 48)) #[.func (.func 41) #[] #[],.func (.func 42) #[] #[],.func (.func 43) #[] #[]] 116;simpa using this
   go_loopg [27] 4 (λm v W=>∃q:Nat,v=I_ q/\4-q<=m/\RSt w w1 s ds t (.slice sa ds.length sc) (.iface rT rx) xs q W);case atStart=>exact start
   case round=>
    obtain⟨q,rfl,hm,M⟩:=hrel;have hz:=M.z;have i:w1.heap.size<wr.heap.size:=M_;have i:w.heap.size<wr.heap.size:=M_;obtain⟨lt,i⟩:=M.L;have b0:=M.B.c0;have b1:=M.B.c1;obtain⟨G,l1,l2⟩:=i.d3;have i:q=0\/q=1\/q=2\/q=3:=by have:=M.q3;omega
    rcases i with rfl|rfl|rfl|rfl
    .have hM:=M.d;have hC:=zy (ce hM.1 hM.2 (p.m.fr M.al id) j.o.1 j.o.2.1 (λg hg=>M_));have G:=G;cases hF:xL ds t with
     |nil=>
      replace hF:=zy hF;replace M:=zy M;go_wp2_with (go_at_call 41;apply hC.o.mono;rintro e w3 ⟨v,rfl,hf3,hm⟩;rw[hF.o]at hm;obtain rfl:=hm;have M3:=zy ((M.o.chk hf3).next0 hF));go_roundg 3;case measure=>omega
      case rel=>exact⟨1,rfl,l_,M3⟩
     |cons x r=>
      exact cwXG1_
    .have hM:=M.d;have hnm:=M.n M_;have hC:=zy (uY hM.1 hM.2 (p.u.fr M.al id) j.o.2.2.2.1 j.o.2.2.2.2.1 ⟨j.o.2.1,j.o.2.2.1⟩ (λg hg=>M_));have G:=l1;cases hF:vz ds t with
     |nil=>
      replace hF:=zy hF;replace M:=zy M;go_wp2_with (go_at_call 42;apply hC.o.mono;rintro e w3 ⟨v,rfl,hf3,hm⟩;rw[hF.o]at hm;obtain rfl:=hm;have M3:=zy ((M.o.chk hf3).next1 hF));go_roundg 2;case measure=>omega
      case rel=>exact⟨2,rfl,l_,M3⟩
     |cons x r=>
      have cc1:=Nat;exact cwXG1_
    .have hM:=M.d;have hnm:=M.n M_;have hun:=M.u M_;obtain⟨D,F⟩:=a0.o hnm hun;obtain⟨i,C⟩:=Xv hM.1 hp;have A:=zy (i.cells hM.1);have V:=zy (λw3 (hk:gM wr w3)=>(show pJ (sf (blkOf wr (λg=>w.heap.size+2<=g/\g<w1.heap.size) s ds xs)) w3 ds xs from A.o.to hM.1 (λfv n zs _ ho=>hk _ _ _ _ _ _ D_ ho)));have hC:=zy (ci (w0:=w) (rT:=rT) (rx:=rx) hM.1 ((yu.refl w).fr M.al l_ (λ_ f=>f.elim)) M.al.size (λg hg=>M_) (λg hg=>M_) p.n hs j.o.2.2.2.1 F D U Y X i C);replace C:=zy C;have G:=l2;cases hF:qm s ds with
     |nil=>
      replace hF:=zy hF;replace M:=zy M;go_wp2_with (go_at_call 43;apply hC.o.mono;rintro e w3 ⟨v,rfl,hf3,hm⟩;rw[hF.o]at hm;obtain⟨rfl,i,A,j,p⟩:=hm;have M3:=zy (M.o.next2 hf3 hF i A (Dfs.mono (lo:=wr.heap.size) ⟨_,V.o w3 p,C,j⟩ M_ (λ_ h=>h))));go_roundg 1;case measure=>omega
      case rel=>exact⟨3,rfl,l_,M3⟩
     |cons x r=>
      have cc2:=Nat;exact cwXG1_
    .have r0:=M.R.c0;have r1:=M.R.c1;have g0:=M.R.th 0;have g1:=M.R.th 1;have S2:=zy (W_ M.R (.slice sa ds.length sc) (.iface rT rx));replace M:=zy M;go_wp2;have q0:=S2.o.c0;have q1:=S2.o.c1;refine bodyPost_ret (v:=.tuple #[.agg #[.slice sa ds.length sc,.iface rT rx],.nilIface]) xd_ rfl ?_;rw[Q_.o];have h4:=Fr.pa wr w.heap.size (.slice sa ds.length sc) (.iface rT rx);refine⟨_,_,_,rfl,⟨_,_,_,rfl⟩,.inr ⟨_,_,rfl⟩,M.o.al.trans h4 (λx hx e=>M_),.inl ?_,λ_=>?_⟩
     .rw[hans.o,M.o.n M_,M.o.u M_,M.o.e M_];exact⟨rfl,rfl,rfl⟩
     .have up:∀g,w.heap.size+2<=g/\g<w1.heap.size->¬g=w.heap.size:=λg h=>by omega
      have i:=h4.size;have i:=M.o.z;exact⟨ds,t,xs,hs,hp,M.o.n M_,M.o.u M_,(M.o.d.1.fr h4 up).mono (λg h1 y=>⟨M_,h1⟩),(M.o.d.2.fr h4 up).mono (λg h1 y=>⟨M_,h1⟩),((M.o.f M_).fr M.o.d.1 h4 up (λg hg e=>M_)).mono M_ (λg hg=>⟨M_,M_⟩)⟩
def VC{w:Aw}{s:BA}{E:cB}(f:E.At w)(g:yM w)(j:yH w)(i:mg w):Calls prog 23 #[.string s] w (Qt w s E):=by
 apply(XG f g j i).mono;rintro e w' ⟨sv,rv,f,h1,g,i,j,k,p⟩;refine⟨sv,rv,f,h1,g,i,j,k,λh=>?_⟩;obtain⟨ds,t,xs,f,g,i,j,k,l,_⟩:=p h;exact⟨ds,t,xs,f,g,i,j,k,l⟩
def kdD:DT->Nat
 | .mk k _ _ _ _=>k
section
variable {env:Au} {w:Aw} {P:Az} {d:DT} {t:PT} {v:Ax}
def DaV.leaf(h:DaV env w P d t v)(h1:kdD d≠40)(e:kdD d≠91)(f:kdD d≠114)(g:kdD d≠123):qx d v:=by
 cases h with
 |flat h hs=>exact h
 |branch n h hd=>exact absurd rfl h1
 |row Y hc ho hP hd=>
  rcases hc with⟨rfl,_⟩|⟨rfl,_⟩
  .exact absurd rfl e
  .exact absurd rfl f
 |map Y hl hk ho hP hd=>exact absurd rfl g
def qx.nosym(h:qx d v)(hk:kdD d≠101)(n l:Nat):v≠.iface 154 (.agg #[U_ l,I_ n]):=by
 intro e;cases h with
 |sym n' l' h=>exact hk rfl
 |nothing=>simp only[Value.iface.injEq]at e;exact absurd e.1 D_
 |truth b=>simp only[Value.iface.injEq]at e;exact absurd e.1 D_
 |num c n hc h0 h1=>simp only[Value.iface.injEq]at e;exact absurd e.1 D_
 |text tx h=>simp only[Value.iface.injEq]at e;exact absurd e.1 D_
 |bytes tx h=>simp only[Value.iface.injEq]at e;exact absurd e.1 D_
def qx.long(h:qx d v){n:Int}(hd:d=.mk 105 n noB [] []):qx (.mk 108 n noB [] []) v:=by
 cases h with
 |num c n' hc h0 h1=>
  simp only[DT.mk.injEq,and_true]at hd;obtain⟨_,rfl⟩:=hd;exact .num 108 _ (.inr rfl) h0 h1
 |sym n' l' h=>simp[DT.mk.injEq]at hd
 |nothing=>simp[DT.mk.injEq]at hd
 |truth b=>simp[DT.mk.injEq]at hd
 |text tx h=>simp[DT.mk.injEq]at hd
 |bytes tx h=>simp[DT.mk.injEq]at hd
def DaV.sym_inv(h:DaV env w P d t v)(hd:d=.mk 101 (n:Int) noB [] []):∃l:Nat,v=.iface 154 (.agg #[U_ l,I_ n])/\fU env t n=l/\l<256:=by
 have hf:qx d v:=h.leaf ze_ ze_ ze_ ze_;obtain⟨l,rfl⟩:∃l:Nat,v=.iface 154 (.agg #[U_ l,I_ n]):=by
  cases hf with
  |sym n' l' h=>
   simp only[DT.mk.injEq,true_and,and_true]at hd;obtain rfl:n'=n:=M_;exact⟨l',rfl⟩
  |num c n' hc h0 h1=>
   simp only[DT.mk.injEq]at hd;omega
  |nothing=>simp[DT.mk.injEq]at hd
  |truth b=>simp[DT.mk.injEq]at hd
  |text tx h=>simp[DT.mk.injEq]at hd
  |bytes tx h=>simp[DT.mk.injEq]at hd
 generalize hv:Value.iface 154 (.agg #[U_ l,I_ n])=vv at h;cases h with
 |flat h hs=>exact⟨l,hv.symm,hs n l hv.symm⟩
 |branch n' h hd'=>simp only[Value.iface.injEq]at hv;exact absurd hv.1 D_
 |row Y hc ho hP hd'=>
  simp only[Value.iface.injEq]at hv;rcases hc with⟨_,h⟩|⟨_,h⟩<;>exact absurd (hv.1.trans h) D_
 |map Y hl hk ho hP hd'=>simp only[Value.iface.injEq]at hv;exact absurd hv.1 D_
def DaV.branch_inv(h:DaV env w P d t v){d1:DT}(hd:d=.mk 40 (n:Int) noB [] [d1]):n<=4000/\∃e,v=.iface 150 (.agg #[I_ n,e])/\DaV env w P d1 (yg env t n 0) e:=by
 cases h with
 |flat h hs=>
  cases h with
  |num c n' hc h0 h1=>simp only[DT.mk.injEq]at hd;omega
  |sym n' l' h=>simp[DT.mk.injEq]at hd
  |nothing=>simp[DT.mk.injEq]at hd
  |truth b=>simp[DT.mk.injEq]at hd
  |text tx h=>simp[DT.mk.injEq]at hd
  |bytes tx h=>simp[DT.mk.injEq]at hd
 |branch n' h hd'=>
  simp only[DT.mk.injEq,true_and,and_true,List.cons.injEq]at hd;obtain⟨h1,rfl⟩:=hd;obtain rfl:n'=n:=M_;exact⟨h,_,rfl,hd'⟩
 |row Y hc ho hP hd'=>
  simp only[DT.mk.injEq]at hd;rcases hc with⟨h,_⟩|⟨h,_⟩<;>omega
 |map Y hl hk ho hP hd'=>simp[DT.mk.injEq]at hd
def DaV.row_inv(h:DaV env w P d t v){c:Nat}{ds:Ae}(hd:d=.mk c 0 noB [] ds)(hc:c=91\/c=114):∃(lv:Value) (Y:Nat->Value),v=.iface (if c=91 then 144 else 152) lv/\w.ownsRow 0 52 1 lv ds.length ((List.range ds.length).flatMap λi=>[Y i])/\∀i d,ds[i]?=some d->DaV env w P d (yg env t 0 i) (Y i):=by
 cases h with
 |flat h hs=>
  cases h with
  |num c n' hc h0 h1=>simp only[DT.mk.injEq]at hd;omega
  |sym n' l' h=>simp only[DT.mk.injEq]at hd;omega
  |nothing=>simp only[DT.mk.injEq]at hd;omega
  |truth b=>simp only[DT.mk.injEq]at hd;omega
  |text tx h=>simp only[DT.mk.injEq]at hd;omega
  |bytes tx h=>simp only[DT.mk.injEq]at hd;omega
 |branch n' h hd'=>simp only[DT.mk.injEq]at hd;omega
 |row Y hc' ho hP hd'=>
  simp only[DT.mk.injEq,true_and]at hd;obtain⟨rfl,rfl⟩:=hd;refine⟨_,Y,?_,ho,hd'⟩;rcases hc' with⟨rfl,rfl⟩|⟨rfl,rfl⟩
  .rw[i_ rfl]
  .rw[n_ D_]
 |map Y hl hk ho hP hd'=>simp only[DT.mk.injEq]at hd;omega
def DaV.map_inv(h:DaV env w P d t v){ks:Dq}{ds:Ae}(hd:d=.mk 123 0 noB ks ds):∃(lv:Value) (Y:Nat->Value),v=.iface 147 lv/\ks.length=ds.length/\(∀k∈ks,k.size<=4000)/\w.ownsRow 0 201 2 lv ds.length ((List.range ds.length).flatMap λi=>[.string (ks.getD i noB),Y i])/\∀i d,ds[i]?=some d->DaV env w P d (yg env t 0 i) (Y i):=by
 cases h with
 |flat h hs=>
  cases h with
  |num c n' hc h0 h1=>simp only[DT.mk.injEq]at hd;omega
  |sym n' l' h=>simp only[DT.mk.injEq]at hd;omega
  |nothing=>simp only[DT.mk.injEq]at hd;omega
  |truth b=>simp only[DT.mk.injEq]at hd;omega
  |text tx h=>simp only[DT.mk.injEq]at hd;omega
  |bytes tx h=>simp only[DT.mk.injEq]at hd;omega
 |branch n' h hd'=>simp only[DT.mk.injEq]at hd;omega
 |row Y hc' ho hP hd'=>
  simp only[DT.mk.injEq]at hd;rcases hc' with⟨h,_⟩|⟨h,_⟩<;>omega
 |map Y hl hk ho hP hd'=>
  simp only[DT.mk.injEq,true_and]at hd;obtain⟨rfl,rfl⟩:=hd;exact⟨_,Y,rfl,hl,hk,ho,hd'⟩
end
def U8(w:Aw)(B g:Nat):Prop:=B<=g/\∃c fz,w.heap[g]?=some (.cells c 5 fz)
def FrU(B:Nat)(w w':Aw):Prop:=Fr w w' (U8 w B)
section
variable {a b c w w':Aw} {B:Nat} {v:Ax} {x:BA}
def FrU.refl(w:Aw):FrU B w w:=A_ _ _
def FrU.trans(h:FrU B a b)(k:FrU B b c):FrU B a c:=Fr.trans h k (λx hx ⟨h1,c,fz,h2⟩=>by
 by_cases e:U8 a B x
 .exact e
 .exact⟨h1,c,fz,by rw[<- h.block x hx e];exact h2⟩)
def FrU.all(h:FrU B w w'):Fr w w' (λg=>B<=g):=Fr.mono h (λ_ _ e=>e.1)
def FrU.of(h:Fr w w' N_):FrU B w w':=Fr.mono h v_
def FrU.size(h:FrU B w w'):w.heap.size<=w'.heap.size:=Fr.size h
def FrU.drew(h:FrU B w w'):FrU B w w'.drew:=Fr.drew h
def zG.u8(h:zG w B v x){g:Nat}(e:v.ownBlock=some g):U8 w B g:=by
 refine⟨(h.own e).1,?_⟩;rcases h.2 with⟨hn,_⟩|⟨g',f,f,hv,hb,hg,_⟩
 .rw[hn]at e;simp[Value.ownBlock]at e
 .rw[hv]at e;simp[Value.ownBlock]at e;subst e;exact⟨_,_,hg⟩
def zG.frx{S:Az}(h:zG w B v x)(hf:Fr w w' S)(e:∀g,v.ownBlock=some g->¬S g):zG w' B v x:=zj h hf e
def zG.si(h:zG w B v x)(hs:zq w w'):zG w' B v x:=h.frx ((A_ w N_).si hs) u_
def FrU.bl(h:FrU B w w'){k:Nat}{cs:Ay}{t:Av}(hb:Blk w k cs t)(f:t≠5):Blk w' k cs t:=Fr.bl h hb (λ⟨_,c,fz,e⟩=>by
 unfold Blk at hb
 rw[hb]at e
 simp at e
 exact f e.2.1)
end
def yX(w:Aw)(B:Nat)(b:BA)(e:Ak)(w':Aw):Prop:=∃v',e=.returned v'/\zG w' B v' b/\FrU B w w'
def yX.pre{w0 w w':Aw}{B:Nat}{b:BA}{e:Ak}(h:yX w B b e w')(hf:FrU B w0 w):yX w0 B b e w':=by
 obtain⟨v,h1,f,g⟩:=h;exact⟨v,h1,f,hf.trans g⟩
def qj{f:Dz}{i:List Oper}{a:Act}(l:o.guard=none)(s x:Operand)(ho:o.op=.call { callee:=.builtin .append,args:=#[s,x],argTypes:=#[94,94] }){B g:Nat}{w:Aw}{v:Ax}{b:BA}{y:Int}(c:Nat)(hy:y=(c:Int))(hc:c<256)(hb:zG w B v b)(j:b.size<=100000000)(hB:B<=w.heap.size)(hg:g=w.heap.size)(hs:a.eval s=v)(hx:a.eval x=S_ g 1 1)(h:∀j w',zG w' B j (b++bts [c])->FrU B w w'->wpList prog f Q i (a.put o.dst j) w'):wpList prog f Q (o::i) a (w.alloc (.cells #[.int .u8 y] 5)):=by
 subst hy;obtain⟨ti,f,i,j,p⟩:=info_parts oQ;refine wpList_append_own_at _ l _ _ 94 ho B 5 ti _ 1 1 wU f i j p rfl D_ _ b.size (Lib.strCells b) hs (World.ownsRow.alloc hb _) ⟨g,0,none⟩ 1 1 [U_ c] hx rfl (zK _ #[U_ c] _ _ hg) zi_ xs_ M_ x1_ ?_;intro l f j i _ _;refine h l f ?_ ?_
 .unfold zG;rw[ya,jh hc,ah_,yP];exact j
 .exact Fr.mono (((A_ w _).alloc _).gw i (λk hk _=>hk):Fr w f (λg=>v.ownBlock=some g)) (λg _ e=>hb.u8 e)
def cq31_{p:Prop}(h:p:=by
 obtain⟨ti,j,l,r,y⟩:=info_parts oQ;(first|(have:=cc1;obtain⟨A,f,hr,z,i,_⟩:=Lib.run_append_own_string (P:=prog) w B 94 9 o.type 5 ti wU wM j l r y _ b.size (Lib.strCells b) hb t (by unfold maxLen;omega) M_ hB)|(refine Lib.wpList_append_own_string _ hgd _ _ 94 9 ho B 5 ti wU wM j l r y _ b.size (Lib.strCells b) hs hb t hx (by unfold maxLen;omega) M_ hB ?_));(first|(have:=cc1;unfold Oper.wp execOp;simp only[ho,resolve,invoke,builtin,Sem.run_bind,Sem.run_pure,Result.andThen_ok,List.map_toArray,a0_,bn_,hs,hx,hr])|(intro A f z i _));refine h A f ?_ ?_
 .unfold zG;rw[ya,ah_];exact z
 .exact Fr.mono ((A_ w _).gw i (λk hk _=>hk):Fr w f (λg=>v.ownBlock=some g)) (λg _ e=>hb.u8 e)):p:=h
def GH{ops:Dz}{rest:List Oper}{a:Act}(hgd:o.guard=none)(s x:Operand)(ho:o.op=.call { callee:=.builtin .append,args:=#[s,x],argTypes:=#[94,9] }){B:Nat}{w:Aw}{v:Ax}{b t:BA}(hb:zG w B v b)(hsz:b.size<=100000000)(ht:t.size<=4000)(hB:B<=w.heap.size)(hs:a.eval s=v)(hx:a.eval x=.string t)(h:∀v' w',zG w' B v' (b++t)->FrU B w w'->wpList prog ops Q rest (a.put o.dst v') w'):wpList prog ops Q (o::rest) a w:=by
 exact cq31_
def jZ(w0:Aw):Prop:=∀(W:World) (B:Nat),w0.heap.size<=B->B<=W.heap.size->yu w0 W->∀(u:Value) (b:BA) (n:Int),-9223372036854775808<=n->n<=9223372036854775807->zG W B u b->b.size<=100000000->
 Calls prog 57 #[u,Z_ n,Z_ 10] W (yX W B (b++qi n))
def Qb{w0:Aw}(h:Lib.TabIs prog w0 "internal/strconv.uint64pow10" .u64 Lib.pow10Tab):jZ w0:=by
 intro W B h0 hB i u b n p r hb hs
 have j:Lib.TabBelow prog B W "internal/strconv.uint64pow10" .u64 Lib.pow10Tab:=λW' l=>(show yu w0 W' from λg hg=>(l.block g M_).trans (i g hg)).var h
 apply(Tryz.strconv_AppendInt_10 B b.size n p r u (Lib.strCells b) W hb hB M_ j).mono;rintro e w' ⟨y,rfl,ho,f,hk⟩;refine⟨y,rfl,?_,f.os,f.tape,f.output,f.size,λk l j=>?_⟩
 .unfold zG;rw[ya,ah_];have i:(qi n).size=(Lib.itoa n).length:=by unfold qi;show(Lib.itoa n).toArray.size=_;rw[List.size_toArray]
  rw[i];exact ho
 .by_cases i:k<B
  .exact f.block k i
  .have f:W.heap[k]?=some W.heap[k]:=Array.getElem?_eq_getElem l;rw[f];refine hk k _ f x6_ (λc i e=>j ⟨M_,c,i,by rw[f,e]⟩)
section
variable {w:Aw} {B:Nat} {u:Ax} {b:BA}
def Ul{t:Aq}(hb:zG w B u b)(hB:B<=w.heap.size)(hs:b.size<=100000000):Calls prog 56 #[u,.bool t] w (yX w B (b++if t=true then bts [84] else bts [70])):=by
 refine hq_ λj h=>?_;replace hb:=zy hb;cases t
 .go_in;go_wp2_with (at_builtin;refine qj rfl _ _ rfl 70 rfl D_ hb hs hB rfl rfl rfl ?_;intro g i e f);try go_ret
  rw[h.o];exact⟨g,rfl,e,f⟩
 .go_in;go_wp2_with (at_builtin;refine qj rfl _ _ rfl 84 rfl D_ hb hs hB rfl rfl rfl ?_;intro g i e f);try go_ret
  rw[h.o];exact⟨g,rfl,e,f⟩
def XC{c:Nat}{y:Int}{tx:BA}(hy:y=(c:Int))(hc:c<256)(h:tx.size<=4000)(hb:zG w B u b)(hB:B<=w.heap.size)(hs:b.size<=90000000):Calls prog 58 #[u,.int .u8 y,.string tx] w (yX w B (b++(bts [c]++(tx++bts [c])))):=by
 subst hy;refine hq_ λe i=>?_;replace hb:=zy hb;have e:(b++bts [c]).size<=90000001:=by rw[ah_,yP];simp only[ao_];omega
 have e:(b++bts [c]++tx).size<=90004001:=xw_
 go_in;go_wp2_with (first
  |(at_builtin;refine qj rfl _ _ rfl c rfl hc hb M_ hB rfl rfl rfl ?_;intro e e e f;have l:=f.size;replace e:=zy e;replace f:=zy f)
  |(at_builtin;refine GH rfl _ _ rfl e M_ h M_ rfl rfl ?_;intro h h h g;have l:=g.size;replace h:=zy h;replace g:=zy g)
  |(at_builtin;refine qj rfl _ _ rfl c rfl hc h M_ M_ rfl rfl rfl ?_;intro e h j k))
 try go_ret
 rw[i.o];refine⟨e,rfl,?_,(f.o.trans g).trans k⟩;rw[<- bj_,<- bj_];exact j
def KO(hb:zG w B u b)(hB:B<=w.heap.size)(hs:b.size<=100000000):Calls prog 94 #[u,I_ n] w (yX w B (b++if n=0 then noB else bts [44])):=by
 refine hq_ λh e=>?_;replace hb:=zy hb;by_cases hn:n=0
 .subst hn;go_in;go_wp2;try go_ret
  rw[e.o];show yX w B (b++noB) _ _;rw[wq];exact⟨u,rfl,hb,FrU.refl w⟩
 .have h:((n:Int)==0)=false:=x1_
  rw[n_ hn]at e;go_in;go_wp2_with (at_builtin;refine qj rfl _ _ rfl 44 rfl D_ hb hs hB rfl rfl rfl ?_;intro h i f g);try go_ret
  rw[e.o];exact⟨h,rfl,f,g⟩
end
mutual
def nB(env:Au):∀(d:DT) (t:PT),okD d->(txT env d t).size+4011<=8022*ndT d
 | .mk k n tx ks ds,t,h=>by
  unfold okD at h;have h1:=JS h.1.1 h.1.2.1;have e:=h.2.2.1;have e:=gU env t n.toNat ks ds 0 0 (k==123) h.2.2.2.1 h.2.2.2.2.2;have e:=gU env t n.toNat ks ds 0 0 false h.2.2.2.1 h.2.2.2.2.2;unfold ndT txT;split
  .rw[yP];simp only[au_,av_];omega
  split
  .split<;>(rw[yP];simp only[au_,av_];omega)
  split
  .omega
  split
  .simp only[ah_,yP,au_,av_];omega
  split
  .simp only[ah_,yP,au_,av_];omega
  split
  .rw[yP];simp only[au_,av_];omega
  split
  .simp only[ah_,yP,au_,av_];omega
  .unfold ky;split
   .simp only[ah_,yP,au_,av_];omega
   split<;>(simp only[ah_,yP,au_,av_];omega)
def gU(env:Au)(t:PT)(n:Nat):∀(ks:List BA) (ds:List DT) (i q:Nat) (keyed:Bool),(∀x∈ks,x.size<=4000)->kx ds->(jn q (yU env t n i keyed ks ds)).size<=8022*za ds
 | _,[],_,_,_,_,_=>by simp only[yU,jn];show(0:Nat)<=_;omega
 |ks,d::r,i,q,keyed,hk,h=>by
  unfold kx at h;have h1:=nB env d (yg env t n i) h.1;have e:=gU env t n ks.tail r (i+1) (q+1) keyed (λx hx=>hk x (List.mem_of_mem_tail hx)) h.2;have e:(ks.headD noB).size<=4000:=by
   cases ks with
   |nil=>exact am_ _
   |cons a l=>exact hk a x6_
  have e:(if q=0 then noB else bts [44]).size<=1:=by
   split
   .exact am_ _
   .rw[yP];exact l_
  have e:(if keyed=true then ks.headD noB++bts [58] else noB).size<=4001:=by
   split
   .rw[ah_,yP];simp only[au_,av_];omega
   .exact am_ _
  simp only[yU,jn,za];simp only[ah_];omega
end
def dW(env:Au)(t:PT)(n:Nat)(keyed:Aq):∀(ds:List DT) (i:Nat) (ks:List BA) (q:Nat),(yU env t n i keyed ks ds).take q=yU env t n i keyed ks (ds.take q)
 | [],i,ks,q=>by simp[yU]
 |d::r,i,ks,0=>by simp[yU]
 |d::r,i,ks,q+1=>by simp only[yU,cg_];rw[dW env t n keyed r (i+1) ks.tail q]
def ug(env:Au)(t:PT)(n:Nat)(keyed:Aq)(ks:Dq)(ds:Ae)(q:Nat)(hk:∀x∈ks,x.size<=4000)(h:kx ds):(upT env t n keyed ks ds q).size<=8022*za (ds.take q):=by
 unfold upT;rw[dW];exact gU env t n ks (ds.take q) 0 0 keyed hk (uJ h q)
def Zf(w0:Aw)(env:Au)(m:Nat):Prop:=∀(d:DT),ndT d<=m->∀(w:World) (P:Nat->Prop) (B:Nat) (t:PT) (v u:Value) (b:BA),DaV env w P d t v->(∀g,P g->g<B)->w0.heap.size<=B->B<=w.heap.size->yu w0 w->zG w B u b->b.size+8022*ndT d<=90000000->
 Calls prog 31 #[u,v] w (yX w B (b++txT env d t))
def yu.fru{w0 w w':Aw}{B:Nat}(h:yu w0 w)(hf:FrU B w w')(h0:w0.heap.size<=B)(hB:B<=w.heap.size):yu w0 w':=h.fr hf.all M_ (λg e=>M_)
section
variable {w0 w:Aw} {env:Au} {m:Nat} {P:Az} {B:Nat} {u:Ax} {b:BA} {t:PT}
def cwMT1_{p:Prop}(h:p:=by
 have hlt':¬((q:Int)<(ds.length:Int)):=M_;(first|(have:=cc1;have hsz:=ug env t 0 true ks ds q hk.o hok.o)|(have hsz:=ug env t 0 false [] ds q x6_ hok.o));rw[bc_ M_]at hsz;rw[sH M_]at hBu hsz;(first|(have:=cc1;have e:(b1++jn 0 (yU env t 0 0 true ks ds)).size<=100000000:=xw_)|(have e:(b1++jn 0 (yU env t 0 0 false [] ds)).size<=100000000:=xw_))
 clear hsz;replace hFw:=zy hFw;replace hBu:=zy hBu;go_wp2_with (at_builtin;(first|(have:=cc1;refine qj rfl _ _ rfl 125 rfl D_ hBu.o e M_ rfl rfl rfl ?_)|(refine qj rfl _ _ rfl c rfl hc256 hBu.o e M_ rfl rfl rfl ?_));intro e e f g);try go_ret
 rw[Q_.o];exact⟨_,rfl,f,hFw.o.trans g⟩):p:=h
def MT(I:Zf w0 env m){ds:Ae}{la:Am}{lc:Nat}{Y:Ai}{o c:Nat}{y z:Int}(hy:y=(o:Int))(hz:z=(c:Int))(D:o<256)(hc256:c<256)(hm:za ds<=m)(hP:∀g,P g->g<B)(h0:w0.heap.size<=B)(hB:B<=w.heap.size)(r:yu w0 w)(hu:zG w B u b)(hs:b.size+8022*(1+za ds)<=90000000)(ho:w.ownsRow 0 52 1 (.slice la ds.length lc) ds.length ((List.range ds.length).flatMap λi=>[Y i]))(hl:∀g,(Value.slice la ds.length lc).ownBlock=some g->P g)(hd:∀i d,ds[i]?=some d->DaV env w P d (yg env t 0 i) (Y i)):Calls prog 59 #[u,.int .u8 y,.slice la ds.length lc,.int .u8 z] w (yX w B (b++(bts [o]++(jn 0 (yU env t 0 0 false [] ds)++bts [c])))):=by
 subst hy;subst hz;refine hq_ λE Q_=>?_;have hok:kx ds:=bh (λi d e=>(hd i d e).dat.ok);have E:=xR ds;obtain⟨b1,f⟩:=e_ (b++bts [o]);have E:b1.size=b.size+1:=by rw[f,ah_,yP];rfl
 have A:b++(bts [o]++(jn 0 (yU env t 0 0 false [] ds)++bts [c]))=(b1++jn 0 (yU env t 0 0 false [] ds))++bts [c]:=by rw[f];simp only[bj_]
 rw[A]at Q_;have start:H_ (∀(j:Value) (W:World),zG W B j (b++bts [o])->FrU B w W->∃q:Nat,Value.int .i64 0=I_ q/\q<=ds.length/\ds.length+1-q<=ds.length+1/\zG W B j (b1++upT env t 0 false [] ds q)/\FrU B w W):=zy λj W h1 l=>⟨0,rfl,am_ _,M_,by rw[tN,wq,f];exact h1,l⟩;replace ho:=zy ho;replace hd:=zy hd;replace hl:=zy hl;replace hP:=zy hP;replace hok:=zy hok;replace hu:=zy hu;replace r:=zy r;go_in;go_wp2_with (at_builtin;refine qj rfl _ _ rfl o rfl D hu M_ hB rfl rfl rfl ?_;intro F H A D;have E:=zy (start.o F H A D));go_loopg [0,9,10,17] (ds.length+1) (λm A D D v W=>∃q:Nat,v=I_ q/\q<=ds.length/\ds.length+1-q<=m/\zG W B A (b1++upT env t 0 false [] ds q)/\FrU B w W);case atStart=>exact E
 case round=>
  obtain⟨q,rfl,A,A,hBu,hFw⟩:=hrel;have A:=hFw.size;by_cases C:q<ds.length
  .have hlt':(q:Int)<(ds.length:Int):=M_;have k:ds[q]?=some ds[q]:=aj_ C;generalize ds[q]=d at k;obtain⟨J,K⟩:=xJ k;have hsz:=ug env t 0 false [] ds q x6_ hok;have E:b1++upT env t 0 false [] ds (q+1)=(b1++upT env t 0 false [] ds q++if q=0 then noB else bts [44])++txT env d (yg env t 0 q):=by
    rw[nQ k];simp only[itT,a1_,if_false,uP,bj_]
   have H:(if q=0 then noB else bts [44]).size<=1:=by
    split
    .exact am_ _
    .rw[yP];exact l_
   obtain⟨g,A,A⟩:=zg ho M_;cases A;have hv:=hd.o q d k;obtain⟨T,x,hx⟩:=hv.iface;rw[hx]at hv;have A:∀g,P g->¬B<=g:=λg h=>by have:=hP.o g h;omega
   have D:wr.cell? ⟨g,q,none⟩=some (.iface T x):=by
    rw[<- hx];exact qQ (zj ho hFw.all (λg e=>A g (hl.o g e))) C
   have F:=zy (KO (n:=q) hBu M_ xw_);have G:H_ (∀j w1,zG w1 B j (b1++upT env t 0 false [] ds q++if q=0 then noB else bts [44])->FrU B wr w1->Calls prog 31 #[j,.iface T x] w1 (yX w1 B (b1++upT env t 0 false [] ds (q+1)))):=zy (λj w1 h1 l=>by
    rw[E]
    have D:=l.size
    have D:=hFw.trans l
    exact I d M_ w1 P B _ _ _ _ (hv.fr D.all A) hP h0 M_ (r.o.fru D h0 hB) h1 (by simp only[ah_];omega))
   have l:q<=90000000:=M_;replace hFw:=zy hFw;replace k:=zy k;replace hBu:=zy hBu;go_wp2_with (first
    |(go_at_call 94;apply F.o.mono;rintro e w1 ⟨j,rfl,f,p⟩;replace p:=zy p;replace f:=zy f)
    |(go_at_call 31;apply(G.o _ _ f p).mono;rintro e f ⟨f,rfl,f,j⟩;replace j:=zy j;replace f:=zy f))
   go_roundg (ds.length+1-(q+1));case measure=>omega
   case rel=>exact⟨q+1,by simp,C,l_,f,(hFw.o.trans p).trans j⟩
  .exact cwMT1_
end
def ZA{a:Act}{K:Dx}(s x:Operand)(ho:o.op=.call { callee:=.builtin .append,args:=#[s,x],argTypes:=#[94,94] }){B g:Nat}{w W:Aw}{v:Ax}{b:BA}{y:Int}(c:Nat)(hy:y=(c:Int))(hc:c<256)(hb:zG w B v b)(f:b.size<=100000000)(hB:B<=w.heap.size)(hg:g=w.heap.size)(hs:a.eval s=v)(hx:a.eval x=S_ g 1 1)(i:W=w.alloc (.cells #[.int .u8 y] 5))(h:∀f w',zG w' B f (b++bts [c])->FrU B w w'->K (a.put o.dst f) w'):o.wp prog a W K Q:=by
 subst hy;subst i;obtain⟨ti,j,l,p,r⟩:=info_parts oQ;obtain⟨A,f,hr,z,i,_,_⟩:=run_append_own_at (P:=prog) (w.alloc (.cells #[U_ c] 5)) B 94 o.type 5 ti _ 1 1 wU j l p r rfl D_ _ b.size (Lib.strCells b) (World.ownsRow.alloc hb _) ⟨g,0,none⟩ 1 1 [U_ c] rfl (zK _ #[U_ c] _ _ hg) zi_ xs_ M_ x1_;unfold Oper.wp execOp;simp only[ho,resolve,invoke,builtin,Sem.run_bind,Sem.run_pure,Result.andThen_ok,List.map_toArray,a0_,bn_,hs,hx,hr];refine h A f ?_ ?_
 .unfold zG;rw[ya,jh hc,ah_,yP];exact z
 .exact Fr.mono (((A_ w _).alloc _).gw i (λk hk _=>hk):Fr w f (λg=>v.ownBlock=some g)) (λg _ e=>hb.u8 e)
def Ft{a:Act}{K:Dx}(s x:Operand)(ho:o.op=.call { callee:=.builtin .append,args:=#[s,x],argTypes:=#[94,9] }){B:Nat}{w:Aw}{v:Ax}{b t:BA}(hb:zG w B v b)(hsz:b.size<=100000000)(ht:t.size<=4000)(hB:B<=w.heap.size)(hs:a.eval s=v)(hx:a.eval x=.string t)(h:∀v' w',zG w' B v' (b++t)->FrU B w w'->K (a.put o.dst v') w'):o.wp prog a w K Q:=by
 have cc1:=Nat
 exact cq31_
section
variable {w0 w:Aw} {env:Au} {m:Nat} {P:Az} {B:Nat} {u:Ax} {b:BA} {t:PT}
def Ci(ih:Zf w0 env m){ks:Dq}{ds:Ae}{la:Am}{lc:Nat}{Y:Ai}(hm:za ds<=m)(hP:∀g,P g->g<B)(h0:w0.heap.size<=B)(hB:B<=w.heap.size)(R:yu w0 w)(hu:zG w B u b)(hs:b.size+8022*(1+za ds)<=90000000)(hk:∀k∈ks,k.size<=4000)(ho:w.ownsRow 0 201 2 (.slice la ds.length lc) ds.length ((List.range ds.length).flatMap λi=>[.string (ks.getD i noB),Y i]))(hl:∀g,(Value.slice la ds.length lc).ownBlock=some g->P g)(hd:∀i d,ds[i]?=some d->DaV env w P d (yg env t 0 i) (Y i)):Calls prog 60 #[u,.slice la ds.length lc] w (yX w B (b++(bts [123]++(jn 0 (yU env t 0 0 true ks ds)++bts [125])))):=by
 refine hq_ λb5 Q_=>?_;have hok:kx ds:=bh (λi d e=>(hd i d e).dat.ok);have b9:=xR ds;obtain⟨b1,l⟩:=e_ (b++bts [123]);have b7:b1.size=b.size+1:=by rw[l,ah_,yP];rfl
 have a2:b++(bts [123]++(jn 0 (yU env t 0 0 true ks ds)++bts [125]))=(b1++jn 0 (yU env t 0 0 true ks ds))++bts [125]:=by rw[l];simp only[bj_]
 rw[a2]at Q_;have start:H_ (∀(p:Value) (W:World),zG W B p (b++bts [123])->FrU B w W->∃q:Nat,Value.int .i64 0=I_ q/\q<=ds.length/\ds.length+1-q<=ds.length+1/\zG W B p (b1++upT env t 0 true ks ds q)/\FrU B w W):=zy λp W h1 H=>⟨0,rfl,am_ _,M_,by rw[tN,wq,l];exact h1,H⟩;replace ho:=zy ho;replace hd:=zy hd;replace hl:=zy hl;replace hP:=zy hP;replace hok:=zy hok;replace hu:=zy hu;replace R:=zy R;replace hk:=zy hk;go_in;go_wp2_with (at_builtin;refine qj rfl _ _ rfl 123 rfl D_ hu M_ hB rfl rfl rfl ?_;intro v5 w5 a0 a3;have a5:=zy (start.o v5 w5 a0 a3));go_loopg [0,5,6,12] (ds.length+1) (λm v0 v5 v6 v W=>∃q:Nat,v=I_ q/\q<=ds.length/\ds.length+1-q<=m/\zG W B v0 (b1++upT env t 0 true ks ds q)/\FrU B w W);case atStart=>exact a5
 case round=>
  obtain⟨q,rfl,hq,b8,hBu,hFw⟩:=hrel;have d2:=hFw.size;by_cases Z:q<ds.length
  .have hlt':(q:Int)<(ds.length:Int):=M_;have A:ds[q]?=some ds[q]:=aj_ Z;generalize ds[q]=d at A;obtain⟨t1,t2⟩:=xJ A;have hsz:=ug env t 0 true ks ds q hk hok;obtain⟨K,S⟩:=x_ (ks.getD q noB);obtain⟨C,I⟩:=e_ (b1++upT env t 0 true ks ds q++(if q=0 then noB else bts [44]));have a4:b1++upT env t 0 true ks ds (q+1)=((C++K)++bts [58])++txT env d (yg env t 0 q):=by
    rw[nQ A,I];simp only[itT,if_true,S,bj_]
   have a8:(if q=0 then noB else bts [44]).size<=1:=by
    split
    .exact am_ _
    .rw[yP];exact l_
   have a7:K.size<=4000:=by
    rw[<- S,as_];cases b4:ks[q]? with
    |none=>exact am_ _
    |some y=>exact hk.o y (ai_ b4)
   have a6:C.size<=b1.size+8022*za (ds.take q)+1:=by rw[I];simp only[ah_];omega
   obtain⟨g,b6,a9⟩:=zg ho M_;cases a9;have hv:=hd.o q d A;obtain⟨T,x,hx⟩:=hv.iface;rw[hx]at hv;have X:∀g,P g->¬B<=g:=λg h=>by have:=hP.o g h;omega
   obtain⟨m0,m1⟩:=bQ (K:=λi=>ks.getD i noB) (zj ho hFw.all (λg e=>X g (hl.o g e))) Z;rw[hx]at m1;simp only[S]at m0;obtain⟨D,F⟩:=e_ (wr.alloc (.cells #[.string K,.iface T x] 201));have E:Fr wr D N_:=F▸(A_ wr _).alloc _;have G:Blk D wr.heap.size [.string K,.iface T x] 201:=F▸B_ wr #[.string K,.iface T x] 201;have S:=E.size;have U:∀W,Fr D W N_->Calls prog 94 #[u0,I_ q] W (λe w'=>∃p,e=.returned p/\H_ (zG w' B p C/\FrU B w w'/\Blk w' wr.heap.size [.string K,.iface T x] 201)/\w'.cell? ⟨wr.heap.size,0,none⟩=some (.string K)):=by
    intro W J;have hz:=J.size;have S:zG W B u0 (b1++upT env t 0 true ks ds q):=(zG.fr (zG.fr hBu E u_) J u_);apply(KO (n:=q) S M_ xw_).mono;rintro e w1 ⟨p,rfl,l,z⟩;have H:=z.bl (J.bl G (λf=>f)) D_;refine⟨p,rfl,zy ⟨I▸l,hFw.trans (((FrU.of E).trans (FrU.of J)).trans z),H⟩,?_⟩;rw[H.cell 0];rfl
   have O:∀W p,zG W B p ((C++K)++bts [58])->FrU B w W->Calls prog 31 #[p,.iface T x] W (yX W B (b1++upT env t 0 true ks ds (q+1))):=by
    intro W p l z;have hz:=z.size;rw[a4];exact ih d M_ W P B _ _ p _ (hv.fr z.all X) hP h0 M_ (R.o.fru z h0 hB) l yn_
   have z:q<=90000000:=M_;have z:C.size<=90000000:=M_;have z:(C++K).size<=90004000:=xw_
   replace U:=zy U;replace O:=zy O;replace hFw:=zy hFw;replace A:=zy A;replace hBu:=zy hBu;replace E:=zy E;replace G:=zy G;go_wp2;rw[<- F];replace F:=zy F;refine tR_ (λW=>z_ W wr.heap.size 0 (.string K)) ?_;refine tY_ 0 ?_;refine tY_ 1 ?_;refine tY_ 3 ?_;refine tY_ 4 ?_;refine zJ 2 rfl K_ (by have:=G.o.cell 0;exact this) (λr j=>?_);go_simp;apply(U.o _ ((A_ D _).drew)).mono;rintro e w1 ⟨p,rfl,l,c1⟩;refine j _ _ ?_;refine zJ 5 rfl K_ c1 (λr j=>?_);rw[i_ (show Region.wanted _ _=true by kernel_rfl)];refine Ft _ _ rfl l.o.1 M_ a7 (al_ hB l.o.2.1.size) rfl rfl ?_;intro v6 D z A;refine j _ _ ?_;have p:=A.bl l.o.2.2 D_;have E:=p.c0;have F:=p.c1;have M:=zy (l.o.2.1.trans A);replace z:=zy z;replace p:=zy p;refine tY_ 6 ?_;refine yq K_ E ?_ _;go_wp2;refine tR_ (λW=>z_ W wr.heap.size 1 (.iface T x)) ?_;refine tY_ 0 ?_;refine tY_ 3 ?_;refine tY_ 4 ?_;refine zJ 1 rfl K_ F (λr j=>?_);go_simp;refine j _ _ ?_;have A:=M.o.size;have B7:=(p.o.alloc (.cells #[.int .u8 58] 5));have l:=B7.c1;refine zJ 2 rfl K_ l (λr j=>?_);rw[i_ (show Region.wanted _ _=true by kernel_rfl)];refine ZA _ _ rfl 58 rfl D_ (w:=D.drew) (zG.si z (zq.drew _)) M_ (al_ hB A) rfl rfl rfl rfl ?_;intro l l a1 V;refine j _ _ ?_;have N:=M.o.drew.trans V;have L:=V.bl ((((A_ D N_).drew)).bl p id) D_;have l:=L.c1;refine zJ 5 rfl K_ l (λr j=>?_);go_simp;apply(O.o _ _ a1 N).mono;rintro e l ⟨l,rfl,l,p⟩;refine j _ _ ?_;have r:=(p.bl L D_).c1;have j:=zy (N.trans p);replace l:=zy l;refine tY_ 6 ?_;refine yq K_ r ?_ _;go_wp2;go_roundg (ds.length+1-(q+1));case measure=>omega
   case rel=>exact⟨q+1,by simp,Z,l_,l,j⟩
  .have cc1:=Nat;exact cwMT1_
end
section
variable {w0 w:Aw} {env:Au} {m:Nat} {P:Az} {B:Nat} {u:Ax} {b:BA} {t:PT}
def sB(env:Au)(n:Nat)(d:DT)(t:PT):txT env (.mk 40 (n:Int) noB [] [d]) t=bts [60]++(qi n++(bts [58]++(txT env d (yg env t n 0)++bts [62]))):=by
 conv=>lhs;unfold txT
 rw[n_ D_,n_ D_,n_ D_,n_ D_,n_ D_,n_ D_,i_ rfl];simp only[yU,jn,a1_,if_false,if_true,uP,wq,bt_]
def FK(U:Zf w0 env m)(N:jZ w0)(hn:n<=4000){d:DT}{v:Ax}(hm:ndT d<=m)(hv:DaV env w P d (yg env t n 0) v)(hP:∀g,P g->g<B)(h0:w0.heap.size<=B)(hB:B<=w.heap.size)(H:yu w0 w)(hu:zG w B u b)(hs:b.size+8022*(1+ndT d)<=90000000):Calls prog 61 #[u,.agg #[I_ n,v]] w (yX w B (b++txT env (.mk 40 (n:Int) noB [] [d]) t)):=by
 refine hq_ λj M=>?_;obtain⟨T,x,rfl⟩:=hv.iface;have Y:=JS (n:=(n:Int)) M_ M_;have a1:=nB env d (yg env t n 0) hv.dat.ok;have S:∀g,P g->¬B<=g:=λg h=>by have:=hP g h;omega
 obtain⟨k,y⟩:=e_ (w.alloc (.cells #[I_ n,.iface T x] 150));have p:Fr w k N_:=y▸(A_ w _).alloc _;have r:Blk k w.heap.size [I_ n,.iface T x] 150:=y▸B_ w #[I_ n,.iface T x] 150;have a2:=p.size;have L:zG k B u b:=zG.fr hu p u_;have j:(b++bts [60]).size<=b.size+1:=by rw[ah_,yP];exact l_
 have I:∀W j,zG W B j (b++bts [60])->FrU B w W->Calls prog 57 #[j,I_ n,Z_ 10] W (yX W B ((b++bts [60])++qi n)):=λW j h1 l=>N W B h0 (o1_ l.size) (H.fru l h0 hB) j _ (n:Int) M_ M_ h1 M_;have G:∀W j,zG W B j (((b++bts [60])++qi n)++bts [58])->FrU B w W->Calls prog 31 #[j,.iface T x] W (yX W B ((((b++bts [60])++qi n)++bts [58])++txT env d (yg env t n 0))):=λW j h1 l=>U d hm W P B _ _ j _ (hv.fr l.all S) hP h0 (o1_ l.size) (H.fru l h0 hB) h1 yn_;have j:b++txT env (.mk 40 (n:Int) noB [] [d]) t=((((b++bts [60])++qi n)++bts [58])++txT env d (yg env t n 0))++bts [62]:=by rw[sB];simp only[bj_]
 rw[j]at M;have l:((b++bts [60])++qi n).size<=90000000:=xw_
 have a0:((((b++bts [60])++qi n)++bts [58])++txT env d (yg env t n 0)).size<=100000000:=yn_
 replace I:=zy I;replace G:=zy G;have j:=zy (FrU.of (B:=B) p);replace p:=zy p;have c0:=r.c0;replace r:=zy r;replace L:=zy L;replace y:=zy y;go_in;go_wp2;rw[<- y.o];refine tR_ (λW=>z_ W w.heap.size 0 (I_ n)) ?_;refine tY_ 0 ?_;refine tY_ 3 ?_;refine tY_ 4 ?_;refine zJ 1 rfl K_ c0 (λi f=>?_);go_simp;refine f _ _ ?_;have l:=(r.o.alloc (.cells #[.int .u8 60] 5)).c0;refine zJ 2 rfl K_ l (λi f=>?_);rw[i_ (show Region.wanted _ _=true by kernel_rfl)];refine ZA _ _ rfl 60 rfl D_ (w:=k.drew) (zG.si L (zq.drew _)) M_ (al_ hB a2) rfl rfl rfl rfl ?_;intro l l O J;refine f _ _ ?_;have D:=j.o.drew.trans J;have A:=J.bl ((((A_ k N_).drew)).bl r id) D_;have j:=A.c0;refine zJ 5 rfl K_ j (λi f=>?_);go_simp;apply(I.o _ _ O D).mono;rintro e V ⟨j,rfl,k,l⟩;refine f _ _ ?_;have j:=l.bl A D_;have p:=j.c0;have r:=j.c1;have E:=zy (D.trans l);replace k:=zy k;replace j:=zy j;refine tY_ 6 ?_;refine yq K_ p ?_ _;go_wp2;refine tR_ (λW=>z_ W w.heap.size 1 (.iface T x)) ?_;refine tY_ 0 ?_;refine tY_ 3 ?_;refine tY_ 4 ?_;refine zJ 1 rfl K_ r (λi f=>?_);go_simp;refine f _ _ ?_;have p:=E.o.size;have l:=(j.o.alloc (.cells #[.int .u8 58] 5)).c1;refine zJ 2 rfl K_ l (λi f=>?_);rw[i_ (show Region.wanted _ _=true by kernel_rfl)];refine ZA _ _ rfl 58 rfl D_ (w:=V.drew) (zG.si k (zq.drew _)) M_ (al_ hB p) rfl rfl rfl rfl ?_;intro k k R K;refine f _ _ ?_;have F:=E.o.drew.trans K;have C:=K.bl ((((A_ V N_).drew)).bl j id) D_;have j:=C.c1;refine zJ 5 rfl K_ j (λi f=>?_);go_simp;apply(G.o _ _ R F).mono;rintro e j ⟨j,rfl,j,k⟩;refine f _ _ ?_;have f:=(k.bl C D_).c1;have z:=F.trans k;have i:=z.size;replace z:=zy z;replace j:=zy j;refine tY_ 6 ?_;refine yq K_ f ?_ _;go_wp2_with (at_builtin;refine qj rfl _ _ rfl 62 rfl D_ j a0 M_ rfl rfl rfl ?_;intro f f X Z);try go_ret
 rw[M.o];exact⟨_,rfl,X,z.o.trans Z⟩
end
end Go.Proofs.YtokgeopihcopeaaGreatDoor
