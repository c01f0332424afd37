import Derived.Test.YtlmebjdmdogmfaaGreatDoorW17
set_option linter.unusedVariables false
set_option maxHeartbeats 16000000
set_option maxRecDepth 100000
set_option linter.defProp false
set_option linter.unusedSimpArgs false
open Go.Proofs.Tryz
namespace Go.Proofs.YtlmebjdmdogmfaaGreatDoor
open Go.RowKit
variable {n lc:Nat}{la:Am}{Y:Ai}{o:Db}{Q:Aa}{ks:Dq}{tx:BA}
def mZ{s:BA}(hs:s.size<=300){ds:Ar}{t:PT}(h:ze s=.ok (ds,t))(hn:xL ds t=[])(hu:vz ds t=[]):vj ds/\∀f∈zk ds,okT (zx ds) f.ty:=by
 obtain⟨e,g,_,_,_⟩:=jT h;rw[hn]at e;rw[hu]at g;have hw:wrU (zx ds) (jm ds++zZ t) (qy [] ds (-1))<0:=by rw[e];decide
 have hm:mix t (qp ds (-1))<0:=by rw[g];decide
 obtain⟨g,e,_,_⟩:=uo hs h hw hm;obtain⟨k,_⟩:=xA hs h;obtain⟨p,r⟩:=jL h;obtain⟨_,e⟩:=Xi hw;have i:=lF (zx ds) t _ r hm (λu hu=>e u (b6_ _ hu));have j:=(Zj (env:=zx ds) p (λu hu=>e u (b1_ _ hu)) i.1).2;refine⟨λc b he=>⟨?_,g c b he⟩,λf hf=>?_⟩
 .unfold zx at he;cases hl:vh 0 c ds with
  |none=>rw[hl]at he;cases he
  |some q=>
   obtain⟨e,e⟩:=q;rw[hl]at he;simp only[bc_,af_]at he;subst he;obtain⟨d,hd,rfl⟩:=gh hl;exact k d hd
 .obtain⟨d,hd,e⟩:=bD hf;cases hb:d.body with
  |recd fs=>rw[hb]at e;exact j d hd fs hb f e
  |enum l o=>rw[hb]at e;simp[PB.fs]at e
  |bytes n=>rw[hb]at e;simp[PB.fs]at e
structure cB where
 lt:TypeId
 lx:Value
 gt:TypeId
 gx:Value
 mt:TypeId
 mx:Value
 ut:TypeId
 ux:Value
 nt:TypeId
 nx:Value
structure cB.At(E:cB)(w:Aw):Prop where
 l:vN 7 w E.lt E.lx
 g:vN 0 w E.gt E.gx
 m:vN 1 w E.mt E.mx
 u:vN 2 w E.ut E.ux
 n:vN 3 w E.nt E.nx
def jk(E:cB)(w:Aw)(lo:Nat)(ev:Ax)(a:Int×Int):Prop:=
 (a.1=0/\a.2=0/\ev=.nilIface)\/(a.1=1/\a.2=0/\ev=.iface E.lt E.lx)\/(a.1=2/\zO w lo ev a.2 (.iface E.gt E.gx))\/(a.1=3/\zO w lo ev a.2 (.iface E.mt E.mx))\/(a.1=4/\zO w lo ev a.2 (.iface E.ut E.ux))\/(a.1=5/\∃cv,zO w lo ev a.2 cv/\qC w lo E.nt E.nx cv)
def Cc(lo:Nat)(w:Aw)(s:BA)(sv rv:Ax):Prop:=
 ∃ds t xs,s.size<=300/\ze s=.ok (ds,t)/\xL ds t=[]/\vz ds t=[]/\yR w (λg=>lo<=g/\g<w.heap.size) s ds sv xs/\TyV w (λg=>lo<=g/\g<w.heap.size) t rv
def wi(lo:Nat)(w:Aw)(s:BA)(sv rv:Ax):Prop:=
 ∃ds t xs,s.size<=300/\ze s=.ok (ds,t)/\xL ds t=[]/\vz ds t=[]/\yR w (λg=>lo<=g/\g<w.heap.size) s ds sv xs/\TyV w (λg=>lo<=g/\g<w.heap.size) t rv/\Dfs lo (λg=>lo<=g/\g<w.heap.size) w s ds xs
def Qt(w:Aw)(s:BA)(E:cB)(e:Ak)(w':Aw):Prop:=
 ∃sv rv ev,e=.returned (.tuple #[.agg #[sv,rv],ev])/\(∃a n c,sv=.slice a n c)/\IfV rv/\Fr w w' N_/\jk E w' w.heap.size ev (zu s)/\((zu s).1=0->Cc w.heap.size w' s sv rv)
def ec(w:Aw)(s:BA)(E:cB)(e:Ak)(w':Aw):Prop:=
 ∃sv rv ev,e=.returned (.tuple #[.agg #[sv,rv],ev])/\(∃a n c,sv=.slice a n c)/\IfV rv/\Fr w w' N_/\jk E w' w.heap.size ev (zu s)/\((zu s).1=0->wi w.heap.size w' s sv rv)
def wH{w W W':Aw}{s:BA}{E:cB}{f:Ax}(hf:Fr w W N_)(i:Fr W W' (λg=>g=w.heap.size))(h0:(zu s).1≠0)(h:jk E W' w.heap.size f (zu s)):ec w s E (.returned (.tuple #[.agg #[L_,.nilIface],f])) W':=
 ⟨_,_,f,rfl,⟨_,_,_,rfl⟩,.inl rfl,hf.trans i (λx hx e=>M_),h,λe=>absurd e h0⟩
structure RSt(w w1:Aw)(s:BA)(ds:Ar)(t:PT)(sv rv:Ax)(xs:Ay)(q:Nat)(W:Aw):Prop where
 z:w1.heap.size+2<=W.heap.size
 z0:w.heap.size+2<=w1.heap.size
 al:Fr w W N_
 q3:q<=3
 d:yR W (λg=>w.heap.size+2<=g/\g<w1.heap.size) s ds sv xs/\TyV W (λg=>w.heap.size+2<=g/\g<w1.heap.size) t rv
 n:1<=q->xL ds t=[]
 u:2<=q->vz ds t=[]
 e:3<=q->qm s ds=[]
 R:Blk W w.heap.size [L_,.nilIface] 48
 B:Blk W w1.heap.size [sv,rv] 48
 L:∃ty,Blk W (w1.heap.size+1) [.func (.func 41) #[] #[],.func (.func 42) #[] #[],.func (.func 43) #[] #[]] ty
 f:3<=q->Dfs (w.heap.size+2) (λg=>w.heap.size+2<=g/\g<w1.heap.size) W s ds xs
section
variable {w w1 W W':Aw} {s:BA} {ds:Ar} {t:PT} {sv rv:Ax} {xs:Ay} {q:Nat}
def RSt.chk(M:RSt w w1 s ds t sv rv xs q W)(hf:Fr W W' N_):RSt w w1 s ds t sv rv xs q W':=
 ⟨ak_ M.z hf.size,M.z0,M.al.trans hf v_,M.q3,⟨M.d.1.fr hf u_,M.d.2.fr hf u_⟩,M.n,M.u,M.e,hf.bl M.R id,hf.bl M.B id,M.L.imp (λ_ h=>hf.bl h id),λh=>(M.f h).fr M.d.1 hf u_ u_⟩
def RSt.next0(M:RSt w w1 s ds t sv rv xs 0 W)(h:xL ds t=[]):RSt w w1 s ds t sv rv xs 1 W:=
 ⟨M.z,M.z0,M.al,M_,M.d,λ_=>h,λh=>M_,λh=>M_,M.R,M.B,M.L,λh=>M_⟩
def RSt.next1(M:RSt w w1 s ds t sv rv xs 1 W)(h:vz ds t=[]):RSt w w1 s ds t sv rv xs 2 W:=
 ⟨M.z,M.z0,M.al,M_,M.d,λ_=>M.n M_,λ_=>h,λh=>M_,M.R,M.B,M.L,λh=>M_⟩
def RSt.dft(M:RSt w w1 s ds t sv rv xs 2 W)(hf:Fr W W' (λg=>w.heap.size+2<=g/\g<w1.heap.size)):Fr w W' N_/\Blk W' w.heap.size [L_,.nilIface] 48:=
 ⟨M.al.trans hf (λx hx e=>M_),hf.bl M.R (λe=>M_)⟩
def RSt.next2(M:RSt w w1 s ds t sv rv xs 2 W)(hf:Fr W W' (λg=>w.heap.size+2<=g/\g<w1.heap.size))(h:qm s ds=[])(f:yR W' (λg=>w.heap.size+2<=g/\g<w1.heap.size) s ds sv xs)(i:∀t x,TyV W (λg=>w.heap.size+2<=g/\g<w1.heap.size) t x->TyV W' (λg=>w.heap.size+2<=g/\g<w1.heap.size) t x)(hX:Dfs (w.heap.size+2) (λg=>w.heap.size+2<=g/\g<w1.heap.size) W' s ds xs):RSt w w1 s ds t sv rv xs 3 W':=
 ⟨ak_ M.z hf.size,M.z0,(M.dft hf).1,M_,⟨f,i _ _ M.d.2⟩,λ_=>M.n M_,λ_=>M.u M_,λ_=>h,(M.dft hf).2,hf.bl M.B (λe=>M_),M.L.imp (λ_ h=>hf.bl h (λe=>M_)),λ_=>hX⟩
end
def cwXG1_{p:Prop}(h:p:=by
 (first|(have:=cc1;replace hans:=zy (show zu s=(4,(x:Int)) by rw[hans.o,hnm];simp only[hF]))|(have:=cc2;replace hans:=zy (show zu s=(5,(x:Int)) by rw[hans.o,hnm,hun];simp only[hF]))|(replace hans:=zy (show zu s=(3,(x:Int)) by rw[hans.o];simp only[hF])));replace hF:=zy hF;replace M:=zy M;clear hM;go_wp2_with ((first|go_at_call 41|go_at_call 42|go_at_call 43);apply hC.o.mono;rintro e w3 ⟨v,rfl,hf3,hm⟩;rw[hF.o]at hm;(first|(have:=cc2;obtain⟨ev,⟨g,hg1,rfl,hg2⟩,hEv⟩:=hm)|(obtain⟨g,hg1,rfl,hg2⟩:=hm));(first|(have:=cc2;have M3:=M.o.dft hf3)|(have M3:=M.o.chk hf3));(first|(have:=cc2;have R3:=M3.2)|(have R3:=M3.R));have r0:=R3.c0;have r1:=R3.c1;have g0:=R3.th 0;have g1:=R3.th 1;replace R3:=zy R3;(first|(have:=cc2;replace M3:=zy M3.1)|(replace M3:=zy M3.al));replace hf3:=zy hf3;replace hg2:=zy hg2;(try have:=cc2;replace hEv:=zy hEv));have S2:=V_ R3.o (L_) .nilIface;have q0:=S2.c0;have q1:=S2.c1;refine bodyPost_ret (v:=.tuple #[.agg #[L_,.nilIface],.iface 184 (P_ g)]) xf_ rfl ?_;rw[Q_.o];have h4:=Fr.pa w3 w.heap.size (L_) .nilIface;refine wH M3.o h4 z2_ ?_;rw[hans.o];(first|(have:=cc1;exact .inr (.inr (.inr (.inr (.inl ⟨rfl,g,M_,rfl,h4.bl hg2.o (λe=>M_)⟩)))))|(have:=cc2;exact .inr (.inr (.inr (.inr (.inr ⟨rfl,ev,⟨g,M_,rfl,h4.bl hg2.o (λe=>M_)⟩,(hEv.o.fr h4 (λg hg e=>M_)).ls M_⟩)))))|(exact .inr (.inr (.inr (.inl ⟨rfl,g,M_,rfl,h4.bl hg2.o (λe=>M_)⟩)))))):p:=h
def cwXG2_{p:Prop}(h:p:=by
 (first|(have:=cc1;have S2:=(V_ R3.o (L_) .nilIface).alloc (.cells #[.slice sa sn sc,.nilIface] 48))|(have S2:=(V_ R3.o (L_) .nilIface).alloc (.cells #[.slice sa sn sc,.iface rT rx] 48)));have q0:=S2.c0;have q1:=S2.c1;refine bodyPost_ret (v:=.tuple #[.agg #[L_,.nilIface],.iface 184 (P_ g)]) xf_ rfl ?_;rw[Q_.o];(first|(have:=cc1;have h4:=(Fr.pa w1 w.heap.size (L_) .nilIface).alloc (.cells #[.slice sa sn sc,.nilIface] 48))|(have h4:=(Fr.pa w1 w.heap.size (L_) .nilIface).alloc (.cells #[.slice sa sn sc,.iface rT rx] 48)));refine wH (hf1.o.trans hf2.o (λx hx e=>M_)) h4 z2_ ?_;rw[hans.o];exact .inr (.inr (.inl ⟨rfl,g,by simp at hg1;omega,rfl,h4.bl hg2.o (λe=>by simp at hg1;omega)⟩))):p:=h
def XG{w:Aw}{s:BA}{E:cB}(p:E.At w)(U:yM w)(Z:yH w)(X:mg w):Calls prog 23 #[.string s] w (ec w s E):=by
 refine hq_ λa5 Q_=>?_;have D:Fr w (w.alloc (.cells #[L_,.nilIface] 48)) N_:=(A_ w _).alloc _;have i:=B_ w #[L_,.nilIface] 48;have a3:(w.alloc (.cells #[L_,.nilIface] 48)).heap.size=w.heap.size+1:=x7_
 by_cases hl:300<s.size
 .have a2:(300:Int)<(s.size:Int):=M_;have j:=p.l.fr D id;unfold vN at j;replace i:=zy i;go_in;go_wp2;go_region;go_wp2;have q0:=i.o.drew.c0;have q1:=i.o.drew.c1;refine bodyPost_ret (v:=.tuple #[.agg #[L_,.nilIface],.iface E.lt E.lx]) xf_ rfl ?_;rw[Q_.o];exact⟨_,_,_,rfl,⟨_,_,_,rfl⟩,.inl rfl,D.drew,.inr (.inl ⟨by unfold zu;rw[i_ hl],by unfold zu;rw[i_ hl],rfl⟩),λe=>by unfold zu at e;rw[i_ hl]at e;simp at e⟩
 .have a2:¬(300:Int)<(s.size:Int):=M_;have hs:s.size<=300:=M_;have hf1:=D.alloc (.cells #[.string s,O_] 114);have A:PAt ((w.alloc (.cells #[L_,.nilIface] 48)).alloc (.cells #[.string s,O_] 114)) (w.heap.size+1) s 0:=by
   have:=B_ (w.alloc (.cells #[L_,.nilIface] 48)) #[.string s,O_] 114;rwa[a3]at this
  have a0:=World.block_lt_of_cell? w ⟨0,0,none⟩ p.g;have H:=zy (ak A (p.g.fr hf1 id) (by show w.heap.size+1≠_;simp only at a0;omega) hs);replace A:=zy A;replace i:=zy (i.alloc (.cells #[.string s,O_] 114));replace hf1:=zy hf1;cases hp:ze s with
  |error k=>
   have hans:=zy (show zu s=(2,(k:Int)) by unfold zu;rw[n_ hl,hp]);replace hp:=zy hp;go_in;go_wp2_with (go_at_call 40;apply H.o.mono;rintro e w1 ⟨sv,rv,ev,rfl,⟨sa,sn,sc,rfl⟩,J,hf2,hm⟩;rw[hp.o]at hm;obtain⟨g,hg1,rfl,hg2⟩:=hm;have F:=hf2.size;have S:w.heap.size+2<=w1.heap.size:=(by simp at F;omega);have a4:w.heap.size<w1.heap.size:=M_;rcases J with rfl|⟨rT,rx,rfl⟩;have R3:=hf2.bl i M_;have r0:=R3.c0;have r1:=R3.c1;have g0:=R3.th 0;have g1:=R3.th 1;replace R3:=zy R3;replace hf2:=zy hf2;replace hg2:=zy hg2;rotate_left;have R3:=hf2.bl i M_;have r0:=R3.c0;have r1:=R3.c1;have g0:=R3.th 0;have g1:=R3.th 1;revert hf2 hg2 R3;refine h_ λhf2 hg2 R3=>?_)
   .exact cwXG2_
   .have cc1:=Nat;exact cwXG2_
  |ok r=>
   obtain⟨ds,t⟩:=r;have hans:=zy (qK hs hp);have a1:=zy (mZ hs hp);have j:=zy (xA hs hp);replace hp:=zy hp;go_in;go_wp2_with (go_at_call 40;apply H.o.mono;rintro e w1 ⟨sv,rv,ev,rfl,_,J,hf2,hm⟩;rw[hp.o]at hm;obtain⟨rfl,xs,o1,o2,T,N⟩:=hm;have F:=hf2.size;have S:w.heap.size+2<=w1.heap.size:=(by simp at F;omega);have a4:w.heap.size<w1.heap.size:=M_;have I:=zy (And.intro (yR.mono (Q:=λg=>w.heap.size+2<=g/\g<w1.heap.size) (⟨o1,o2,T,j.o.2.2.2.2.2⟩:yR w1 _ s ds sv xs) (λg h1 y=>⟨by simp at y;omega,h1⟩)) (N.mono (Q:=λg=>w.heap.size+2<=g/\g<w1.heap.size) (λg h1 y=>⟨by simp at y;omega,h1⟩)));obtain⟨sa,sc,rfl⟩:=zw o1;obtain⟨rT,rx,rfl⟩:=N.iface;have O:=zy (hf2.bl i M_);replace hf2:=zy hf2);have start:H_ (∃q:Nat,Value.int .i64 0=I_ q/\4-q<=4/\RSt w w1 s ds t (.slice sa ds.length sc) (.iface rT rx) xs q ((w1.alloc (.cells #[.slice sa ds.length sc,.iface rT rx] 48)).alloc (.cells #[.func (.func 41) #[] #[],.func (.func 42) #[] #[],.func (.func 43) #[] #[]] 116))):=by
    have K:Fr w1 ((w1.alloc (.cells #[.slice sa ds.length sc,.iface rT rx] 48)).alloc (.cells #[.func (.func 41) #[] #[],.func (.func 42) #[] #[],.func (.func 43) #[] #[]] 116)) N_:=((A_ w1 _).alloc _).alloc _;refine zy ⟨0,rfl,M_,⟨by simp,S,((hf1.o.trans hf2 (λx hx e=>M_)).alloc _).alloc _,M_,⟨I.o.1.fr K u_,I.o.2.fr K u_⟩,λh=>M_,λh=>M_,λh=>M_,K.bl O id,(B_ w1 #[.slice sa ds.length sc,.iface rT rx] 48).alloc _,⟨116,?_⟩,λh=>M_⟩⟩;have:=B_ (w1.alloc (.cells #[.slice sa ds.length sc,.iface rT rx] 48)) #[.func (.func 41) #[] #[],.func (.func 42) #[] #[],.func (.func 43) #[] #[]] 116;simpa using this
   go_loopg [27] 4 (λm v W=>∃q:Nat,v=I_ q/\4-q<=m/\RSt w w1 s ds t (.slice sa ds.length sc) (.iface rT rx) xs q W);case atStart=>exact start
   case round=>
    obtain⟨q,rfl,hm,M⟩:=hrel;have hz:=M.z;have i:w1.heap.size<wr.heap.size:=M_;have i:w.heap.size<wr.heap.size:=M_;obtain⟨lt,i⟩:=M.L;have b0:=M.B.c0;have b1:=M.B.c1;obtain⟨G,l1,l2⟩:=i.d3;have i:q=0\/q=1\/q=2\/q=3:=by have:=M.q3;omega
    rcases i with rfl|rfl|rfl|rfl
    .have hM:=M.d;have hC:=zy (ce hM.1 hM.2 (p.m.fr M.al id) j.o.1 j.o.2.1 (λg hg=>M_));have G:=G;cases hF:xL ds t with
     |nil=>
      replace hF:=zy hF;replace M:=zy M;go_wp2_with (go_at_call 41;apply hC.o.mono;rintro e w3 ⟨v,rfl,hf3,hm⟩;rw[hF.o]at hm;obtain rfl:=hm;have M3:=zy ((M.o.chk hf3).next0 hF));go_roundg 3;case measure=>omega
      case rel=>exact⟨1,rfl,l_,M3⟩
     |cons x r=>
      exact cwXG1_
    .have hM:=M.d;have hnm:=M.n M_;have hC:=zy (uY hM.1 hM.2 (p.u.fr M.al id) j.o.2.2.2.1 j.o.2.2.2.2.1 ⟨j.o.2.1,j.o.2.2.1⟩ (λg hg=>M_));have G:=l1;cases hF:vz ds t with
     |nil=>
      replace hF:=zy hF;replace M:=zy M;go_wp2_with (go_at_call 42;apply hC.o.mono;rintro e w3 ⟨v,rfl,hf3,hm⟩;rw[hF.o]at hm;obtain rfl:=hm;have M3:=zy ((M.o.chk hf3).next1 hF));go_roundg 2;case measure=>omega
      case rel=>exact⟨2,rfl,l_,M3⟩
     |cons x r=>
      have cc1:=Nat;exact cwXG1_
    .have hM:=M.d;have hnm:=M.n M_;have hun:=M.u M_;obtain⟨D,F⟩:=a1.o hnm hun;obtain⟨i,C⟩:=Xv hM.1 hp;have A:=zy (i.cells hM.1);have V:=zy (λw3 (hk:gM wr w3)=>(show pJ (sf (blkOf wr (λg=>w.heap.size+2<=g/\g<w1.heap.size) s ds xs)) w3 ds xs from A.o.to hM.1 (λfv n zs _ ho=>hk _ _ _ _ _ _ D_ ho)));have hC:=zy (ci (w0:=w) (rT:=rT) (rx:=rx) hM.1 ((yu.refl w).fr M.al l_ (λ_ f=>f.elim)) M.al.size (λg hg=>M_) (λg hg=>M_) p.n hs j.o.2.2.2.1 F D U Z X i C);replace C:=zy C;have G:=l2;cases hF:qm s ds with
     |nil=>
      replace hF:=zy hF;replace M:=zy M;go_wp2_with (go_at_call 43;apply hC.o.mono;rintro e w3 ⟨v,rfl,hf3,hm⟩;rw[hF.o]at hm;obtain⟨rfl,i,A,j,p⟩:=hm;have M3:=zy (M.o.next2 hf3 hF i A (Dfs.mono (lo:=wr.heap.size) ⟨_,V.o w3 p,C,j⟩ M_ (λ_ h=>h))));go_roundg 1;case measure=>omega
      case rel=>exact⟨3,rfl,l_,M3⟩
     |cons x r=>
      have cc2:=Nat;exact cwXG1_
    .have r0:=M.R.c0;have r1:=M.R.c1;have g0:=M.R.th 0;have g1:=M.R.th 1;have S2:=zy (V_ M.R (.slice sa ds.length sc) (.iface rT rx));replace M:=zy M;go_wp2;have q0:=S2.o.c0;have q1:=S2.o.c1;refine bodyPost_ret (v:=.tuple #[.agg #[.slice sa ds.length sc,.iface rT rx],.nilIface]) xf_ rfl ?_;rw[Q_.o];have h4:=Fr.pa wr w.heap.size (.slice sa ds.length sc) (.iface rT rx);refine⟨_,_,_,rfl,⟨_,_,_,rfl⟩,.inr ⟨_,_,rfl⟩,M.o.al.trans h4 (λx hx e=>M_),.inl ?_,λ_=>?_⟩
     .rw[hans.o,M.o.n M_,M.o.u M_,M.o.e M_];exact⟨rfl,rfl,rfl⟩
     .have up:∀g,w.heap.size+2<=g/\g<w1.heap.size->¬g=w.heap.size:=λg h=>by omega
      have i:=h4.size;have i:=M.o.z;exact⟨ds,t,xs,hs,hp,M.o.n M_,M.o.u M_,(M.o.d.1.fr h4 up).mono (λg h1 y=>⟨M_,h1⟩),(M.o.d.2.fr h4 up).mono (λg h1 y=>⟨M_,h1⟩),((M.o.f M_).fr M.o.d.1 h4 up (λg hg e=>M_)).mono M_ (λg hg=>⟨M_,M_⟩)⟩
def VC{w:Aw}{s:BA}{E:cB}(f:E.At w)(g:yM w)(j:yH w)(i:mg w):Calls prog 23 #[.string s] w (Qt w s E):=by
 apply(XG f g j i).mono;rintro e w' ⟨sv,rv,f,h1,g,i,j,k,p⟩;refine⟨sv,rv,f,h1,g,i,j,k,λh=>?_⟩;obtain⟨ds,t,xs,f,g,i,j,k,l,_⟩:=p h;exact⟨ds,t,xs,f,g,i,j,k,l⟩
def kdD:DT->Nat
 | .mk k _ _ _ _=>k
section
variable {env:Au} {w:Aw} {P:Az} {d:DT} {t:PT} {v:Ax}
def DaV.leaf(h:DaV env w P d t v)(h1:kdD d≠40)(e:kdD d≠91)(f:kdD d≠114)(g:kdD d≠123):qx d v:=by
 cases h with
 |flat h hs=>exact h
 |branch n h hd=>exact absurd rfl h1
 |row Y hc ho hP hd=>
  rcases hc with⟨rfl,_⟩|⟨rfl,_⟩
  .exact absurd rfl e
  .exact absurd rfl f
 |map Y hl hk ho hP hd=>exact absurd rfl g
def qx.nosym(h:qx d v)(hk:kdD d≠101)(n l:Nat):v≠.iface 154 (.agg #[U_ l,I_ n]):=by
 intro e;cases h with
 |sym n' l' h=>exact hk rfl
 |nothing=>simp only[Value.iface.injEq]at e;exact absurd e.1 D_
 |truth b=>simp only[Value.iface.injEq]at e;exact absurd e.1 D_
 |num c n hc h0 h1=>simp only[Value.iface.injEq]at e;exact absurd e.1 D_
 |text tx h=>simp only[Value.iface.injEq]at e;exact absurd e.1 D_
 |bytes tx h=>simp only[Value.iface.injEq]at e;exact absurd e.1 D_
def qx.long(h:qx d v){n:Int}(hd:d=.mk 105 n noB [] []):qx (.mk 108 n noB [] []) v:=by
 cases h with
 |num c n' hc h0 h1=>
  simp only[DT.mk.injEq,and_true]at hd;obtain⟨_,rfl⟩:=hd;exact .num 108 _ (.inr rfl) h0 h1
 |sym n' l' h=>simp[DT.mk.injEq]at hd
 |nothing=>simp[DT.mk.injEq]at hd
 |truth b=>simp[DT.mk.injEq]at hd
 |text tx h=>simp[DT.mk.injEq]at hd
 |bytes tx h=>simp[DT.mk.injEq]at hd
def DaV.sym_inv(h:DaV env w P d t v)(hd:d=.mk 101 (n:Int) noB [] []):∃l:Nat,v=.iface 154 (.agg #[U_ l,I_ n])/\fU env t n=l/\l<256:=by
 have hf:qx d v:=h.leaf ze_ ze_ ze_ ze_;obtain⟨l,rfl⟩:∃l:Nat,v=.iface 154 (.agg #[U_ l,I_ n]):=by
  cases hf with
  |sym n' l' h=>
   simp only[DT.mk.injEq,true_and,and_true]at hd;obtain rfl:n'=n:=M_;exact⟨l',rfl⟩
  |num c n' hc h0 h1=>
   simp only[DT.mk.injEq]at hd;omega
  |nothing=>simp[DT.mk.injEq]at hd
  |truth b=>simp[DT.mk.injEq]at hd
  |text tx h=>simp[DT.mk.injEq]at hd
  |bytes tx h=>simp[DT.mk.injEq]at hd
 generalize hv:Value.iface 154 (.agg #[U_ l,I_ n])=vv at h;cases h with
 |flat h hs=>exact⟨l,hv.symm,hs n l hv.symm⟩
 |branch n' h hd'=>simp only[Value.iface.injEq]at hv;exact absurd hv.1 D_
 |row Y hc ho hP hd'=>
  simp only[Value.iface.injEq]at hv;rcases hc with⟨_,h⟩|⟨_,h⟩<;>exact absurd (hv.1.trans h) D_
 |map Y hl hk ho hP hd'=>simp only[Value.iface.injEq]at hv;exact absurd hv.1 D_
def DaV.branch_inv(h:DaV env w P d t v){d1:DT}(hd:d=.mk 40 (n:Int) noB [] [d1]):n<=4000/\∃e,v=.iface 150 (.agg #[I_ n,e])/\DaV env w P d1 (yg env t n 0) e:=by
 cases h with
 |flat h hs=>
  cases h with
  |num c n' hc h0 h1=>simp only[DT.mk.injEq]at hd;omega
  |sym n' l' h=>simp[DT.mk.injEq]at hd
  |nothing=>simp[DT.mk.injEq]at hd
  |truth b=>simp[DT.mk.injEq]at hd
  |text tx h=>simp[DT.mk.injEq]at hd
  |bytes tx h=>simp[DT.mk.injEq]at hd
 |branch n' h hd'=>
  simp only[DT.mk.injEq,true_and,and_true,List.cons.injEq]at hd;obtain⟨h1,rfl⟩:=hd;obtain rfl:n'=n:=M_;exact⟨h,_,rfl,hd'⟩
 |row Y hc ho hP hd'=>
  simp only[DT.mk.injEq]at hd;rcases hc with⟨h,_⟩|⟨h,_⟩<;>omega
 |map Y hl hk ho hP hd'=>simp[DT.mk.injEq]at hd
def DaV.row_inv(h:DaV env w P d t v){c:Nat}{ds:Ae}(hd:d=.mk c 0 noB [] ds)(hc:c=91\/c=114):∃(lv:Value) (Y:Nat->Value),v=.iface (if c=91 then 144 else 152) lv/\w.ownsRow 0 52 1 lv ds.length ((List.range ds.length).flatMap λi=>[Y i])/\∀i d,ds[i]?=some d->DaV env w P d (yg env t 0 i) (Y i):=by
 cases h with
 |flat h hs=>
  cases h with
  |num c n' hc h0 h1=>simp only[DT.mk.injEq]at hd;omega
  |sym n' l' h=>simp only[DT.mk.injEq]at hd;omega
  |nothing=>simp only[DT.mk.injEq]at hd;omega
  |truth b=>simp only[DT.mk.injEq]at hd;omega
  |text tx h=>simp only[DT.mk.injEq]at hd;omega
  |bytes tx h=>simp only[DT.mk.injEq]at hd;omega
 |branch n' h hd'=>simp only[DT.mk.injEq]at hd;omega
 |row Y hc' ho hP hd'=>
  simp only[DT.mk.injEq,true_and]at hd;obtain⟨rfl,rfl⟩:=hd;refine⟨_,Y,?_,ho,hd'⟩;rcases hc' with⟨rfl,rfl⟩|⟨rfl,rfl⟩
  .rw[i_ rfl]
  .rw[n_ D_]
 |map Y hl hk ho hP hd'=>simp only[DT.mk.injEq]at hd;omega
def DaV.map_inv(h:DaV env w P d t v){ds:Ae}(hd:d=.mk 123 0 noB ks ds):∃(lv:Value) (Y:Nat->Value),v=.iface 147 lv/\ks.length=ds.length/\(∀k∈ks,k.size<=4000)/\w.ownsRow 0 201 2 lv ds.length ((List.range ds.length).flatMap λi=>[.string (ks.getD i noB),Y i])/\∀i d,ds[i]?=some d->DaV env w P d (yg env t 0 i) (Y i):=by
 cases h with
 |flat h hs=>
  cases h with
  |num c n' hc h0 h1=>simp only[DT.mk.injEq]at hd;omega
  |sym n' l' h=>simp only[DT.mk.injEq]at hd;omega
  |nothing=>simp only[DT.mk.injEq]at hd;omega
  |truth b=>simp only[DT.mk.injEq]at hd;omega
  |text tx h=>simp only[DT.mk.injEq]at hd;omega
  |bytes tx h=>simp only[DT.mk.injEq]at hd;omega
 |branch n' h hd'=>simp only[DT.mk.injEq]at hd;omega
 |row Y hc' ho hP hd'=>
  simp only[DT.mk.injEq]at hd;rcases hc' with⟨h,_⟩|⟨h,_⟩<;>omega
 |map Y hl hk ho hP hd'=>
  simp only[DT.mk.injEq,true_and]at hd;obtain⟨rfl,rfl⟩:=hd;exact⟨_,Y,rfl,hl,hk,ho,hd'⟩
end
def U8(w:Aw)(B g:Nat):Prop:=B<=g/\∃c fz,w.heap[g]?=some (.cells c 5 fz)
def FrU(B:Nat)(w w':Aw):Prop:=Fr w w' (U8 w B)
section
variable {a b c w w':Aw} {B:Nat} {v:Ax} {x:BA}
def FrU.refl(w:Aw):FrU B w w:=A_ _ _
def FrU.trans(h:FrU B a b)(k:FrU B b c):FrU B a c:=Fr.trans h k (λx hx ⟨h1,c,fz,h2⟩=>by
 by_cases e:U8 a B x
 .exact e
 .exact⟨h1,c,fz,by rw[<- h.block x hx e];exact h2⟩)
def FrU.all(h:FrU B w w'):Fr w w' (λg=>B<=g):=Fr.mono h (λ_ _ e=>e.1)
def FrU.of(h:Fr w w' N_):FrU B w w':=Fr.mono h v_
def FrU.size(h:FrU B w w'):w.heap.size<=w'.heap.size:=Fr.size h
def FrU.drew(h:FrU B w w'):FrU B w w'.drew:=Fr.drew h
def zG.u8(h:zG w B v x){g:Nat}(e:v.ownBlock=some g):U8 w B g:=by
 refine⟨(h.own e).1,?_⟩;rcases h.2 with⟨hn,_⟩|⟨g',f,f,hv,hb,hg,_⟩
 .rw[hn]at e;simp[Value.ownBlock]at e
 .rw[hv]at e;simp[Value.ownBlock]at e;subst e;exact⟨_,_,hg⟩
def zG.frx{S:Az}(h:zG w B v x)(hf:Fr w w' S)(e:∀g,v.ownBlock=some g->¬S g):zG w' B v x:=zj h hf e
def zG.si(h:zG w B v x)(hs:zq w w'):zG w' B v x:=h.frx ((A_ w N_).si hs) u_
def FrU.bl(h:FrU B w w'){k:Nat}{cs:Ay}{t:Av}(hb:Blk w k cs t)(f:t≠5):Blk w' k cs t:=Fr.bl h hb (λ⟨_,c,fz,e⟩=>by
 unfold Blk at hb
 rw[hb]at e
 simp at e
 exact f e.2.1)
end
def yX(w:Aw)(B lo hi:Nat)(e:Ak)(w':Aw):Prop:=∃v' b',e=.returned v'/\zG w' B v' b'/\lo<=b'.size/\b'.size<=hi/\FrU B w w'
def yX.pre{w0 w w':Aw}{B lo hi:Nat}{e:Ak}(h:yX w B lo hi e w')(hf:FrU B w0 w):yX w0 B lo hi e w':=by
 obtain⟨v,b,h1,f,g,i,j⟩:=h;exact⟨v,b,h1,f,g,i,hf.trans j⟩
def yX.wide{w w':Aw}{B lo hi f:Nat}{e:Ak}(h:yX w B lo hi e w')(k:hi<=f):yX w B lo f e w':=by
 obtain⟨v,b,h1,f,g,i,j⟩:=h;exact⟨v,b,h1,f,g,ak_ i k,j⟩
def sz1(b:BA)(c:Nat):(b++bts [c]).size=b.size+1:=by rw[aq_,yP];rfl
def Ff(l:Ao)(b:BA)(h:l.length=1):0<(bts l++b).size:=by
 rw[aq_,yP,h];omega
def WB(n:Int):0<(qi n).size:=by
 by_cases hn:n<0
 .obtain⟨u,hu,rfl⟩:∃u:Nat,1<=u/\n = -(u:Int):=⟨n.natAbs,M_,M_⟩;rw[WU hu];exact Ff _ _ rfl
 .obtain⟨u,rfl⟩:∃u:Nat,n=(u:Int):=⟨n.natAbs,M_⟩;by_cases h:u<10
  .rw[YI h,yP];simp
  .rw[WL h,aq_,yP];simp
def qj{f:Dz}{i:List Oper}{a:Act}(l:o.guard=none)(s x:Operand)(ho:o.op=.call { callee:=.builtin .append,args:=#[s,x],argTypes:=#[94,94] }){B g:Nat}{w:Aw}{v:Ax}{b:BA}{y:Int}(c:Nat)(hy:y=(c:Int))(hc:c<256)(hb:zG w B v b)(j:b.size<=100000000)(hB:B<=w.heap.size)(hg:g=w.heap.size)(hs:a.eval s=v)(hx:a.eval x=S_ g 1 1)(h:∀j w',zG w' B j (b++bts [c])->FrU B w w'->wpList prog f Q i (a.put o.dst j) w'):wpList prog f Q (o::i) a (w.alloc (.cells #[.int .u8 y] 5)):=by
 subst hy;obtain⟨ti,f,i,j,p⟩:=info_parts oQ;refine wpList_append_own_at _ l _ _ 94 ho B 5 ti _ 1 1 wU f i j p rfl D_ _ b.size (Lib.strCells b) hs (World.ownsRow.alloc hb _) ⟨g,0,none⟩ 1 1 [U_ c] hx rfl (zK _ #[U_ c] _ _ hg) zi_ xt_ M_ x1_ ?_;intro l f j i _ _;refine h l f ?_ ?_
 .unfold zG;rw[ya,jh hc,aq_,yP];exact j
 .exact Fr.mono (((A_ w _).alloc _).gw i (λk hk _=>hk):Fr w f (λg=>v.ownBlock=some g)) (λg _ e=>hb.u8 e)
def cq32_{p:Prop}(h:p:=by
 obtain⟨ti,j,l,r,y⟩:=info_parts oQ;(first|(have:=cc1;obtain⟨A,f,hr,z,i,_⟩:=Lib.run_append_own_string (P:=prog) w B 94 9 o.type 5 ti wU wM j l r y _ b.size (Lib.strCells b) hb t (by unfold maxLen;omega) M_ hB)|(refine Lib.wpList_append_own_string _ hgd _ _ 94 9 ho B 5 ti wU wM j l r y _ b.size (Lib.strCells b) hs hb t hx (by unfold maxLen;omega) M_ hB ?_));(first|(have:=cc1;unfold Oper.wp execOp;simp only[ho,resolve,invoke,builtin,Sem.run_bind,Sem.run_pure,Result.andThen_ok,List.map_toArray,aw_,be_,hs,hx,hr])|(intro A f z i _));refine h A f ?_ ?_
 .unfold zG;rw[ya,aq_];exact z
 .exact Fr.mono ((A_ w _).gw i (λk hk _=>hk):Fr w f (λg=>v.ownBlock=some g)) (λg _ e=>hb.u8 e)):p:=h
def GH{ops:Dz}{rest:List Oper}{a:Act}(hgd:o.guard=none)(s x:Operand)(ho:o.op=.call { callee:=.builtin .append,args:=#[s,x],argTypes:=#[94,9] }){B:Nat}{w:Aw}{v:Ax}{b t:BA}(hb:zG w B v b)(hsz:b.size<=100000000)(ht:t.size<=4000)(hB:B<=w.heap.size)(hs:a.eval s=v)(hx:a.eval x=.string t)(h:∀v' w',zG w' B v' (b++t)->FrU B w w'->wpList prog ops Q rest (a.put o.dst v') w'):wpList prog ops Q (o::rest) a w:=by
 exact cq32_
def jZ(w0:Aw):Prop:=∀(W:World) (B:Nat),w0.heap.size<=B->B<=W.heap.size->yu w0 W->∀(u:Value) (b:BA) (n:Int),-9223372036854775808<=n->n<=9223372036854775807->zG W B u b->b.size<=100000000->
 Calls prog 57 #[u,Z_ n,Z_ 10] W (yX W B (b.size+1) (b.size+21))
def Qb{w0:Aw}(h:Lib.TabIs prog w0 "internal/strconv.uint64pow10" .u64 Lib.pow10Tab):jZ w0:=by
 intro W B h0 hB l u b n i j hb hs
 have p:Lib.TabBelow prog B W "internal/strconv.uint64pow10" .u64 Lib.pow10Tab:=λW' r=>(show yu w0 W' from λg hg=>(r.block g M_).trans (l g hg)).var h
 apply(Tryz.strconv_AppendInt_10 B b.size n i j u (Lib.strCells b) W hb hB M_ p).mono;rintro e w' ⟨y,rfl,ho,f,hk⟩;refine⟨y,b++qi n,rfl,?_,by rw[aq_];have:=WB n;omega,by rw[aq_];have:=JS i j;omega,f.os,f.tape,f.output,f.size,λk l j=>?_⟩
 .unfold zG;rw[ya,aq_];have i:(qi n).size=(Lib.itoa n).length:=by unfold qi;show(Lib.itoa n).toArray.size=_;rw[List.size_toArray]
  rw[i];exact ho
 .by_cases i:k<B
  .exact f.block k i
  .have f:W.heap[k]?=some W.heap[k]:=Array.getElem?_eq_getElem l;rw[f];refine hk k _ f x7_ (λc i e=>j ⟨M_,c,i,by rw[f,e]⟩)
section
variable {w:Aw} {B:Nat} {u:Ax} {b:BA}
def Ul{t:Aq}(hb:zG w B u b)(hB:B<=w.heap.size)(hs:b.size<=100000000):Calls prog 56 #[u,.bool t] w (yX w B (b.size+1) (b.size+1)):=by
 refine hq_ λj h=>?_;replace hb:=zy hb;cases t
 .go_in;go_wp2_with (at_builtin;refine qj rfl _ _ rfl 70 rfl D_ hb hs hB rfl rfl rfl ?_;intro g i e f);try go_ret
  rw[h.o];exact⟨g,_,rfl,e,Nat.le_of_eq (sz1 _ _).symm,Nat.le_of_eq (sz1 _ _),f⟩
 .go_in;go_wp2_with (at_builtin;refine qj rfl _ _ rfl 84 rfl D_ hb hs hB rfl rfl rfl ?_;intro g i e f);try go_ret
  rw[h.o];exact⟨g,_,rfl,e,Nat.le_of_eq (sz1 _ _).symm,Nat.le_of_eq (sz1 _ _),f⟩
def XC{c:Nat}{y:Int}(hy:y=(c:Int))(hc:c<256)(h:tx.size<=4000)(hb:zG w B u b)(hB:B<=w.heap.size)(hs:b.size<=90000000):Calls prog 58 #[u,.int .u8 y,.string tx] w (yX w B (b.size+1) (b.size+4002)):=by
 subst hy;refine hq_ λe i=>?_;replace hb:=zy hb;have e:(b++bts [c]).size<=90000001:=by rw[aq_,yP];simp only[ap_];omega
 have e:(b++bts [c]++tx).size<=90004001:=yz_
 go_in;go_wp2_with (first
  |(at_builtin;refine qj rfl _ _ rfl c rfl hc hb M_ hB rfl rfl rfl ?_;intro e e e f;have l:=f.size;replace e:=zy e;replace f:=zy f)
  |(at_builtin;refine GH rfl _ _ rfl e M_ h M_ rfl rfl ?_;intro h h h g;have l:=g.size;replace h:=zy h;replace g:=zy g)
  |(at_builtin;refine qj rfl _ _ rfl c rfl hc h M_ M_ rfl rfl rfl ?_;intro e h j k))
 try go_ret
 rw[i.o];refine⟨e,_,rfl,j,?_,?_,(f.o.trans g).trans k⟩<;>rw[sz1,aq_,sz1]<;>omega
def KO(hb:zG w B u b)(hB:B<=w.heap.size)(hs:b.size<=100000000):Calls prog 94 #[u,I_ n] w (yX w B b.size (b.size+1)):=by
 refine hq_ λh e=>?_;replace hb:=zy hb;by_cases hn:n=0
 .subst hn;go_in;go_wp2;try go_ret
  rw[e.o];exact⟨u,b,rfl,hb,l_,M_,FrU.refl w⟩
 .have h:((n:Int)==0)=false:=x1_
  go_in;go_wp2_with (at_builtin;refine qj rfl _ _ rfl 44 rfl D_ hb hs hB rfl rfl rfl ?_;intro h i f g);try go_ret
  rw[e.o];exact⟨h,_,rfl,f,by rw[sz1];omega,Nat.le_of_eq (sz1 _ _),g⟩
end
def Zf(w0:Aw)(env:Au)(m:Nat):Prop:=∀(d:DT),ndT d<=m->∀(w:World) (P:Nat->Prop) (B:Nat) (t:PT) (v u:Value) (b:BA),DaV env w P d t v->(∀g,P g->g<B)->w0.heap.size<=B->B<=w.heap.size->yu w0 w->zG w B u b->b.size+8022*ndT d<=90000000->
 Calls prog 31 #[u,v] w (yX w B (b.size+1) (b.size+8022*ndT d-4011))
def CJ(d:DT):1<=ndT d:=by obtain⟨_,_,_,_,_⟩:=d;unfold ndT;omega
def yu.fru{w0 w w':Aw}{B:Nat}(h:yu w0 w)(hf:FrU B w w')(h0:w0.heap.size<=B)(hB:B<=w.heap.size):yu w0 w':=h.fr hf.all M_ (λg e=>M_)
section
variable {w0 w:Aw} {env:Au} {m:Nat} {P:Az} {B:Nat} {u:Ax} {b:BA} {t:PT}
def MT(O:Zf w0 env m){ds:Ae}{o c:Nat}{y z:Int}(hy:y=(o:Int))(hz:z=(c:Int))(r:o<256)(M:c<256)(hm:za ds<=m)(hP:∀g,P g->g<B)(h0:w0.heap.size<=B)(hB:B<=w.heap.size)(D:yu w0 w)(hu:zG w B u b)(hs:b.size+8022*(1+za ds)<=90000000)(ho:w.ownsRow 0 52 1 (.slice la ds.length lc) ds.length ((List.range ds.length).flatMap λi=>[Y i]))(hl:∀g,(Value.slice la ds.length lc).ownBlock=some g->P g)(hd:∀i d,ds[i]?=some d->DaV env w P d (yg env t 0 i) (Y i)):Calls prog 59 #[u,.int .u8 y,.slice la ds.length lc,.int .u8 z] w (yX w B (b.size+1) (b.size+8022*za ds+2)):=by
 subst hy;subst hz;refine hq_ λE I=>?_;have E:=xR ds;have start:H_ (∀(k:Value) (W:World),zG W B k (b++bts [o])->FrU B w W->∃q:Nat,Value.int .i64 0=I_ q/\q<=ds.length/\ds.length+1-q<=ds.length+1/\(∃f,zG W B k f/\b.size+1<=f.size/\f.size<=b.size+1+8022*za (ds.take q))/\FrU B w W):=zy λk W h1 l=>⟨0,rfl,al_ _,M_,⟨_,h1,by rw[sz1];omega,by rw[sz1];omega⟩,l⟩;replace ho:=zy ho;replace hd:=zy hd;replace hl:=zy hl;replace hP:=zy hP;replace hu:=zy hu;replace D:=zy D;go_in;go_wp2_with (at_builtin;refine qj rfl _ _ rfl o rfl r hu M_ hB rfl rfl rfl ?_;intro J R r E;have H:=zy (start.o J R r E));go_loopg [0,9,10,17] (ds.length+1) (λm r E E v W=>∃q:Nat,v=I_ q/\q<=ds.length/\ds.length+1-q<=m/\(∃f,zG W B r f/\b.size+1<=f.size/\f.size<=b.size+1+8022*za (ds.take q))/\FrU B w W);case atStart=>exact H
 case round=>
  obtain⟨q,rfl,r,r,⟨f,p,L,G⟩,j⟩:=hrel;have r:=j.size;by_cases F:q<ds.length
  .have N:(q:Int)<(ds.length:Int):=M_;have A:ds[q]?=some ds[q]:=ai_ F;generalize ds[q]=d at A;obtain⟨H,R⟩:=xJ A;have r:=CJ d;obtain⟨g,r,r⟩:=zg ho M_;cases r;have hv:=hd.o q d A;obtain⟨T,x,hx⟩:=hv.iface;rw[hx]at hv;have E:∀g,P g->¬B<=g:=λg h=>by have:=hP.o g h;omega
   have r:wr.cell? ⟨g,q,none⟩=some (.iface T x):=by
    rw[<- hx];exact qQ (zj ho j.all (λg e=>E g (hl.o g e))) F
   have J:=zy (KO (n:=q) p M_ M_);have K:H_ (∀k w1 r,zG w1 B k r->f.size<=r.size->r.size<=f.size+1->FrU B wr w1->Calls prog 31 #[k,.iface T x] w1 (yX w1 B (b.size+1) (b.size+1+8022*za (ds.take (q+1))))):=zy (λk w1 r h1 l1 l2 l=>by
    have f:=l.size
    have f:=j.trans l
    apply(O d M_ w1 P B _ _ _ _ (hv.fr f.all E) hP h0 M_ (D.o.fru f h0 hB) h1 M_).mono
    rintro e w' ⟨O,f,h1,l,D,D,D⟩
    exact⟨O,f,h1,l,M_,by rw[H];omega,D⟩)
   have f:q<=90000000:=M_;replace j:=zy j;replace A:=zy A;replace p:=zy p;go_wp2_with (first
    |(go_at_call 94;apply J.o.mono;rintro e w1 ⟨k,r,rfl,f,l1,l2,C⟩;revert f l1 l2 C;refine g_ λf l1 l2 C=>?_)
    |(go_at_call 31;apply(K.o _ _ _ f l1 l2 C).mono;rintro e f ⟨f,c2,rfl,f,l,r,k⟩;revert f l r k;refine g_ λf l r k=>?_))
   go_roundg (ds.length+1-(q+1));case measure=>omega
   case rel=>exact⟨q+1,by simp,F,l_,⟨c2,f,l,r⟩,(j.o.trans C).trans k⟩
  .have N:¬((q:Int)<(ds.length:Int)):=M_;rw[bb_ M_]at G;replace j:=zy j;replace p:=zy p;go_wp2_with (at_builtin;refine qj rfl _ _ rfl c rfl M p M_ M_ rfl rfl rfl ?_;intro f f A C);try go_ret
   rw[I.o];exact⟨_,_,rfl,A,by rw[sz1];omega,by rw[sz1];omega,j.o.trans C⟩
end
def ZA{a:Act}{K:Dx}(s x:Operand)(ho:o.op=.call { callee:=.builtin .append,args:=#[s,x],argTypes:=#[94,94] }){B g:Nat}{w W:Aw}{v:Ax}{b:BA}{y:Int}(c:Nat)(hy:y=(c:Int))(hc:c<256)(hb:zG w B v b)(f:b.size<=100000000)(hB:B<=w.heap.size)(hg:g=w.heap.size)(hs:a.eval s=v)(hx:a.eval x=S_ g 1 1)(i:W=w.alloc (.cells #[.int .u8 y] 5))(h:∀f w',zG w' B f (b++bts [c])->FrU B w w'->K (a.put o.dst f) w'):o.wp prog a W K Q:=by
 subst hy;subst i;obtain⟨ti,j,l,p,r⟩:=info_parts oQ;obtain⟨A,f,hr,z,i,_,_⟩:=run_append_own_at (P:=prog) (w.alloc (.cells #[U_ c] 5)) B 94 o.type 5 ti _ 1 1 wU j l p r rfl D_ _ b.size (Lib.strCells b) (World.ownsRow.alloc hb _) ⟨g,0,none⟩ 1 1 [U_ c] rfl (zK _ #[U_ c] _ _ hg) zi_ xt_ M_ x1_;unfold Oper.wp execOp;simp only[ho,resolve,invoke,builtin,Sem.run_bind,Sem.run_pure,Result.andThen_ok,List.map_toArray,aw_,be_,hs,hx,hr];refine h A f ?_ ?_
 .unfold zG;rw[ya,jh hc,aq_,yP];exact z
 .exact Fr.mono (((A_ w _).alloc _).gw i (λk hk _=>hk):Fr w f (λg=>v.ownBlock=some g)) (λg _ e=>hb.u8 e)
def Ft{a:Act}{K:Dx}(s x:Operand)(ho:o.op=.call { callee:=.builtin .append,args:=#[s,x],argTypes:=#[94,9] }){B:Nat}{w:Aw}{v:Ax}{b t:BA}(hb:zG w B v b)(hsz:b.size<=100000000)(ht:t.size<=4000)(hB:B<=w.heap.size)(hs:a.eval s=v)(hx:a.eval x=.string t)(h:∀v' w',zG w' B v' (b++t)->FrU B w w'->K (a.put o.dst v') w'):o.wp prog a w K Q:=by
 have cc1:=Nat
 exact cq32_
section
variable {w0 w:Aw} {env:Au} {m:Nat} {P:Az} {B:Nat} {u:Ax} {b:BA} {t:PT}
def Ci(ih:Zf w0 env m){ds:Ae}(hm:za ds<=m)(hP:∀g,P g->g<B)(h0:w0.heap.size<=B)(hB:B<=w.heap.size)(V:yu w0 w)(hu:zG w B u b)(hs:b.size+8022*(1+za ds)<=90000000)(hk:∀k∈ks,k.size<=4000)(ho:w.ownsRow 0 201 2 (.slice la ds.length lc) ds.length ((List.range ds.length).flatMap λi=>[.string (ks.getD i noB),Y i]))(hl:∀g,(Value.slice la ds.length lc).ownBlock=some g->P g)(hd:∀i d,ds[i]?=some d->DaV env w P d (yg env t 0 i) (Y i)):Calls prog 60 #[u,.slice la ds.length lc] w (yX w B (b.size+1) (b.size+8022*za ds+2)):=by
 refine hq_ λb7 Q_=>?_;have d6:=xR ds;have start:H_ (∀(l:Value) (W:World),zG W B l (b++bts [123])->FrU B w W->∃q:Nat,Value.int .i64 0=I_ q/\q<=ds.length/\ds.length+1-q<=ds.length+1/\(∃p,zG W B l p/\b.size+1<=p.size/\p.size<=b.size+1+8022*za (ds.take q))/\FrU B w W):=zy λl W h1 D=>⟨0,rfl,al_ _,M_,⟨_,h1,by rw[sz1];omega,by rw[sz1];omega⟩,D⟩;replace ho:=zy ho;replace hd:=zy hd;replace hl:=zy hl;replace hP:=zy hP;replace hu:=zy hu;replace V:=zy V;replace hk:=zy hk;go_in;go_wp2_with (at_builtin;refine qj rfl _ _ rfl 123 rfl D_ hu M_ hB rfl rfl rfl ?_;intro v5 w5 a3 a6;have a7:=zy (start.o v5 w5 a3 a6));go_loopg [0,5,6,12] (ds.length+1) (λm v0 v5 v6 v W=>∃q:Nat,v=I_ q/\q<=ds.length/\ds.length+1-q<=m/\(∃p,zG W B v0 p/\b.size+1<=p.size/\p.size<=b.size+1+8022*za (ds.take q))/\FrU B w W);case atStart=>exact a7
 case round=>
  obtain⟨q,rfl,hq,d2,⟨p,E,a9,a5⟩,A⟩:=hrel;have d7:=A.size;by_cases a1:q<ds.length
  .have b6:(q:Int)<(ds.length:Int):=M_;have I:ds[q]?=some ds[q]:=ai_ a1;generalize ds[q]=d at I;obtain⟨t1,t2⟩:=xJ I;have b9:=CJ d;obtain⟨K,a2⟩:=x_ (ks.getD q noB);have a8:K.size<=4000:=by
    rw[<- a2,au_];cases b5:ks[q]? with
    |none=>exact al_ _
    |some y=>exact hk.o y (ah_ b5)
   obtain⟨g,b8,b4⟩:=zg ho M_;cases b4;have hv:=hd.o q d I;obtain⟨T,x,hx⟩:=hv.iface;rw[hx]at hv;have a0:∀g,P g->¬B<=g:=λg h=>by have:=hP.o g h;omega
   obtain⟨m0,L⟩:=bQ (K:=λi=>ks.getD i noB) (zj ho A.all (λg e=>a0 g (hl.o g e))) a1;rw[hx]at L;simp only[a2]at m0;obtain⟨G,J⟩:=e_ (wr.alloc (.cells #[.string K,.iface T x] 201));have H:Fr wr G N_:=J▸(A_ wr _).alloc _;have M:Blk G wr.heap.size [.string K,.iface T x] 201:=J▸B_ wr #[.string K,.iface T x] 201;have d8:=H.size;have X:∀W,Fr G W N_->Calls prog 94 #[u0,I_ q] W (λe w'=>∃l C,e=.returned l/\H_ (zG w' B l C/\FrU B w w'/\Blk w' wr.heap.size [.string K,.iface T x] 201/\p.size<=C.size/\C.size<=p.size+1)/\w'.cell? ⟨wr.heap.size,0,none⟩=some (.string K)):=by
    intro W N;have hz:=N.size;apply(KO (n:=q) (zG.fr (zG.fr E H u_) N u_) M_ M_).mono;rintro e w1 ⟨l,C,rfl,r,l1,l2,F⟩;have D:=F.bl (N.bl M (λf=>f)) D_;refine⟨l,C,rfl,zy ⟨r,A.trans (((FrU.of H).trans (FrU.of N)).trans F),D,l1,l2⟩,?_⟩;rw[D.cell 0];rfl
   have U:∀W l C,p.size<=C.size/\C.size<=p.size+1->zG W B l ((C++K)++bts [58])->FrU B w W->Calls prog 31 #[l,.iface T x] W (yX W B (b.size+1) (b.size+1+8022*za (ds.take (q+1)))):=by
    intro W l C N r F;have hz:=F.size;have N:(C++K++bts [58]).size=C.size+K.size+1:=by rw[sz1,aq_]
    apply(ih d M_ W P B _ _ l _ (hv.fr F.all a0) hP h0 M_ (V.o.fru F h0 hB) r M_).mono;rintro e w' ⟨V,F,h1,D,N,N,N⟩;exact⟨V,F,h1,D,M_,by rw[t1];omega,N⟩
   have D:p.size<=90000000:=M_;have p:q<=90000000:=M_;replace X:=zy X;replace U:=zy U;replace A:=zy A;replace I:=zy I;replace E:=zy E;replace H:=zy H;replace M:=zy M;go_wp2;rw[<- J];replace J:=zy J;refine tR_ (λW=>z_ W wr.heap.size 0 (.string K)) ?_;refine tY_ 0 ?_;refine tY_ 1 ?_;refine tY_ 3 ?_;refine tY_ 4 ?_;refine zJ 2 rfl K_ (by have:=M.o.cell 0;exact this) (λz j=>?_);go_simp;apply(X.o _ ((A_ G _).drew)).mono;rintro e w1 ⟨l,C,rfl,r,c1⟩;have F:=zy r.o.2.2.2;have l:C.size<=90000001:=by have:=F.o;omega
   have l:(C++K).size<=90004001:=yz_
   refine j _ _ ?_;refine zJ 5 rfl K_ c1 (λz j=>?_);rw[i_ (show Region.wanted _ _=true by kernel_rfl)];refine Ft _ _ rfl r.o.1 M_ a8 (ak_ hB r.o.2.1.size) rfl rfl ?_;intro v6 G p D;refine j _ _ ?_;have l:=D.bl r.o.2.2.1 D_;have H:=l.c0;have I:=l.c1;have R:=zy (r.o.2.1.trans D);replace p:=zy p;replace l:=zy l;refine tY_ 6 ?_;refine yq K_ H ?_ _;go_wp2;refine tR_ (λW=>z_ W wr.heap.size 1 (.iface T x)) ?_;refine tY_ 0 ?_;refine tY_ 3 ?_;refine tY_ 4 ?_;refine zJ 1 rfl K_ I (λz j=>?_);go_simp;refine j _ _ ?_;have D:=R.o.size;have B7:=(l.o.alloc (.cells #[.int .u8 58] 5));have r:=B7.c1;refine zJ 2 rfl K_ r (λz j=>?_);rw[i_ (show Region.wanted _ _=true by kernel_rfl)];refine ZA _ _ rfl 58 rfl D_ (w:=G.drew) (zG.si p (zq.drew _)) M_ (ak_ hB D) rfl rfl rfl rfl ?_;intro p p a4 Z;refine j _ _ ?_;have S:=R.o.drew.trans Z;have O:=Z.bl ((((A_ G N_).drew)).bl l id) D_;have l:=O.c1;refine zJ 5 rfl K_ l (λz j=>?_);go_simp;apply(U.o _ _ _ F a4 S).mono;rintro e l ⟨l,c9,rfl,l,L,r,p⟩;refine j _ _ ?_;have z:=(p.bl O D_).c1;have j:=zy (S.trans p);revert l L r;refine h_ λl L r=>?_;refine tY_ 6 ?_;refine yq K_ z ?_ _;go_wp2;go_roundg (ds.length+1-(q+1));case measure=>omega
   case rel=>exact⟨q+1,by simp,a1,l_,⟨c9,l,L,r⟩,j⟩
  .have b6:¬((q:Int)<(ds.length:Int)):=M_;rw[bb_ M_]at a5;replace A:=zy A;replace E:=zy E;go_wp2_with (at_builtin;refine qj rfl _ _ rfl 125 rfl D_ E M_ M_ rfl rfl rfl ?_;intro l l j r);try go_ret
   rw[Q_.o];exact⟨_,_,rfl,j,by rw[sz1];omega,by rw[sz1];omega,A.o.trans r⟩
end
section
variable {w0 w:Aw} {env:Au} {m:Nat} {P:Az} {B:Nat} {u:Ax} {b:BA} {t:PT}
def FK(S:Zf w0 env m)(M:jZ w0)(hn:n<=4000){d:DT}{v:Ax}(hm:ndT d<=m)(hv:DaV env w P d (yg env t n 0) v)(hP:∀g,P g->g<B)(h0:w0.heap.size<=B)(hB:B<=w.heap.size)(H:yu w0 w)(hu:zG w B u b)(hs:b.size+8022*(1+ndT d)<=90000000):Calls prog 61 #[u,.agg #[I_ n,v]] w (yX w B (b.size+1) (b.size+8022*(1+ndT d)-4011)):=by
 refine hq_ λj V=>?_;obtain⟨T,x,rfl⟩:=hv.iface;have j:=CJ d;have R:∀g,P g->¬B<=g:=λg h=>by have:=hP g h;omega
 obtain⟨l,y⟩:=e_ (w.alloc (.cells #[I_ n,.iface T x] 150));have p:Fr w l N_:=y▸(A_ w _).alloc _;have r:Blk l w.heap.size [I_ n,.iface T x] 150:=y▸B_ w #[I_ n,.iface T x] 150;have a1:=p.size;have L:zG l B u b:=zG.fr hu p u_;have j:=sz1 b 60;have I:∀W j,zG W B j (b++bts [60])->FrU B w W->Calls prog 57 #[j,I_ n,Z_ 10] W (yX W B ((b++bts [60]).size+1) ((b++bts [60]).size+21)):=λW j h1 k=>M W B h0 (o1_ k.size) (H.fru k h0 hB) j _ (n:Int) M_ M_ h1 M_;have G:∀W j c,b.size<=c.size/\c.size<=b.size+22->zG W B j (c++bts [58])->FrU B w W->Calls prog 31 #[j,.iface T x] W (yX W B (b.size+1) (b.size+8022*ndT d-3980)):=λW j c hc h1 k=>by
  have X:=sz1 c 58;apply(S d hm W P B _ _ j _ (hv.fr k.all R) hP h0 (o1_ k.size) (H.fru k h0 hB) h1 M_).mono;rintro e w' ⟨v',j,h1,k,X,X,X⟩;exact⟨v',j,h1,k,M_,M_,X⟩
 replace I:=zy I;replace G:=zy G;have j:=zy (FrU.of (B:=B) p);replace p:=zy p;have c0:=r.c0;replace r:=zy r;replace L:=zy L;replace y:=zy y;go_in;go_wp2;rw[<- y.o];refine tR_ (λW=>z_ W w.heap.size 0 (I_ n)) ?_;refine tY_ 0 ?_;refine tY_ 3 ?_;refine tY_ 4 ?_;refine zJ 1 rfl K_ c0 (λi f=>?_);go_simp;refine f _ _ ?_;have k:=(r.o.alloc (.cells #[.int .u8 60] 5)).c0;refine zJ 2 rfl K_ k (λi f=>?_);rw[i_ (show Region.wanted _ _=true by kernel_rfl)];refine ZA _ _ rfl 60 rfl D_ (w:=l.drew) (zG.si L (zq.drew _)) M_ (ak_ hB a1) rfl rfl rfl rfl ?_;intro k k N J;refine f _ _ ?_;have D:=j.o.drew.trans J;have A:=J.bl ((((A_ l N_).drew)).bl r id) D_;have j:=A.c0;refine zJ 5 rfl K_ j (λi f=>?_);go_simp;apply(I.o _ _ N D).mono;rintro e U ⟨j,c3,rfl,k,l1,l2,l⟩;have y:b.size<=c3.size/\c3.size<=b.size+22:=M_;refine f _ _ ?_;have j:=l.bl A D_;have p:=j.c0;have r:=j.c1;have E:=zy (D.trans l);replace k:=zy k;replace j:=zy j;refine tY_ 6 ?_;refine yq K_ p ?_ _;go_wp2;refine tR_ (λW=>z_ W w.heap.size 1 (.iface T x)) ?_;refine tY_ 0 ?_;refine tY_ 3 ?_;refine tY_ 4 ?_;refine zJ 1 rfl K_ r (λi f=>?_);go_simp;refine f _ _ ?_;have p:=E.o.size;have l:=(j.o.alloc (.cells #[.int .u8 58] 5)).c1;refine zJ 2 rfl K_ l (λi f=>?_);rw[i_ (show Region.wanted _ _=true by kernel_rfl)];refine ZA _ _ rfl 58 rfl D_ (w:=U.drew) (zG.si k (zq.drew _)) M_ (ak_ hB p) rfl rfl rfl rfl ?_;intro k k O K;refine f _ _ ?_;have F:=E.o.drew.trans K;have C:=K.bl ((((A_ U N_).drew)).bl j id) D_;have j:=C.c1;refine zJ 5 rfl K_ j (λi f=>?_);go_simp;apply(G.o _ _ _ y O F).mono;rintro e j ⟨j,c9,rfl,j,k,k,k⟩;refine f _ _ ?_;have f:=(k.bl C D_).c1;have z:=F.trans k;have i:=z.size;replace z:=zy z;replace j:=zy j;refine tY_ 6 ?_;refine yq K_ f ?_ _;go_wp2_with (at_builtin;refine qj rfl _ _ rfl 62 rfl D_ j M_ M_ rfl rfl rfl ?_;intro f f Z a0);try go_ret
 rw[V.o];exact⟨_,_,rfl,Z,by rw[sz1];omega,by rw[sz1];omega,z.o.trans a0⟩
end
set_option maxRecDepth 100000
set_option linter.defProp false
@[go_sem]def Pb:=yI 136 52
@[go_sem]def Bj:=vt 136 52 (.agg #[])
section
variable {w0 w:Aw} {env:Au} {m:Nat} {P:Az} {B:Nat} {u:Ax} {b:BA} {t:PT}
def Yv(hB:B<=w.heap.size)(hu:zG w B u b)(hs:b.size+8022<=90000000):Calls prog 31 #[u,.iface 136 (.agg #[])] w (yX w B (b.size+1) (b.size+4011)):=by
 refine hq_ λe e=>?_;have A:Fr w (w.alloc (.cells #[] 136)) N_:=(A_ w _).alloc _;have h:=zy (zG.fr hu A u_);have hz:=A.size;replace A:=zy A;go_in;go_wp2_with (at_builtin;refine qj rfl _ _ rfl 78 rfl D_ h M_ M_ x7_ rfl rfl ?_;intro h h f g);try go_ret
 rw[e.o];exact⟨_,_,rfl,f,by rw[sz1];omega,by rw[sz1];omega,(FrU.of A).trans g⟩
def KH{c:Aq}(hB:B<=w.heap.size)(hu:zG w B u b)(hs:b.size+8022<=90000000):Calls prog 31 #[u,.iface 137 (.bool c)] w (yX w B (b.size+1) (b.size+4011)):=by
 refine hq_ λg f=>?_;have g:=zy (Ul (t:=c) hu hB M_);go_in;go_wp2_with (go_at_call 56;apply g.o.mono;rintro e w1 h1;replace h1:=zy h1;obtain⟨g,_,rfl,_⟩:=h1.o);try go_ret
 rw[f.o];exact h1.o.wide M_
def Ub(f:jZ w0){c:Nat}{n:Int}(hc:c=105\/c=108)(j : -9223372036854775808<=n)(k:n<=9223372036854775807)(h0:w0.heap.size<=B)(hB:B<=w.heap.size)(g:yu w0 w)(hu:zG w B u b)(hs:b.size+8022<=90000000):Calls prog 31 #[u,.iface 139 (Z_ n)] w (yX w B (b.size+1) (b.size+4011)):=by
 refine hq_ λi h=>?_;have i:=zy (f w B h0 hB g u b n j k hu M_);go_in;go_wp2_with (go_at_call 57;apply i.o.mono;rintro e w1 h1;replace h1:=zy h1;obtain⟨f,_,rfl,_⟩:=h1.o);try go_ret
 rw[h.o];exact h1.o.wide M_
def cq31_{p:Prop}(h:p:=by
 refine hq_ λi g=>?_;(first|(have:=cc1;have f:=zy (XC (c:=39) (y:=39) rfl D_ ht hu hB M_))|(have f:=zy (XC (c:=34) (y:=34) rfl D_ ht hu hB M_)));clear hu;go_in;go_wp2_with (go_at_call 58;apply f.o.mono;rintro e w1 h1;replace h1:=zy h1;obtain⟨j,_,rfl,_⟩:=h1.o);try go_ret
 rw[g.o];exact h1.o.wide M_):p:=h
def Fi(ht:tx.size<=4000)(hB:B<=w.heap.size)(hu:zG w B u b)(hs:b.size+8022<=90000000):Calls prog 31 #[u,.iface 141 (.string tx)] w (yX w B (b.size+1) (b.size+4011)):=by
 exact cq31_
def KR(ht:tx.size<=4000)(hB:B<=w.heap.size)(hu:zG w B u b)(hs:b.size+8022<=90000000):Calls prog 31 #[u,.iface 155 (.string tx)] w (yX w B (b.size+1) (b.size+4011)):=by
 have cc1:=Nat
 exact cq31_
def Up{l:Nat}(hl:fU env t n=l)(h:l<256)(hB:B<=w.heap.size)(hu:zG w B u b)(hs:b.size+8022<=90000000):Calls prog 31 #[u,.iface 154 (.agg #[.int .u8 (l:Int),.int .i64 (n:Int)])] w (yX w B (b.size+1) (b.size+4011)):=by
 refine hq_ λe e=>?_;have A:Fr w (w.alloc (.cells #[.int .u8 (l:Int),.int .i64 (n:Int)] 154)) (λ_=>False):=(A_ w _).alloc _;have i:=zy (zG.fr hu A u_);have hz:=A.size;replace A:=zy A;clear hu hl;go_in;go_wp2_with (at_builtin;refine qj rfl _ _ rfl l rfl h i.o M_ M_ x7_ rfl rfl ?_;intro h h f g);try go_ret
 rw[e.o];exact⟨_,_,rfl,f,by rw[sz1];omega,by rw[sz1];omega,(FrU.of A.o).trans g⟩
def cq29_{p:Prop}(h:p:=by
 refine hq_ λi g=>?_;(first|(have:=cc1;have f:=zy (MT ih (t:=t) (o:=40) (c:=41) (y:=40) (z:=41) rfl rfl D_ D_ hm hP h0 hB hG hu hs ho hl hd))|(have f:=zy (MT ih (t:=t) (o:=91) (c:=93) (y:=91) (z:=93) rfl rfl D_ D_ hm hP h0 hB hG hu hs ho hl hd)));clear ih hP hu ho hl hd hG;go_in;go_wp2_with (go_at_call 59;apply f.o.mono;rintro e w1 h1;replace h1:=zy h1;obtain⟨j,_,rfl,_⟩:=h1.o);try go_ret
 rw[g.o];exact h1.o):p:=h
def Fa(ih:Zf w0 env m){ds:Ae}(hm:za ds<=m)(hP:∀g,P g->g<B)(h0:w0.heap.size<=B)(hB:B<=w.heap.size)(hG:yu w0 w)(hu:zG w B u b)(hs:b.size+8022*(1+za ds)<=90000000)(ho:w.ownsRow 0 52 1 (.slice la ds.length lc) ds.length ((List.range ds.length).flatMap λi=>[Y i]))(hl:∀g,(Value.slice la ds.length lc).ownBlock=some g->P g)(hd:∀i d,ds[i]?=some d->DaV env w P d (yg env t 0 i) (Y i)):Calls prog 31 #[u,.iface 144 (.slice la ds.length lc)] w (yX w B (b.size+1) (b.size+8022*za ds+2)):=by
 exact cq29_
def Fe(ih:Zf w0 env m){ds:Ae}(hm:za ds<=m)(hP:∀g,P g->g<B)(h0:w0.heap.size<=B)(hB:B<=w.heap.size)(hG:yu w0 w)(hu:zG w B u b)(hs:b.size+8022*(1+za ds)<=90000000)(ho:w.ownsRow 0 52 1 (.slice la ds.length lc) ds.length ((List.range ds.length).flatMap λi=>[Y i]))(hl:∀g,(Value.slice la ds.length lc).ownBlock=some g->P g)(hd:∀i d,ds[i]?=some d->DaV env w P d (yg env t 0 i) (Y i)):Calls prog 31 #[u,.iface 152 (.slice la ds.length lc)] w (yX w B (b.size+1) (b.size+8022*za ds+2)):=by
 have cc1:=Nat
 exact cq29_
def Uu(h:Zf w0 env m){ds:Ae}(hm:za ds<=m)(hP:∀g,P g->g<B)(h0:w0.heap.size<=B)(hB:B<=w.heap.size)(f:yu w0 w)(hu:zG w B u b)(hs:b.size+8022*(1+za ds)<=90000000)(hk:∀k∈ks,k.size<=4000)(ho:w.ownsRow 0 201 2 (.slice la ds.length lc) ds.length ((List.range ds.length).flatMap λi=>[.string (ks.getD i noB),Y i]))(hl:∀g,(Value.slice la ds.length lc).ownBlock=some g->P g)(hd:∀i d,ds[i]?=some d->DaV env w P d (yg env t 0 i) (Y i)):Calls prog 31 #[u,.iface 147 (.slice la ds.length lc)] w (yX w B (b.size+1) (b.size+8022*za ds+2)):=by
 refine hq_ λl j=>?_;have l:=zy (Ci h (t:=t) hm hP h0 hB f hu hs hk ho hl hd);go_in;go_wp2_with (go_at_call 60;apply l.o.mono;rintro e w1 h1;replace h1:=zy h1;obtain⟨f,_,rfl,_⟩:=h1.o);try go_ret
 rw[j.o];exact h1
def Jz(j:Zf w0 env m)(h:jZ w0)(hn:n<=4000){d:DT}{v:Ax}(hm:ndT d<=m)(hv:DaV env w P d (yg env t n 0) v)(hP:∀g,P g->g<B)(h0:w0.heap.size<=B)(hB:B<=w.heap.size)(i:yu w0 w)(hu:zG w B u b)(hs:b.size+8022*(1+ndT d)<=90000000):Calls prog 31 #[u,.iface 150 (.agg #[I_ n,v])] w (yX w B (b.size+1) (b.size+8022*(1+ndT d)-4011)):=by
 refine hq_ λl k=>?_;obtain⟨T,x,rfl⟩:=hv.iface;have A:Fr w (w.alloc (.cells #[I_ n,.iface T x] 150)) N_:=(A_ w _).alloc _;have hz:=A.size;have l:=zy (FK j h hn hm (hv.fr A u_) hP h0 M_ (i.fr A M_ (λg f=>f.elim)) (zG.fr hu A u_) hs);replace A:=zy A;go_in;go_wp2_with (go_at_call 61;apply l.o.mono;rintro e w1 h1;replace h1:=zy h1;obtain⟨h,_,rfl,_⟩:=h1.o);try go_ret
 rw[k.o];exact h1.o.pre (FrU.of A)
def Um(g:jZ w0):∀m,Zf w0 env m:=by
 intro m;induction m with
 |zero=>intro d h;obtain⟨_,_,_,_,_⟩:=d;unfold ndT at h;omega
 |succ m ih=>
  intro d hm w P B t v u b hv hP h0 hB f hu hs;cases hv with
  |flat h hsy=>
   have i:1<=ndT d:=z3_
   cases h with
   |nothing=>exact(Yv hB hu M_).mono (λe w' h=>h.wide M_)
   |truth b=>exact(KH hB hu M_).mono (λe w' h=>h.wide M_)
   |num c n hc i0 i1=>exact(Ub g hc i0 i1 h0 hB f hu M_).mono (λe w' h=>h.wide M_)
   |text tx h=>exact(Fi h hB hu M_).mono (λe w' h=>h.wide M_)
   |bytes tx h=>exact(KR h hB hu M_).mono (λe w' h=>h.wide M_)
   |sym n l h=>exact(Up (hsy n l rfl).1 (hsy n l rfl).2 hB hu M_).mono (λe w' h=>h.wide M_)
  |branch n h hd=>
   unfold ndT at hm hs;simp only[za,bz_]at hm hs;exact(Jz ih g h M_ hd hP h0 hB f hu hs).mono (λe w' h=>h.wide (Nat.le_of_eq (by simp[ndT,za])))
  |row Y hc ho hl hd=>
   unfold ndT at hm hs;obtain⟨la,lc,rfl⟩:=zw ho;rcases hc with⟨rfl,rfl⟩|⟨rfl,rfl⟩
   .exact(Fa ih M_ hP h0 hB f hu hs ho hl hd).mono (λe w' h=>h.wide (by unfold ndT;omega))
   .exact(Fe ih M_ hP h0 hB f hu hs ho hl hd).mono (λe w' h=>h.wide (by unfold ndT;omega))
  |map Y hl hk ho hl2 hd=>
   unfold ndT at hm hs;obtain⟨la,lc,rfl⟩:=zw ho;exact(Uu ih M_ hP h0 hB f hu hs hk ho hl2 hd).mono (λe w' h=>h.wide (by unfold ndT;omega))
def lB(j:jZ w0){d:DT}{v:Ax}(hv:DaV env w P d t v)(hk:w0.heap.size<=w.heap.size)(k:yu w0 w)(hs:8022*ndT d<=90000000):Calls prog 17 #[v] w λe w'=>∃tx:BA,0<tx.size/\e=.returned (.string tx)/\Fr w w' N_:=by
 refine hq_ λf l=>?_;obtain⟨T,x,rfl⟩:=hv.iface;have f:=Um j (ndT d) d l_ w (λg=>P g/\g<w.heap.size) w.heap.size t _ (L_) noB (hv.mono (λg h1 p=>⟨p,h1⟩)) (λg h=>h.2) hk l_ k (World.ownsRow_nil _ _ _ _) (by show 0+_<=_;omega);replace f:=zy f;go_in;go_wp2_with (go_at_call 31;apply f.o.mono;rintro e w1 ⟨f,tx,rfl,h1,l1,_,i⟩;have f:=oS h1;revert h1 l1 i;refine h_ λh1 l1 i=>?_);try go_ret
 rw[l.o];exact⟨tx,by have:=l1.o;omega,rfl,i.o.all.mono (λg hg e=>M_)⟩
end
end Go.Proofs.YtlmebjdmdogmfaaGreatDoor
