import Derived.Test.YtamhgejdkclmdaaGreatDoorW16
set_option maxHeartbeats 16000000
set_option maxRecDepth 100000
set_option linter.defProp false
set_option linter.unusedSimpArgs false
set_option linter.unusedVariables false
open Go.Proofs.Tryz
namespace Go.Proofs.YtamhgejdkclmdaaGreatDoor
open Go.RowKit
variable {n:Nat}{o:De}{Q:Aa}{f:PF}
def ZR{s:BA}(hs:s.size<=300){i:Nat}{j:Nat}(h:zL s i=.ok (f,j)):xL f.ty/\i<j:=by
 have cc1:=Nat
 exact cq35_
def ix(s:BA)(hs:s.size<=300):∀(n i:Nat) (l:List PF) (j:Nat),yQ s n i=.ok (l,j)->(∀f∈l,xL f.ty)/\i+l.length<=j:=by
 intro n;induction n with
 |zero=>intro i l j h;cases h
 |succ n ih=>
  intro i l j h;unfold yQ at h;split at h
  .cases h
  .rename_i f k hf;obtain⟨h1,r⟩:=ZR hs hf;split at h
   .simp only[ae_,ac_]at h;obtain⟨rfl,rfl⟩:=h;exact⟨λg hg=>by rw[a2_]at hg;subst hg;exact h1,by simp;omega⟩
   .split at h
    .split at h
     .cases h
     .rename_i fs y hr;obtain⟨e,p⟩:=ih _ _ _ hr;simp only[ae_,ac_]at h;obtain⟨rfl,rfl⟩:=h;refine⟨λg hg=>?_,by simp;omega⟩;rcases an_.1 hg with rfl|hg
      .exact h1
      .exact e g hg
    .cases h
def VS{s:BA}(hs:s.size<=300){i:Nat}{b:PB}{j:Nat}(h:yK s i=.ok (b,j)):(∀f∈b.fs,xL f.ty)/\i+b.fs.length<=j:=by
 unfold yK at h;split at h
 .split at h
  .cases h
  .rename_i ds k hr;simp only[ae_,ac_]at h;obtain⟨rfl,rfl⟩:=h;unfold yf at hr;split at hr
   .split at hr
    .simp only[ae_,ac_]at hr;obtain⟨rfl,rfl⟩:=hr;exact⟨λf hf=>by simp[PB.fs]at hf,by simp[PB.fs];omega⟩
    .obtain⟨e,g⟩:=ix s hs _ _ _ _ hr;exact⟨e,by show i+ds.length<=k;omega⟩
   .cases hr
 .split at h
  .split at h
   .cases h
   .rename_i l o k hr;simp only[ae_,ac_]at h;obtain⟨rfl,rfl⟩:=h;have:=(uV hr).2.2.2;exact⟨λf hf=>by simp[PB.fs]at hf,by simp[PB.fs];omega⟩
  .split at h
   .split at h
    .simp only[ae_,ac_]at h;obtain⟨rfl,rfl⟩:=h;exact⟨λf hf=>by simp[PB.fs]at hf,by simp[PB.fs]⟩
    .cases h
   .cases h
def ZN(s:BA)(hs:s.size<=300):∀(n i:Nat) (ds:List PD) (j:Nat),i<=s.size->yl s n i=.ok (ds,j)->(∀f∈zk ds,xL f.ty)/\i+(zk ds).length<=j/\j<=s.size:=by
 intro n;induction n with
 |zero=>
  intro i ds j hi h;simp only[yl,ae_,ac_]at h;obtain⟨rfl,rfl⟩:=h;exact⟨λf hf=>by simp[zk]at hf,by simp[zk],hi⟩
 |succ n ih=>
  intro i ds j hi h;unfold yl at h;split at h
  .split at h
   .split at h
    .cases h
    .rename_i b k hb;obtain⟨b1,b2⟩:=VS hs hb;have b3:=bm hb;split at h
     .rename_i p;have g:=zm (s:=s) (i:=k) M_;split at h
      .cases h
      .rename_i r e hr;obtain⟨r1,y,l⟩:=ih _ _ _ g hr;simp only[ae_,ac_]at h;obtain⟨rfl,rfl⟩:=h;rw[jL];refine⟨λf hf=>?_,by rw[ah_];show i+(b.fs.length+_)<=_;omega,l⟩;rcases a4_.1 hf with hf|hf
       .exact b1 f hf
       .exact r1 f hf
     .cases h
   .cases h
  .simp only[ae_,ac_]at h;obtain⟨rfl,rfl⟩:=h;exact⟨λf hf=>by simp[zk]at hf,by simp[zk],hi⟩
def ie{ds:Aq}{d:PD}(hd:d∈ds)(hf:f∈d.body.fs):f∈zk ds:=by
 unfold zk;exact cb_.2 ⟨d,hd,hf⟩
def bH{ds:Aq}(hf:f∈zk ds):∃d∈ds,f∈d.body.fs:=by
 unfold zk at hf;exact cb_.1 hf
def xJ{s:BA}(hs:s.size<=300){ds:Aq}{t:PT}(h:zi s=.ok (ds,t)):(∀d∈ds,plB d.body)/\xL t/\shT t/\(zk ds).length<=300/\(∀f∈zk ds,xL f.ty/\shT f.ty)/\ds.length<=6:=by
 obtain⟨_,_,_,z,A⟩:=jD h;obtain⟨y,D⟩:=jC h;have h0:=h;unfold zi at h0;split at h0
 .cases h0
 .rename_i ds' i hd;obtain⟨p,E,f3⟩:=ZN s hs _ _ _ _ o_ hd;split at h0
  .cases h0
  .rename_i t' j C;have ft:=KP hs f3 C;split at h0
   .cases h0
   .simp only[ae_,ac_]at h0;obtain⟨rfl,rfl⟩:=h0;refine⟨λd k=>?_,ft,D,M_,λf hf=>⟨p f hf,?_⟩,A⟩
    .have h1:=(z d k).2;have e:=y d k;have r:∀f∈d.body.fs,xL f.ty:=λf hf=>p f (ie k hf);cases hb:d.body with
     |recd fs=>rw[hb]at h1 e r;exact⟨by have:=e.2;omega,h1,r⟩
     |enum l o=>rw[hb]at h1 e;exact⟨by have:=e.2;omega,h1.1,h1.2⟩
     |bytes n=>trivial
    .obtain⟨d,k,g⟩:=bH hf;have e:=y d k;cases hb:d.body with
     |recd fs=>rw[hb]at e g;exact e.1 f g
     |enum l o=>rw[hb]at g;simp[PB.fs]at g
     |bytes n=>rw[hb]at g;simp[PB.fs]at g
def ma{s:BA}(hs:s.size<=300){ds:Aq}{t:PT}(h:zi s=.ok (ds,t))(hn:xP ds t=[])(hu:xi ds t=[]):vb ds/\∀f∈zk ds,okT (zx ds) f.ty:=by
 obtain⟨e,g,_,_,_⟩:=jD h;rw[hn]at e;rw[hu]at g;have hw:wrU (zx ds) (jb ds++za t) (jO [] ds (-1))<0:=by rw[e];decide
 have hm:mix t (qb ds (-1))<0:=by rw[g];decide
 obtain⟨g,e,_,_⟩:=ue hs h hw hm;obtain⟨k,_⟩:=xJ hs h;obtain⟨p,r⟩:=jC h;obtain⟨_,e⟩:=Xr hw;have i:=lU (zx ds) t _ r hm (λu hu=>e u (b4_ _ hu));have j:=(Zj (env:=zx ds) p (λu hu=>e u (by_ _ hu)) i.1).2;refine⟨λc b he=>⟨?_,g c b he⟩,λf hf=>?_⟩
 .unfold zx at he;cases hl:vf 0 c ds with
  |none=>rw[hl]at he;cases he
  |some q=>
   obtain⟨e,e⟩:=q;rw[hl]at he;simp only[bh_,af_]at he;subst he;obtain⟨d,hd,rfl⟩:=gm hl;exact k d hd
 .obtain⟨d,hd,e⟩:=bH hf;cases hb:d.body with
  |recd fs=>rw[hb]at e;exact j d hd fs hb f e
  |enum l o=>rw[hb]at e;simp[PB.fs]at e
  |bytes n=>rw[hb]at e;simp[PB.fs]at e
structure cJ where
 lt:TypeId
 lx:Value
 gt:TypeId
 gx:Value
 mt:TypeId
 mx:Value
 ut:TypeId
 ux:Value
 nt:TypeId
 nx:Value
structure cJ.At(E:cJ)(w:Aw):Prop where
 l:vw 7 w E.lt E.lx
 g:vw 0 w E.gt E.gx
 m:vw 1 w E.mt E.mx
 u:vw 2 w E.ut E.ux
 n:vw 3 w E.nt E.nx
def jx(E:cJ)(w:Aw)(lo:Nat)(ev:Ax)(a:Int×Int):Prop:=
 (a.1=0/\a.2=0/\ev=.nilIface)\/(a.1=1/\a.2=0/\ev=.iface E.lt E.lx)\/(a.1=2/\zA w lo ev a.2 (.iface E.gt E.gx))\/(a.1=3/\zA w lo ev a.2 (.iface E.mt E.mx))\/(a.1=4/\zA w lo ev a.2 (.iface E.ut E.ux))\/(a.1=5/\∃cv,zA w lo ev a.2 cv/\jv w lo E.nt E.nx cv)
def Cw(lo:Nat)(w:Aw)(s:BA)(sv rv:Ax):Prop:=
 ∃ds t xs,s.size<=300/\zi s=.ok (ds,t)/\xP ds t=[]/\xi ds t=[]/\yC w (λg=>lo<=g/\g<w.heap.size) s ds sv xs/\TyV w (λg=>lo<=g/\g<w.heap.size) t rv
def wo(lo:Nat)(w:Aw)(s:BA)(sv rv:Ax):Prop:=
 ∃ds t xs,s.size<=300/\zi s=.ok (ds,t)/\xP ds t=[]/\xi ds t=[]/\yC w (λg=>lo<=g/\g<w.heap.size) s ds sv xs/\TyV w (λg=>lo<=g/\g<w.heap.size) t rv/\Dfs lo (λg=>lo<=g/\g<w.heap.size) w s ds xs
def Qe(w:Aw)(s:BA)(E:cJ)(e:Ak)(w':Aw):Prop:=
 ∃sv rv ev,e=.returned (.tuple #[.agg #[sv,rv],ev])/\(∃a n c,sv=.slice a n c)/\IfV rv/\Fr w w' N_/\jx E w' w.heap.size ev (zu s)/\((zu s).1=0->Cw w.heap.size w' s sv rv)
def eh(w:Aw)(s:BA)(E:cJ)(e:Ak)(w':Aw):Prop:=
 ∃sv rv ev,e=.returned (.tuple #[.agg #[sv,rv],ev])/\(∃a n c,sv=.slice a n c)/\IfV rv/\Fr w w' N_/\jx E w' w.heap.size ev (zu s)/\((zu s).1=0->wo w.heap.size w' s sv rv)
def wH{w W W':Aw}{s:BA}{E:cJ}{i:Ax}(hf:Fr w W N_)(j:Fr W W' (λg=>g=w.heap.size))(h0:(zu s).1≠0)(h:jx E W' w.heap.size i (zu s)):eh w s E (.returned (.tuple #[.agg #[L_,.nilIface],i])) W':=
 ⟨_,_,i,rfl,⟨_,_,_,rfl⟩,.inl rfl,hf.trans j (λx hx e=>M_),h,λe=>absurd e h0⟩
structure RSt(w w1:Aw)(s:BA)(ds:Aq)(t:PT)(sv rv:Ax)(xs:Ay)(q:Nat)(W:Aw):Prop where
 z:w1.heap.size+2<=W.heap.size
 z0:w.heap.size+2<=w1.heap.size
 al:Fr w W N_
 q3:q<=3
 d:yC W (λg=>w.heap.size+2<=g/\g<w1.heap.size) s ds sv xs/\TyV W (λg=>w.heap.size+2<=g/\g<w1.heap.size) t rv
 n:1<=q->xP ds t=[]
 u:2<=q->xi ds t=[]
 e:3<=q->qO s ds=[]
 R:Blk W w.heap.size [L_,.nilIface] 60
 B:Blk W w1.heap.size [sv,rv] 60
 L:∃ty,Blk W (w1.heap.size+1) [.func (.func 42) #[] #[],.func (.func 43) #[] #[],.func (.func 44) #[] #[]] ty
 f:3<=q->Dfs (w.heap.size+2) (λg=>w.heap.size+2<=g/\g<w1.heap.size) W s ds xs
section
variable {w w1 W W':Aw} {s:BA} {ds:Aq} {t:PT} {sv rv:Ax} {xs:Ay} {q:Nat}
def RSt.chk(M:RSt w w1 s ds t sv rv xs q W)(hf:Fr W W' N_):RSt w w1 s ds t sv rv xs q W':=
 ⟨aj_ M.z hf.size,M.z0,M.al.trans hf v_,M.q3,⟨M.d.1.fr hf u_,M.d.2.fr hf u_⟩,M.n,M.u,M.e,hf.bl M.R id,hf.bl M.B id,M.L.imp (λ_ h=>hf.bl h id),λh=>(M.f h).fr M.d.1 hf u_ u_⟩
def RSt.next0(M:RSt w w1 s ds t sv rv xs 0 W)(h:xP ds t=[]):RSt w w1 s ds t sv rv xs 1 W:=
 ⟨M.z,M.z0,M.al,M_,M.d,λ_=>h,λh=>M_,λh=>M_,M.R,M.B,M.L,λh=>M_⟩
def RSt.next1(M:RSt w w1 s ds t sv rv xs 1 W)(h:xi ds t=[]):RSt w w1 s ds t sv rv xs 2 W:=
 ⟨M.z,M.z0,M.al,M_,M.d,λ_=>M.n M_,λ_=>h,λh=>M_,M.R,M.B,M.L,λh=>M_⟩
def RSt.dft(M:RSt w w1 s ds t sv rv xs 2 W)(hf:Fr W W' (λg=>w.heap.size+2<=g/\g<w1.heap.size)):Fr w W' N_/\Blk W' w.heap.size [L_,.nilIface] 60:=
 ⟨M.al.trans hf (λx hx e=>M_),hf.bl M.R (λe=>M_)⟩
def RSt.next2(M:RSt w w1 s ds t sv rv xs 2 W)(hf:Fr W W' (λg=>w.heap.size+2<=g/\g<w1.heap.size))(h:qO s ds=[])(i:yC W' (λg=>w.heap.size+2<=g/\g<w1.heap.size) s ds sv xs)(j:∀t x,TyV W (λg=>w.heap.size+2<=g/\g<w1.heap.size) t x->TyV W' (λg=>w.heap.size+2<=g/\g<w1.heap.size) t x)(hX:Dfs (w.heap.size+2) (λg=>w.heap.size+2<=g/\g<w1.heap.size) W' s ds xs):RSt w w1 s ds t sv rv xs 3 W':=
 ⟨aj_ M.z hf.size,M.z0,(M.dft hf).1,M_,⟨i,j _ _ M.d.2⟩,λ_=>M.n M_,λ_=>M.u M_,λ_=>h,(M.dft hf).2,hf.bl M.B (λe=>M_),M.L.imp (λ_ h=>hf.bl h (λe=>M_)),λ_=>hX⟩
end
def cwXQ1_{p:Prop}(h:p:=by
 (first|(have:=cc1;replace hans:=zy (show zu s=(4,(x:Int)) by rw[hans.o,hnm];simp only[hF]))|(have:=cc2;replace hans:=zy (show zu s=(5,(x:Int)) by rw[hans.o,hnm,hun];simp only[hF]))|(replace hans:=zy (show zu s=(3,(x:Int)) by rw[hans.o];simp only[hF])));replace hF:=zy hF;replace M:=zy M;clear hM;go_wp2_with ((first|go_at_call 42|go_at_call 43|go_at_call 44);apply hC.o.mono;rintro e w3 ⟨v,rfl,hf3,hm⟩;rw[hF.o]at hm;(first|(have:=cc2;obtain⟨ev,⟨g,hg1,rfl,hg2⟩,hEv⟩:=hm)|(obtain⟨g,hg1,rfl,hg2⟩:=hm));(first|(have:=cc2;have M3:=M.o.dft hf3)|(have M3:=M.o.chk hf3));(first|(have:=cc2;have R3:=M3.2)|(have R3:=M3.R));have r0:=R3.c0;have r1:=R3.c1;have g0:=R3.th 0;have g1:=R3.th 1;replace R3:=zy R3;(first|(have:=cc2;replace M3:=zy M3.1)|(replace M3:=zy M3.al));replace hf3:=zy hf3;replace hg2:=zy hg2;(try have:=cc2;replace hEv:=zy hEv));have S2:=V_ R3.o (L_) .nilIface;have q0:=S2.c0;have q1:=S2.c1;refine bodyPost_ret (v:=.tuple #[.agg #[L_,.nilIface],.iface 185 (P_ g)]) xe_ rfl ?_;rw[Q_.o];have h4:=Fr.pa w3 w.heap.size (L_) .nilIface;refine wH M3.o h4 z4_ ?_;rw[hans.o];(first|(have:=cc1;exact .inr (.inr (.inr (.inr (.inl ⟨rfl,g,M_,rfl,h4.bl hg2.o (λe=>M_)⟩)))))|(have:=cc2;exact .inr (.inr (.inr (.inr (.inr ⟨rfl,ev,⟨g,M_,rfl,h4.bl hg2.o (λe=>M_)⟩,(hEv.o.fr h4 (λg hg e=>M_)).ls M_⟩)))))|(exact .inr (.inr (.inr (.inl ⟨rfl,g,M_,rfl,h4.bl hg2.o (λe=>M_)⟩)))))):p:=h
def cwXQ2_{p:Prop}(h:p:=by
 (first|(have:=cc1;have S2:=(V_ R3.o (L_) .nilIface).alloc (.cells #[.slice sa sn sc,.nilIface] 60))|(have S2:=(V_ R3.o (L_) .nilIface).alloc (.cells #[.slice sa sn sc,.iface rT rx] 60)));have q0:=S2.c0;have q1:=S2.c1;refine bodyPost_ret (v:=.tuple #[.agg #[L_,.nilIface],.iface 185 (P_ g)]) xe_ rfl ?_;rw[Q_.o];(first|(have:=cc1;have h4:=(Fr.pa w1 w.heap.size (L_) .nilIface).alloc (.cells #[.slice sa sn sc,.nilIface] 60))|(have h4:=(Fr.pa w1 w.heap.size (L_) .nilIface).alloc (.cells #[.slice sa sn sc,.iface rT rx] 60)));refine wH (hf1.o.trans hf2.o (λx hx e=>M_)) h4 z4_ ?_;rw[hans.o];exact .inr (.inr (.inl ⟨rfl,g,by simp at hg1;omega,rfl,h4.bl hg2.o (λe=>by simp at hg1;omega)⟩))):p:=h
def XQ{w:Aw}{s:BA}{E:cJ}(p:E.At w)(U:yg w)(Y:yk w)(X:db w):Calls prog 27 #[.string s] w (eh w s E):=by
 refine hq_ λa3 Q_=>?_;have D:Fr w (w.alloc (.cells #[L_,.nilIface] 60)) N_:=(A_ w _).alloc _;have i:=B_ w #[L_,.nilIface] 60;have a1:(w.alloc (.cells #[L_,.nilIface] 60)).heap.size=w.heap.size+1:=x8_
 by_cases hl:300<s.size
 .have Z:(300:Int)<(s.size:Int):=M_;have j:=p.l.fr D id;unfold vw at j;replace i:=zy i;go_in;go_wp2;go_region;go_wp2;have q0:=i.o.drew.c0;have q1:=i.o.drew.c1;refine bodyPost_ret (v:=.tuple #[.agg #[L_,.nilIface],.iface E.lt E.lx]) xe_ rfl ?_;rw[Q_.o];exact⟨_,_,_,rfl,⟨_,_,_,rfl⟩,.inl rfl,D.drew,.inr (.inl ⟨by unfold zu;rw[i_ hl],by unfold zu;rw[i_ hl],rfl⟩),λe=>by unfold zu at e;rw[i_ hl]at e;simp at e⟩
 .have Z:¬(300:Int)<(s.size:Int):=M_;have hs:s.size<=300:=M_;have hf1:=D.alloc (.cells #[.string s,O_] 119);have A:PAt ((w.alloc (.cells #[L_,.nilIface] 60)).alloc (.cells #[.string s,O_] 119)) (w.heap.size+1) s 0:=by
   have:=B_ (w.alloc (.cells #[L_,.nilIface] 60)) #[.string s,O_] 119;rwa[a1]at this
  have Z:=World.block_lt_of_cell? w ⟨0,0,none⟩ p.g;have H:=zy (ac A (p.g.fr hf1 id) (by show w.heap.size+1≠_;simp only at Z;omega) hs);replace A:=zy A;replace i:=zy (i.alloc (.cells #[.string s,O_] 119));replace hf1:=zy hf1;cases hp:zi s with
  |error k=>
   have hans:=zy (show zu s=(2,(k:Int)) by unfold zu;rw[n_ hl,hp]);replace hp:=zy hp;go_in;go_wp2_with (go_at_call 41;apply H.o.mono;rintro e w1 ⟨sv,rv,ev,rfl,⟨sa,sn,sc,rfl⟩,J,hf2,hm⟩;rw[hp.o]at hm;obtain⟨g,hg1,rfl,hg2⟩:=hm;have F:=hf2.size;have S:w.heap.size+2<=w1.heap.size:=(by simp at F;omega);have a2:w.heap.size<w1.heap.size:=M_;rcases J with rfl|⟨rT,rx,rfl⟩;have R3:=hf2.bl i M_;have r0:=R3.c0;have r1:=R3.c1;have g0:=R3.th 0;have g1:=R3.th 1;replace R3:=zy R3;replace hf2:=zy hf2;replace hg2:=zy hg2;rotate_left;have R3:=hf2.bl i M_;have r0:=R3.c0;have r1:=R3.c1;have g0:=R3.th 0;have g1:=R3.th 1;revert hf2 hg2 R3;refine h_ λhf2 hg2 R3=>?_)
   .exact cwXQ2_
   .have cc1:=Nat;exact cwXQ2_
  |ok r=>
   obtain⟨ds,t⟩:=r;have hans:=zy (wS hs hp);have a0:=zy (ma hs hp);have j:=zy (xJ hs hp);replace hp:=zy hp;go_in;go_wp2_with (go_at_call 41;apply H.o.mono;rintro e w1 ⟨sv,rv,ev,rfl,_,J,hf2,hm⟩;rw[hp.o]at hm;obtain⟨rfl,xs,o1,o2,T,N⟩:=hm;have F:=hf2.size;have S:w.heap.size+2<=w1.heap.size:=(by simp at F;omega);have a2:w.heap.size<w1.heap.size:=M_;have I:=zy (And.intro (yC.mono (Q:=λg=>w.heap.size+2<=g/\g<w1.heap.size) (⟨o1,o2,T,j.o.2.2.2.2.2⟩:yC w1 _ s ds sv xs) (λg h1 y=>⟨by simp at y;omega,h1⟩)) (N.mono (Q:=λg=>w.heap.size+2<=g/\g<w1.heap.size) (λg h1 y=>⟨by simp at y;omega,h1⟩)));obtain⟨sa,sc,rfl⟩:=zw o1;obtain⟨rT,rx,rfl⟩:=N.iface;have O:=zy (hf2.bl i M_);replace hf2:=zy hf2);have start:H_ (∃q:Nat,Value.int .i64 0=I_ q/\4-q<=4/\RSt w w1 s ds t (.slice sa ds.length sc) (.iface rT rx) xs q ((w1.alloc (.cells #[.slice sa ds.length sc,.iface rT rx] 60)).alloc (.cells #[.func (.func 42) #[] #[],.func (.func 43) #[] #[],.func (.func 44) #[] #[]] 121))):=by
    have K:Fr w1 ((w1.alloc (.cells #[.slice sa ds.length sc,.iface rT rx] 60)).alloc (.cells #[.func (.func 42) #[] #[],.func (.func 43) #[] #[],.func (.func 44) #[] #[]] 121)) N_:=((A_ w1 _).alloc _).alloc _;refine zy ⟨0,rfl,M_,⟨by simp,S,((hf1.o.trans hf2 (λx hx e=>M_)).alloc _).alloc _,M_,⟨I.o.1.fr K u_,I.o.2.fr K u_⟩,λh=>M_,λh=>M_,λh=>M_,K.bl O id,(B_ w1 #[.slice sa ds.length sc,.iface rT rx] 60).alloc _,⟨121,?_⟩,λh=>M_⟩⟩;have:=B_ (w1.alloc (.cells #[.slice sa ds.length sc,.iface rT rx] 60)) #[.func (.func 42) #[] #[],.func (.func 43) #[] #[],.func (.func 44) #[] #[]] 121;simpa using this
   go_loopg [27] 4 (λm v W=>∃q:Nat,v=I_ q/\4-q<=m/\RSt w w1 s ds t (.slice sa ds.length sc) (.iface rT rx) xs q W);case atStart=>exact start
   case round=>
    obtain⟨q,rfl,hm,M⟩:=hrel;have hz:=M.z;have i:w1.heap.size<wr.heap.size:=M_;have i:w.heap.size<wr.heap.size:=M_;obtain⟨lt,i⟩:=M.L;have b0:=M.B.c0;have b1:=M.B.c1;obtain⟨G,l1,l2⟩:=i.d3;have i:q=0\/q=1\/q=2\/q=3:=by have:=M.q3;omega
    rcases i with rfl|rfl|rfl|rfl
    .have hM:=M.d;have hC:=zy (ci hM.1 hM.2 (p.m.fr M.al id) j.o.1 j.o.2.1 (λg hg=>M_));have G:=G;cases hF:xP ds t with
     |nil=>
      replace hF:=zy hF;replace M:=zy M;go_wp2_with (go_at_call 42;apply hC.o.mono;rintro e w3 ⟨v,rfl,hf3,hm⟩;rw[hF.o]at hm;obtain rfl:=hm;have M3:=zy ((M.o.chk hf3).next0 hF));go_roundg 3;case measure=>omega
      case rel=>exact⟨1,rfl,l_,M3⟩
     |cons x r=>
      exact cwXQ1_
    .have hM:=M.d;have hnm:=M.n M_;have hC:=zy (uY hM.1 hM.2 (p.u.fr M.al id) j.o.2.2.2.1 j.o.2.2.2.2.1 ⟨j.o.2.1,j.o.2.2.1⟩ (λg hg=>M_));have G:=l1;cases hF:xi ds t with
     |nil=>
      replace hF:=zy hF;replace M:=zy M;go_wp2_with (go_at_call 43;apply hC.o.mono;rintro e w3 ⟨v,rfl,hf3,hm⟩;rw[hF.o]at hm;obtain rfl:=hm;have M3:=zy ((M.o.chk hf3).next1 hF));go_roundg 2;case measure=>omega
      case rel=>exact⟨2,rfl,l_,M3⟩
     |cons x r=>
      have cc1:=Nat;exact cwXQ1_
    .have hM:=M.d;have hnm:=M.n M_;have hun:=M.u M_;obtain⟨D,F⟩:=a0.o hnm hun;obtain⟨i,C⟩:=Xy hM.1 hp;have A:=zy (i.cells hM.1);have V:=zy (λw3 (hk:gC wr w3)=>(show pK (sp (blkOf wr (λg=>w.heap.size+2<=g/\g<w1.heap.size) s ds xs)) w3 ds xs from A.o.to hM.1 (λfv n zs _ ho=>hk _ _ _ _ _ _ D_ ho)));have hC:=zy (cd (w0:=w) (rT:=rT) (rx:=rx) hM.1 ((yy.refl w).fr M.al l_ (λ_ f=>f.elim)) M.al.size (λg hg=>M_) (λg hg=>M_) p.n hs j.o.2.2.2.1 F D U Y X i C);replace C:=zy C;have G:=l2;cases hF:qO s ds with
     |nil=>
      replace hF:=zy hF;replace M:=zy M;go_wp2_with (go_at_call 44;apply hC.o.mono;rintro e w3 ⟨v,rfl,hf3,hm⟩;rw[hF.o]at hm;obtain⟨rfl,i,A,j,p⟩:=hm;have M3:=zy (M.o.next2 hf3 hF i A (Dfs.mono (lo:=wr.heap.size) ⟨_,V.o w3 p,C,j⟩ M_ (λ_ h=>h))));go_roundg 1;case measure=>omega
      case rel=>exact⟨3,rfl,l_,M3⟩
     |cons x r=>
      have cc2:=Nat;exact cwXQ1_
    .have r0:=M.R.c0;have r1:=M.R.c1;have g0:=M.R.th 0;have g1:=M.R.th 1;have S2:=zy (V_ M.R (.slice sa ds.length sc) (.iface rT rx));replace M:=zy M;go_wp2;have q0:=S2.o.c0;have q1:=S2.o.c1;refine bodyPost_ret (v:=.tuple #[.agg #[.slice sa ds.length sc,.iface rT rx],.nilIface]) xe_ rfl ?_;rw[Q_.o];have h4:=Fr.pa wr w.heap.size (.slice sa ds.length sc) (.iface rT rx);refine⟨_,_,_,rfl,⟨_,_,_,rfl⟩,.inr ⟨_,_,rfl⟩,M.o.al.trans h4 (λx hx e=>M_),.inl ?_,λ_=>?_⟩
     .rw[hans.o,M.o.n M_,M.o.u M_,M.o.e M_];exact⟨rfl,rfl,rfl⟩
     .have up:∀g,w.heap.size+2<=g/\g<w1.heap.size->¬g=w.heap.size:=λg h=>by omega
      have i:=h4.size;have i:=M.o.z;exact⟨ds,t,xs,hs,hp,M.o.n M_,M.o.u M_,(M.o.d.1.fr h4 up).mono (λg h1 y=>⟨M_,h1⟩),(M.o.d.2.fr h4 up).mono (λg h1 y=>⟨M_,h1⟩),((M.o.f M_).fr M.o.d.1 h4 up (λg hg e=>M_)).mono M_ (λg hg=>⟨M_,M_⟩)⟩
def VD{w:Aw}{s:BA}{E:cJ}(g:E.At w)(i:yg w)(k:yk w)(j:db w):Calls prog 27 #[.string s] w (Qe w s E):=by
 apply(XQ g i k j).mono;rintro e w' ⟨sv,rv,g,h1,i,j,k,l,r⟩;refine⟨sv,rv,g,h1,i,j,k,l,λh=>?_⟩;obtain⟨ds,t,xs,g,i,j,k,l,p,_⟩:=r h;exact⟨ds,t,xs,g,i,j,k,l,p⟩
def kdD:DT->Nat
 | .mk k _ _ _ _=>k
section
variable {env:Au} {w:Aw} {P:Az} {d:DT} {t:PT} {v:Ax}
def DaV.leaf(h:DaV env w P d t v)(h1:kdD d≠40)(e:kdD d≠91)(g:kdD d≠114)(i:kdD d≠123):qz d v:=by
 cases h with
 |flat h hs=>exact h
 |branch n h hd=>exact absurd rfl h1
 |row Y hc ho hP hd=>
  rcases hc with⟨rfl,_⟩|⟨rfl,_⟩
  .exact absurd rfl e
  .exact absurd rfl g
 |map Y hl hk ho hP hd=>exact absurd rfl i
def qz.nosym(h:qz d v)(hk:kdD d≠101)(n l:Nat):v≠.iface 157 (.agg #[U_ l,I_ n]):=by
 intro e;cases h with
 |sym n' l' h=>exact hk rfl
 |nothing=>simp only[Value.iface.injEq]at e;exact absurd e.1 D_
 |truth b=>simp only[Value.iface.injEq]at e;exact absurd e.1 D_
 |num c n hc h0 h1=>simp only[Value.iface.injEq]at e;exact absurd e.1 D_
 |text tx h=>simp only[Value.iface.injEq]at e;exact absurd e.1 D_
 |bytes tx h=>simp only[Value.iface.injEq]at e;exact absurd e.1 D_
def qz.long(h:qz d v){n:Int}(hd:d=.mk 105 n noB [] []):qz (.mk 108 n noB [] []) v:=by
 cases h with
 |num c n' hc h0 h1=>
  simp only[DT.mk.injEq,and_true]at hd;obtain⟨_,rfl⟩:=hd;exact .num 108 _ (.inr rfl) h0 h1
 |sym n' l' h=>simp[DT.mk.injEq]at hd
 |nothing=>simp[DT.mk.injEq]at hd
 |truth b=>simp[DT.mk.injEq]at hd
 |text tx h=>simp[DT.mk.injEq]at hd
 |bytes tx h=>simp[DT.mk.injEq]at hd
def DaV.sym_inv(h:DaV env w P d t v)(hd:d=.mk 101 (n:Int) noB [] []):∃l:Nat,v=.iface 157 (.agg #[U_ l,I_ n])/\fW env t n=l/\l<256:=by
 have hf:qz d v:=h.leaf zi_ zi_ zi_ zi_;obtain⟨l,rfl⟩:∃l:Nat,v=.iface 157 (.agg #[U_ l,I_ n]):=by
  cases hf with
  |sym n' l' h=>
   simp only[DT.mk.injEq,true_and,and_true]at hd;obtain rfl:n'=n:=M_;exact⟨l',rfl⟩
  |num c n' hc h0 h1=>
   simp only[DT.mk.injEq]at hd;omega
  |nothing=>simp[DT.mk.injEq]at hd
  |truth b=>simp[DT.mk.injEq]at hd
  |text tx h=>simp[DT.mk.injEq]at hd
  |bytes tx h=>simp[DT.mk.injEq]at hd
 generalize hv:Value.iface 157 (.agg #[U_ l,I_ n])=vv at h;cases h with
 |flat h hs=>exact⟨l,hv.symm,hs n l hv.symm⟩
 |branch n' h hd'=>simp only[Value.iface.injEq]at hv;exact absurd hv.1 D_
 |row Y hc ho hP hd'=>
  simp only[Value.iface.injEq]at hv;rcases hc with⟨_,h⟩|⟨_,h⟩<;>exact absurd (hv.1.trans h) D_
 |map Y hl hk ho hP hd'=>simp only[Value.iface.injEq]at hv;exact absurd hv.1 D_
def DaV.branch_inv(h:DaV env w P d t v){d1:DT}(hd:d=.mk 40 (n:Int) noB [] [d1]):n<=4000/\∃e,v=.iface 153 (.agg #[I_ n,e])/\DaV env w P d1 (zD env t n 0) e:=by
 cases h with
 |flat h hs=>
  cases h with
  |num c n' hc h0 h1=>simp only[DT.mk.injEq]at hd;omega
  |sym n' l' h=>simp[DT.mk.injEq]at hd
  |nothing=>simp[DT.mk.injEq]at hd
  |truth b=>simp[DT.mk.injEq]at hd
  |text tx h=>simp[DT.mk.injEq]at hd
  |bytes tx h=>simp[DT.mk.injEq]at hd
 |branch n' h hd'=>
  simp only[DT.mk.injEq,true_and,and_true,List.cons.injEq]at hd;obtain⟨h1,rfl⟩:=hd;obtain rfl:n'=n:=M_;exact⟨h,_,rfl,hd'⟩
 |row Y hc ho hP hd'=>
  simp only[DT.mk.injEq]at hd;rcases hc with⟨h,_⟩|⟨h,_⟩<;>omega
 |map Y hl hk ho hP hd'=>simp[DT.mk.injEq]at hd
def DaV.row_inv(h:DaV env w P d t v){c:Nat}{ds:Ae}(hd:d=.mk c 0 noB [] ds)(hc:c=91\/c=114):∃(lv:Value) (Y:Nat->Value),v=.iface (if c=91 then 147 else 155) lv/\w.ownsRow 0 64 1 lv ds.length ((List.range ds.length).flatMap λi=>[Y i])/\∀i d,ds[i]?=some d->DaV env w P d (zD env t 0 i) (Y i):=by
 cases h with
 |flat h hs=>
  cases h with
  |num c n' hc h0 h1=>simp only[DT.mk.injEq]at hd;omega
  |sym n' l' h=>simp only[DT.mk.injEq]at hd;omega
  |nothing=>simp only[DT.mk.injEq]at hd;omega
  |truth b=>simp only[DT.mk.injEq]at hd;omega
  |text tx h=>simp only[DT.mk.injEq]at hd;omega
  |bytes tx h=>simp only[DT.mk.injEq]at hd;omega
 |branch n' h hd'=>simp only[DT.mk.injEq]at hd;omega
 |row Y hc' ho hP hd'=>
  simp only[DT.mk.injEq,true_and]at hd;obtain⟨rfl,rfl⟩:=hd;refine⟨_,Y,?_,ho,hd'⟩;rcases hc' with⟨rfl,rfl⟩|⟨rfl,rfl⟩
  .rw[i_ rfl]
  .rw[n_ D_]
 |map Y hl hk ho hP hd'=>simp only[DT.mk.injEq]at hd;omega
def DaV.map_inv(h:DaV env w P d t v){ks:Dx}{ds:Ae}(hd:d=.mk 123 0 noB ks ds):∃(lv:Value) (Y:Nat->Value),v=.iface 150 lv/\ks.length=ds.length/\(∀k∈ks,k.size<=4000)/\w.ownsRow 0 206 2 lv ds.length ((List.range ds.length).flatMap λi=>[.string (ks.getD i noB),Y i])/\∀i d,ds[i]?=some d->DaV env w P d (zD env t 0 i) (Y i):=by
 cases h with
 |flat h hs=>
  cases h with
  |num c n' hc h0 h1=>simp only[DT.mk.injEq]at hd;omega
  |sym n' l' h=>simp only[DT.mk.injEq]at hd;omega
  |nothing=>simp only[DT.mk.injEq]at hd;omega
  |truth b=>simp only[DT.mk.injEq]at hd;omega
  |text tx h=>simp only[DT.mk.injEq]at hd;omega
  |bytes tx h=>simp only[DT.mk.injEq]at hd;omega
 |branch n' h hd'=>simp only[DT.mk.injEq]at hd;omega
 |row Y hc' ho hP hd'=>
  simp only[DT.mk.injEq]at hd;rcases hc' with⟨h,_⟩|⟨h,_⟩<;>omega
 |map Y hl hk ho hP hd'=>
  simp only[DT.mk.injEq,true_and]at hd;obtain⟨rfl,rfl⟩:=hd;exact⟨_,Y,rfl,hl,hk,ho,hd'⟩
end
def U8(w:Aw)(B g:Nat):Prop:=B<=g/\∃c fz,w.heap[g]?=some (.cells c 5 fz)
def FrU(B:Nat)(w w':Aw):Prop:=Fr w w' (U8 w B)
section
variable {a b c w w':Aw} {B:Nat} {v:Ax} {x:BA}
def FrU.refl(w:Aw):FrU B w w:=A_ _ _
def FrU.trans(h:FrU B a b)(k:FrU B b c):FrU B a c:=Fr.trans h k (λx hx ⟨h1,c,fz,h2⟩=>by
 by_cases e:U8 a B x
 .exact e
 .exact⟨h1,c,fz,by rw[<- h.block x hx e];exact h2⟩)
def FrU.all(h:FrU B w w'):Fr w w' (λg=>B<=g):=Fr.mono h (λ_ _ e=>e.1)
def FrU.of(h:Fr w w' N_):FrU B w w':=Fr.mono h v_
def FrU.size(h:FrU B w w'):w.heap.size<=w'.heap.size:=Fr.size h
def FrU.drew(h:FrU B w w'):FrU B w w'.drew:=Fr.drew h
def yi.u8(h:yi w B v x){g:Nat}(e:v.ownBlock=some g):U8 w B g:=by
 refine⟨(h.own e).1,?_⟩;rcases h.2 with⟨hn,_⟩|⟨g',i,i,hv,hb,hg,_⟩
 .rw[hn]at e;simp[Value.ownBlock]at e
 .rw[hv]at e;simp[Value.ownBlock]at e;subst e;exact⟨_,_,hg⟩
def yi.frx{S:Az}(h:yi w B v x)(hf:Fr w w' S)(e:∀g,v.ownBlock=some g->¬S g):yi w' B v x:=zj h hf e
def yi.si(h:yi w B v x)(hs:zq w w'):yi w' B v x:=h.frx ((A_ w N_).si hs) u_
def FrU.bl(h:FrU B w w'){k:Nat}{cs:Ay}{t:Av}(hb:Blk w k cs t)(g:t≠5):Blk w' k cs t:=Fr.bl h hb (λ⟨_,c,fz,e⟩=>by
 unfold Blk at hb
 rw[hb]at e
 simp at e
 exact g e.2.1)
end
def yY(w:Aw)(B:Nat)(b:BA)(e:Ak)(w':Aw):Prop:=∃v',e=.returned v'/\yi w' B v' b/\FrU B w w'
def yY.pre{w0 w w':Aw}{B:Nat}{b:BA}{e:Ak}(h:yY w B b e w')(hf:FrU B w0 w):yY w0 B b e w':=by
 obtain⟨v,h1,g,i⟩:=h;exact⟨v,h1,g,hf.trans i⟩
def qx{i:Dy}{j:List Oper}{a:Act}(p:o.guard=none)(s x:Operand)(ho:o.op=.call { callee:=.builtin .append,args:=#[s,x],argTypes:=#[102,102] }){B g:Nat}{w:Aw}{v:Ax}{b:BA}{y:Int}(c:Nat)(hy:y=(c:Int))(hc:c<256)(hb:yi w B v b)(l:b.size<=100000000)(hB:B<=w.heap.size)(hg:g=w.heap.size)(hs:a.eval s=v)(hx:a.eval x=S_ g 1 1)(h:∀l w',yi w' B l (b++bts [c])->FrU B w w'->wpList prog i Q j (a.put o.dst l) w'):wpList prog i Q (o::j) a (w.alloc (.cells #[.int .u8 y] 5)):=by
 subst hy;obtain⟨ti,i,j,l,r⟩:=info_parts FR;refine wpList_append_own_at _ p _ _ 102 ho B 5 ti _ 1 1 eH i j l r rfl D_ _ b.size (Lib.strCells b) hs (World.ownsRow.alloc hb _) ⟨g,0,none⟩ 1 1 [U_ c] hx rfl (zF _ #[U_ c] _ _ hg) zj_ xr_ M_ x1_ ?_;intro p i l j _ _;refine h p i ?_ ?_
 .unfold yi;rw[vy,pN hc,ar_,zU];exact l
 .exact Fr.mono (((A_ w _).alloc _).gw j (λk hk _=>hk):Fr w i (λg=>v.ownBlock=some g)) (λg _ e=>hb.u8 e)
def cq33_{p:Prop}(h:p:=by
 obtain⟨ti,l,r,y,z⟩:=info_parts FR;(first|(have:=cc1;obtain⟨C,i,hr,A,j,_⟩:=Lib.run_append_own_string (P:=prog) w B 102 9 o.type 5 ti eH pR l r y z _ b.size (Lib.strCells b) hb t (by unfold maxLen;omega) M_ hB)|(refine Lib.wpList_append_own_string _ hgd _ _ 102 9 ho B 5 ti eH pR l r y z _ b.size (Lib.strCells b) hs hb t hx (by unfold maxLen;omega) M_ hB ?_));(first|(have:=cc1;unfold Oper.wp execOp;simp only[ho,resolve,invoke,builtin,Sem.run_bind,Sem.run_pure,Result.andThen_ok,List.map_toArray,av_,ba_,hs,hx,hr])|(intro C i A j _));refine h C i ?_ ?_
 .unfold yi;rw[vy,ar_];exact A
 .exact Fr.mono ((A_ w _).gw j (λk hk _=>hk):Fr w i (λg=>v.ownBlock=some g)) (λg _ e=>hb.u8 e)):p:=h
def GC{ops:Dy}{rest:List Oper}{a:Act}(hgd:o.guard=none)(s x:Operand)(ho:o.op=.call { callee:=.builtin .append,args:=#[s,x],argTypes:=#[102,9] }){B:Nat}{w:Aw}{v:Ax}{b t:BA}(hb:yi w B v b)(hsz:b.size<=100000000)(ht:t.size<=4000)(hB:B<=w.heap.size)(hs:a.eval s=v)(hx:a.eval x=.string t)(h:∀v' w',yi w' B v' (b++t)->FrU B w w'->wpList prog ops Q rest (a.put o.dst v') w'):wpList prog ops Q (o::rest) a w:=by
 exact cq33_
def xC(w0:Aw):Prop:=∀(W:World) (B:Nat),w0.heap.size<=B->B<=W.heap.size->yy w0 W->∀(u:Value) (b:BA) (n:Int),-9223372036854775808<=n->n<=9223372036854775807->yi W B u b->b.size<=100000000->
 Calls prog 56 #[u,Z_ n,Z_ 10] W (yY W B (b++vF n))
def Qh{w0:Aw}(h:Lib.TabIs prog w0 "internal/strconv.uint64pow10" .u64 Lib.pow10Tab):xC w0:=by
 intro W B h0 hB j u b n r y hb hs
 have l:Lib.TabBelow prog B W "internal/strconv.uint64pow10" .u64 Lib.pow10Tab:=λW' p=>(show yy w0 W' from λg hg=>(p.block g M_).trans (j g hg)).var h
 apply(Tryz.strconv_AppendInt_10 B b.size n r y u (Lib.strCells b) W hb hB M_ l).mono;rintro e w' ⟨z,rfl,ho,i,hk⟩;refine⟨z,rfl,?_,i.os,i.tape,i.output,i.size,λk p l=>?_⟩
 .unfold yi;rw[vy,ar_];have j:(vF n).size=(Lib.itoa n).length:=by unfold vF;show(Lib.itoa n).toArray.size=_;rw[List.size_toArray]
  rw[j];exact ho
 .by_cases j:k<B
  .exact i.block k j
  .have i:W.heap[k]?=some W.heap[k]:=Array.getElem?_eq_getElem p;rw[i];refine hk k _ i x8_ (λc j e=>l ⟨M_,c,j,by rw[i,e]⟩)
section
variable {w:Aw} {B:Nat} {u:Ax} {b:BA}
def Um{t:Ar}(hb:yi w B u b)(hB:B<=w.heap.size)(hs:b.size<=100000000):Calls prog 55 #[u,.bool t] w (yY w B (b++if t=true then bts [84] else bts [70])):=by
 refine hq_ λk i=>?_;replace hb:=zy hb;cases t
 .go_in;go_wp2_with (at_builtin;refine qx rfl _ _ rfl 70 rfl D_ hb hs hB rfl rfl rfl ?_;intro h j e g);try go_ret
  rw[i.o];exact⟨h,rfl,e,g⟩
 .go_in;go_wp2_with (at_builtin;refine qx rfl _ _ rfl 84 rfl D_ hb hs hB rfl rfl rfl ?_;intro h j e g);try go_ret
  rw[i.o];exact⟨h,rfl,e,g⟩
def XM{c:Nat}{y:Int}{tx:BA}(hy:y=(c:Int))(hc:c<256)(i:tx.size<=4000)(hb:yi w B u b)(hB:B<=w.heap.size)(hs:b.size<=90000000):Calls prog 57 #[u,.int .u8 y,.string tx] w (yY w B (b++(bts [c]++(tx++bts [c])))):=by
 subst hy;refine hq_ λe j=>?_;replace hb:=zy hb;have e:(b++bts [c]).size<=90000001:=by rw[ar_,zU];simp only[ap_];omega
 have e:(b++bts [c]++tx).size<=90004001:=yn_
 go_in;go_wp2_with (first
  |(at_builtin;refine qx rfl _ _ rfl c rfl hc hb M_ hB rfl rfl rfl ?_;intro e e e g;have p:=g.size;replace e:=zy e;replace g:=zy g)
  |(at_builtin;refine GC rfl _ _ rfl e M_ i M_ rfl rfl ?_;intro i i i h;have p:=h.size;replace i:=zy i;replace h:=zy h)
  |(at_builtin;refine qx rfl _ _ rfl c rfl hc i M_ M_ rfl rfl rfl ?_;intro e i k l))
 try go_ret
 rw[j.o];refine⟨e,rfl,?_,(g.o.trans h).trans l⟩;rw[<- b9_,<- b9_];exact k
def Wx(hb:yi w B u b)(hB:B<=w.heap.size)(hs:b.size<=100000000):Calls prog 93 #[u,I_ n] w (yY w B (b++if n=0 then noB else bts [44])):=by
 refine hq_ λi e=>?_;replace hb:=zy hb;by_cases hn:n=0
 .subst hn;go_in;go_wp2;try go_ret
  rw[e.o];show yY w B (b++noB) _ _;rw[gF];exact⟨u,rfl,hb,FrU.refl w⟩
 .have i:((n:Int)==0)=false:=x1_
  rw[n_ hn]at e;go_in;go_wp2_with (at_builtin;refine qx rfl _ _ rfl 44 rfl D_ hb hs hB rfl rfl rfl ?_;intro i j g h);try go_ret
  rw[e.o];exact⟨i,rfl,g,h⟩
end
mutual
def eN(env:Au):∀(d:DT) (t:PT),okD d->(txT env d t).size+4011<=8022*ndT d
 | .mk k n tx ks ds,t,h=>by
  unfold okD at h;have h1:=nU h.1.1 h.1.2.1;have e:=h.2.2.1;have e:=gD env t n.toNat ks ds 0 0 (k==123) h.2.2.2.1 h.2.2.2.2.2;have e:=gD env t n.toNat ks ds 0 0 false h.2.2.2.1 h.2.2.2.2.2;unfold ndT txT;split
  .rw[zU];simp only[ay_,a1_];omega
  split
  .split<;>(rw[zU];simp only[ay_,a1_];omega)
  split
  .omega
  split
  .simp only[ar_,zU,ay_,a1_];omega
  split
  .simp only[ar_,zU,ay_,a1_];omega
  split
  .rw[zU];simp only[ay_,a1_];omega
  split
  .simp only[ar_,zU,ay_,a1_];omega
  .unfold eu;split
   .simp only[ar_,zU,ay_,a1_];omega
   split<;>(simp only[ar_,zU,ay_,a1_];omega)
def gD(env:Au)(t:PT)(n:Nat):∀(ks:List BA) (ds:List DT) (i q:Nat) (keyed:Bool),(∀x∈ks,x.size<=4000)->qL ds->(jn q (vU env t n i keyed ks ds)).size<=8022*zY ds
 | _,[],_,_,_,_,_=>by simp only[vU,jn];show(0:Nat)<=_;omega
 |ks,d::r,i,q,keyed,hk,h=>by
  unfold qL at h;have h1:=eN env d (zD env t n i) h.1;have e:=gD env t n ks.tail r (i+1) (q+1) keyed (λx hx=>hk x (List.mem_of_mem_tail hx)) h.2;have e:(ks.headD noB).size<=4000:=by
   cases ks with
   |nil=>exact al_ _
   |cons a l=>exact hk a x8_
  have e:(if q=0 then noB else bts [44]).size<=1:=by
   split
   .exact al_ _
   .rw[zU];exact l_
  have e:(if keyed=true then ks.headD noB++bts [58] else noB).size<=4001:=by
   split
   .rw[ar_,zU];simp only[ay_,a1_];omega
   .exact al_ _
  simp only[vU,jn,zY];simp only[ar_];omega
end
def tG(env:Au)(t:PT)(n:Nat)(keyed:Ar):∀(ds:List DT) (i:Nat) (ks:List BA) (q:Nat),(vU env t n i keyed ks ds).take q=vU env t n i keyed ks (ds.take q)
 | [],i,ks,q=>by simp[vU]
 |d::r,i,ks,0=>by simp[vU]
 |d::r,i,ks,q+1=>by simp only[vU,List.take_succ_cons];rw[tG env t n keyed r (i+1) ks.tail q]
def pL(env:Au)(t:PT)(n:Nat)(keyed:Ar)(ks:Dx)(ds:Ae)(q:Nat)(hk:∀x∈ks,x.size<=4000)(h:qL ds):(upT env t n keyed ks ds q).size<=8022*zY (ds.take q):=by
 unfold upT;rw[tG];exact gD env t n ks (ds.take q) 0 0 keyed hk (tL h q)
def Zf(w0:Aw)(env:Au)(m:Nat):Prop:=∀(d:DT),ndT d<=m->∀(w:World) (P:Nat->Prop) (B:Nat) (t:PT) (v u:Value) (b:BA),DaV env w P d t v->(∀g,P g->g<B)->w0.heap.size<=B->B<=w.heap.size->yy w0 w->yi w B u b->b.size+8022*ndT d<=90000000->
 Calls prog 33 #[u,v] w (yY w B (b++txT env d t))
def yy.fru{w0 w w':Aw}{B:Nat}(h:yy w0 w)(hf:FrU B w w')(h0:w0.heap.size<=B)(hB:B<=w.heap.size):yy w0 w':=h.fr hf.all M_ (λg e=>M_)
section
variable {w0 w:Aw} {env:Au} {m:Nat} {P:Az} {B:Nat} {u:Ax} {b:BA} {t:PT}
def cwMF1_{p:Prop}(h:p:=by
 have hlt':¬((q:Int)<(ds.length:Int)):=M_;(first|(have:=cc1;have hsz:=pL env t 0 true ks ds q hk.o hok.o)|(have hsz:=pL env t 0 false [] ds q x8_ hok.o));rw[bc_ M_]at hsz;rw[Xt M_]at hBu hsz;(first|(have:=cc1;have e:(b1++jn 0 (vU env t 0 0 true ks ds)).size<=100000000:=yn_)|(have e:(b1++jn 0 (vU env t 0 0 false [] ds)).size<=100000000:=yn_))
 clear hsz;replace hFw:=zy hFw;replace hBu:=zy hBu;go_wp2_with (at_builtin;(first|(have:=cc1;refine qx rfl _ _ rfl 125 rfl D_ hBu.o e M_ rfl rfl rfl ?_)|(refine qx rfl _ _ rfl c rfl hc256 hBu.o e M_ rfl rfl rfl ?_));intro e e g i);try go_ret
 rw[Q_.o];exact⟨_,rfl,g,hFw.o.trans i⟩):p:=h
def MF(J:Zf w0 env m){ds:Ae}{la:Al}{lc:Nat}{Y:Ah}{o c:Nat}{y z:Int}(hy:y=(o:Int))(hz:z=(c:Int))(E:o<256)(hc256:c<256)(hm:zY ds<=m)(hP:∀g,P g->g<B)(h0:w0.heap.size<=B)(hB:B<=w.heap.size)(A:yy w0 w)(hu:yi w B u b)(hs:b.size+8022*(1+zY ds)<=90000000)(ho:w.ownsRow 0 64 1 (.slice la ds.length lc) ds.length ((List.range ds.length).flatMap λi=>[Y i]))(hl:∀g,(Value.slice la ds.length lc).ownBlock=some g->P g)(hd:∀i d,ds[i]?=some d->DaV env w P d (zD env t 0 i) (Y i)):Calls prog 58 #[u,.int .u8 y,.slice la ds.length lc,.int .u8 z] w (yY w B (b++(bts [o]++(jn 0 (vU env t 0 0 false [] ds)++bts [c])))):=by
 subst hy;subst hz;refine hq_ λF Q_=>?_;have hok:qL ds:=bo (λi d e=>(hd i d e).dat.ok);have F:=jS ds;obtain⟨b1,j⟩:=e_ (b++bts [o]);have F:b1.size=b.size+1:=by rw[j,ar_,zU];rfl
 have C:b++(bts [o]++(jn 0 (vU env t 0 0 false [] ds)++bts [c]))=(b1++jn 0 (vU env t 0 0 false [] ds))++bts [c]:=by rw[j];simp only[b9_]
 rw[C]at Q_;have start:H_ (∀(k:Value) (W:World),yi W B k (b++bts [o])->FrU B w W->∃q:Nat,Value.int .i64 0=I_ q/\q<=ds.length/\ds.length+1-q<=ds.length+1/\yi W B k (b1++upT env t 0 false [] ds q)/\FrU B w W):=zy λk W h1 p=>⟨0,rfl,al_ _,M_,by rw[eP,gF,j];exact h1,p⟩;replace ho:=zy ho;replace hd:=zy hd;replace hl:=zy hl;replace hP:=zy hP;replace hok:=zy hok;replace hu:=zy hu;replace A:=zy A;go_in;go_wp2_with (at_builtin;refine qx rfl _ _ rfl o rfl E hu M_ hB rfl rfl rfl ?_;intro G I C E;have F:=zy (start.o G I C E));go_loopg [0,9,10,17] (ds.length+1) (λm C E E v W=>∃q:Nat,v=I_ q/\q<=ds.length/\ds.length+1-q<=m/\yi W B C (b1++upT env t 0 false [] ds q)/\FrU B w W);case atStart=>exact F
 case round=>
  obtain⟨q,rfl,C,C,hBu,hFw⟩:=hrel;have C:=hFw.size;by_cases D:q<ds.length
  .have hlt':(q:Int)<(ds.length:Int):=M_;have l:ds[q]?=some ds[q]:=ak_ D;generalize ds[q]=d at l;obtain⟨K,L⟩:=xM l;have hsz:=pL env t 0 false [] ds q x8_ hok;have F:b1++upT env t 0 false [] ds (q+1)=(b1++upT env t 0 false [] ds q++if q=0 then noB else bts [44])++txT env d (zD env t 0 q):=by
    rw[eB l];simp only[itT,be_,if_false,bY,b9_]
   have I:(if q=0 then noB else bts [44]).size<=1:=by
    split
    .exact al_ _
    .rw[zU];exact l_
   obtain⟨g,C,C⟩:=zp ho M_;cases C;have hv:=hd.o q d l;obtain⟨T,x,hx⟩:=hv.iface;rw[hx]at hv;have C:∀g,P g->¬B<=g:=λg h=>by have:=hP.o g h;omega
   have E:wr.cell? ⟨g,q,none⟩=some (.iface T x):=by
    rw[<- hx];exact kX (zj ho hFw.all (λg e=>C g (hl.o g e))) D
   have G:=zy (Wx (n:=q) hBu M_ yn_);have H:H_ (∀k w1,yi w1 B k (b1++upT env t 0 false [] ds q++if q=0 then noB else bts [44])->FrU B wr w1->Calls prog 33 #[k,.iface T x] w1 (yY w1 B (b1++upT env t 0 false [] ds (q+1)))):=zy (λk w1 h1 p=>by
    rw[F]
    have E:=p.size
    have E:=hFw.trans p
    exact J d M_ w1 P B _ _ _ _ (hv.fr E.all C) hP h0 M_ (A.o.fru E h0 hB) h1 (by simp only[ar_];omega))
   have p:q<=90000000:=M_;replace hFw:=zy hFw;replace l:=zy l;replace hBu:=zy hBu;go_wp2_with (first
    |(go_at_call 93;apply G.o.mono;rintro e w1 ⟨k,rfl,j,r⟩;replace r:=zy r;replace j:=zy j)
    |(go_at_call 33;apply(H.o _ _ j r).mono;rintro e j ⟨j,rfl,j,k⟩;replace k:=zy k;replace j:=zy j))
   go_roundg (ds.length+1-(q+1));case measure=>omega
   case rel=>exact⟨q+1,by simp,D,l_,j,(hFw.o.trans r).trans k⟩
  .exact cwMF1_
end
def ZO{a:Act}{K:Ce}(s x:Operand)(ho:o.op=.call { callee:=.builtin .append,args:=#[s,x],argTypes:=#[102,102] }){B g:Nat}{w W:Aw}{v:Ax}{b:BA}{y:Int}(c:Nat)(hy:y=(c:Int))(hc:c<256)(hb:yi w B v b)(i:b.size<=100000000)(hB:B<=w.heap.size)(hg:g=w.heap.size)(hs:a.eval s=v)(hx:a.eval x=S_ g 1 1)(j:W=w.alloc (.cells #[.int .u8 y] 5))(h:∀i w',yi w' B i (b++bts [c])->FrU B w w'->K (a.put o.dst i) w'):o.wp prog a W K Q:=by
 subst hy;subst j;obtain⟨ti,l,p,r,z⟩:=info_parts FR;obtain⟨C,i,hr,A,j,_,_⟩:=run_append_own_at (P:=prog) (w.alloc (.cells #[U_ c] 5)) B 102 o.type 5 ti _ 1 1 eH l p r z rfl D_ _ b.size (Lib.strCells b) (World.ownsRow.alloc hb _) ⟨g,0,none⟩ 1 1 [U_ c] rfl (zF _ #[U_ c] _ _ hg) zj_ xr_ M_ x1_;unfold Oper.wp execOp;simp only[ho,resolve,invoke,builtin,Sem.run_bind,Sem.run_pure,Result.andThen_ok,List.map_toArray,av_,ba_,hs,hx,hr];refine h C i ?_ ?_
 .unfold yi;rw[vy,pN hc,ar_,zU];exact A
 .exact Fr.mono (((A_ w _).alloc _).gw j (λk hk _=>hk):Fr w i (λg=>v.ownBlock=some g)) (λg _ e=>hb.u8 e)
def Ft{a:Act}{K:Ce}(s x:Operand)(ho:o.op=.call { callee:=.builtin .append,args:=#[s,x],argTypes:=#[102,9] }){B:Nat}{w:Aw}{v:Ax}{b t:BA}(hb:yi w B v b)(hsz:b.size<=100000000)(ht:t.size<=4000)(hB:B<=w.heap.size)(hs:a.eval s=v)(hx:a.eval x=.string t)(h:∀v' w',yi w' B v' (b++t)->FrU B w w'->K (a.put o.dst v') w'):o.wp prog a w K Q:=by
 have cc1:=Nat
 exact cq33_
section
variable {w0 w:Aw} {env:Au} {m:Nat} {P:Az} {B:Nat} {u:Ax} {b:BA} {t:PT}
def Cm(ih:Zf w0 env m){ks:Dx}{ds:Ae}{la:Al}{lc:Nat}{Y:Ah}(hm:zY ds<=m)(hP:∀g,P g->g<B)(h0:w0.heap.size<=B)(hB:B<=w.heap.size)(R:yy w0 w)(hu:yi w B u b)(hs:b.size+8022*(1+zY ds)<=90000000)(hk:∀k∈ks,k.size<=4000)(ho:w.ownsRow 0 206 2 (.slice la ds.length lc) ds.length ((List.range ds.length).flatMap λi=>[.string (ks.getD i noB),Y i]))(hl:∀g,(Value.slice la ds.length lc).ownBlock=some g->P g)(hd:∀i d,ds[i]?=some d->DaV env w P d (zD env t 0 i) (Y i)):Calls prog 59 #[u,.slice la ds.length lc] w (yY w B (b++(bts [123]++(jn 0 (vU env t 0 0 true ks ds)++bts [125])))):=by
 refine hq_ λb5 Q_=>?_;have hok:qL ds:=bo (λi d e=>(hd i d e).dat.ok);have b9:=jS ds;obtain⟨b1,l⟩:=e_ (b++bts [123]);have b7:b1.size=b.size+1:=by rw[l,ar_,zU];rfl
 have a2:b++(bts [123]++(jn 0 (vU env t 0 0 true ks ds)++bts [125]))=(b1++jn 0 (vU env t 0 0 true ks ds))++bts [125]:=by rw[l];simp only[b9_]
 rw[a2]at Q_;have start:H_ (∀(p:Value) (W:World),yi W B p (b++bts [123])->FrU B w W->∃q:Nat,Value.int .i64 0=I_ q/\q<=ds.length/\ds.length+1-q<=ds.length+1/\yi W B p (b1++upT env t 0 true ks ds q)/\FrU B w W):=zy λp W h1 H=>⟨0,rfl,al_ _,M_,by rw[eP,gF,l];exact h1,H⟩;replace ho:=zy ho;replace hd:=zy hd;replace hl:=zy hl;replace hP:=zy hP;replace hok:=zy hok;replace hu:=zy hu;replace R:=zy R;replace hk:=zy hk;go_in;go_wp2_with (at_builtin;refine qx rfl _ _ rfl 123 rfl D_ hu M_ hB rfl rfl rfl ?_;intro v5 w5 a0 a3;have a5:=zy (start.o v5 w5 a0 a3));go_loopg [0,5,6,12] (ds.length+1) (λm v0 v5 v6 v W=>∃q:Nat,v=I_ q/\q<=ds.length/\ds.length+1-q<=m/\yi W B v0 (b1++upT env t 0 true ks ds q)/\FrU B w W);case atStart=>exact a5
 case round=>
  obtain⟨q,rfl,hq,b8,hBu,hFw⟩:=hrel;have d2:=hFw.size;by_cases Z:q<ds.length
  .have hlt':(q:Int)<(ds.length:Int):=M_;have A:ds[q]?=some ds[q]:=ak_ Z;generalize ds[q]=d at A;obtain⟨t1,t2⟩:=xM A;have hsz:=pL env t 0 true ks ds q hk hok;obtain⟨K,S⟩:=x_ (ks.getD q noB);obtain⟨C,I⟩:=e_ (b1++upT env t 0 true ks ds q++(if q=0 then noB else bts [44]));have a4:b1++upT env t 0 true ks ds (q+1)=((C++K)++bts [58])++txT env d (zD env t 0 q):=by
    rw[eB A,I];simp only[itT,if_true,S,b9_]
   have a8:(if q=0 then noB else bts [44]).size<=1:=by
    split
    .exact al_ _
    .rw[zU];exact l_
   have a7:K.size<=4000:=by
    rw[<- S,aw_];cases b4:ks[q]? with
    |none=>exact al_ _
    |some y=>exact hk.o y (ag_ b4)
   have a6:C.size<=b1.size+8022*zY (ds.take q)+1:=by rw[I];simp only[ar_];omega
   obtain⟨g,b6,a9⟩:=zp ho M_;cases a9;have hv:=hd.o q d A;obtain⟨T,x,hx⟩:=hv.iface;rw[hx]at hv;have X:∀g,P g->¬B<=g:=λg h=>by have:=hP.o g h;omega
   obtain⟨m0,m1⟩:=ry (K:=λi=>ks.getD i noB) (zj ho hFw.all (λg e=>X g (hl.o g e))) Z;rw[hx]at m1;simp only[S]at m0;obtain⟨D,F⟩:=e_ (wr.alloc (.cells #[.string K,.iface T x] 206));have E:Fr wr D N_:=F▸(A_ wr _).alloc _;have G:Blk D wr.heap.size [.string K,.iface T x] 206:=F▸B_ wr #[.string K,.iface T x] 206;have S:=E.size;have U:∀W,Fr D W N_->Calls prog 93 #[u0,I_ q] W (λe w'=>∃p,e=.returned p/\H_ (yi w' B p C/\FrU B w w'/\Blk w' wr.heap.size [.string K,.iface T x] 206)/\w'.cell? ⟨wr.heap.size,0,none⟩=some (.string K)):=by
    intro W J;have hz:=J.size;have S:yi W B u0 (b1++upT env t 0 true ks ds q):=(yi.fr (yi.fr hBu E u_) J u_);apply(Wx (n:=q) S M_ yn_).mono;rintro e w1 ⟨p,rfl,l,z⟩;have H:=z.bl (J.bl G (λf=>f)) D_;refine⟨p,rfl,zy ⟨I▸l,hFw.trans (((FrU.of E).trans (FrU.of J)).trans z),H⟩,?_⟩;rw[H.cell 0];rfl
   have O:∀W p,yi W B p ((C++K)++bts [58])->FrU B w W->Calls prog 33 #[p,.iface T x] W (yY W B (b1++upT env t 0 true ks ds (q+1))):=by
    intro W p l z;have hz:=z.size;rw[a4];exact ih d M_ W P B _ _ p _ (hv.fr z.all X) hP h0 M_ (R.o.fru z h0 hB) l yl_
   have z:q<=90000000:=M_;have z:C.size<=90000000:=M_;have z:(C++K).size<=90004000:=yn_
   replace U:=zy U;replace O:=zy O;replace hFw:=zy hFw;replace A:=zy A;replace hBu:=zy hBu;replace E:=zy E;replace G:=zy G;go_wp2;rw[<- F];replace F:=zy F;refine tR_ (λW=>z_ W wr.heap.size 0 (.string K)) ?_;refine tY_ 0 ?_;refine tY_ 1 ?_;refine tY_ 3 ?_;refine tY_ 4 ?_;refine zV 2 rfl K_ (by have:=G.o.cell 0;exact this) (λr j=>?_);go_simp;apply(U.o _ ((A_ D _).drew)).mono;rintro e w1 ⟨p,rfl,l,c1⟩;refine j _ _ ?_;refine zV 5 rfl K_ c1 (λr j=>?_);rw[i_ (show Region.wanted _ _=true by kernel_rfl)];refine Ft _ _ rfl l.o.1 M_ a7 (aj_ hB l.o.2.1.size) rfl rfl ?_;intro v6 D z A;refine j _ _ ?_;have p:=A.bl l.o.2.2 D_;have E:=p.c0;have F:=p.c1;have M:=zy (l.o.2.1.trans A);replace z:=zy z;replace p:=zy p;refine tY_ 6 ?_;refine zO K_ E ?_ _;go_wp2;refine tR_ (λW=>z_ W wr.heap.size 1 (.iface T x)) ?_;refine tY_ 0 ?_;refine tY_ 3 ?_;refine tY_ 4 ?_;refine zV 1 rfl K_ F (λr j=>?_);go_simp;refine j _ _ ?_;have A:=M.o.size;have B7:=(p.o.alloc (.cells #[.int .u8 58] 5));have l:=B7.c1;refine zV 2 rfl K_ l (λr j=>?_);rw[i_ (show Region.wanted _ _=true by kernel_rfl)];refine ZO _ _ rfl 58 rfl D_ (w:=D.drew) (yi.si z (zq.drew _)) M_ (aj_ hB A) rfl rfl rfl rfl ?_;intro l l a1 V;refine j _ _ ?_;have N:=M.o.drew.trans V;have L:=V.bl ((((A_ D N_).drew)).bl p id) D_;have l:=L.c1;refine zV 5 rfl K_ l (λr j=>?_);go_simp;apply(O.o _ _ a1 N).mono;rintro e l ⟨l,rfl,l,p⟩;refine j _ _ ?_;have r:=(p.bl L D_).c1;have j:=zy (N.trans p);replace l:=zy l;refine tY_ 6 ?_;refine zO K_ r ?_ _;go_wp2;go_roundg (ds.length+1-(q+1));case measure=>omega
   case rel=>exact⟨q+1,by simp,Z,l_,l,j⟩
  .have cc1:=Nat;exact cwMF1_
end
section
variable {w0 w:Aw} {env:Au} {m:Nat} {P:Az} {B:Nat} {u:Ax} {b:BA} {t:PT}
def Zs(env:Au)(n:Nat)(d:DT)(t:PT):txT env (.mk 40 (n:Int) noB [] [d]) t=bts [60]++(vF n++(bts [58]++(txT env d (zD env t n 0)++bts [62]))):=by
 conv=>lhs;unfold txT
 rw[n_ D_,n_ D_,n_ D_,n_ D_,n_ D_,n_ D_,i_ rfl];simp only[vU,jn,be_,if_false,if_true,bY,gF,bs_]
def FK(V:Zf w0 env m)(O:xC w0)(hn:n<=4000){d:DT}{v:Ax}(hm:ndT d<=m)(hv:DaV env w P d (zD env t n 0) v)(hP:∀g,P g->g<B)(h0:w0.heap.size<=B)(hB:B<=w.heap.size)(I:yy w0 w)(hu:yi w B u b)(hs:b.size+8022*(1+ndT d)<=90000000):Calls prog 60 #[u,.agg #[I_ n,v]] w (yY w B (b++txT env (.mk 40 (n:Int) noB [] [d]) t)):=by
 refine hq_ λk N=>?_;obtain⟨T,x,rfl⟩:=hv.iface;have Z:=nU (n:=(n:Int)) M_ M_;have a2:=eN env d (zD env t n 0) hv.dat.ok;have U:∀g,P g->¬B<=g:=λg h=>by have:=hP g h;omega
 obtain⟨l,z⟩:=e_ (w.alloc (.cells #[I_ n,.iface T x] 153));have r:Fr w l N_:=z▸(A_ w _).alloc _;have y:Blk l w.heap.size [I_ n,.iface T x] 153:=z▸B_ w #[I_ n,.iface T x] 153;have a3:=r.size;have M:yi l B u b:=yi.fr hu r u_;have k:(b++bts [60]).size<=b.size+1:=by rw[ar_,zU];exact l_
 have J:∀W k,yi W B k (b++bts [60])->FrU B w W->Calls prog 56 #[k,I_ n,Z_ 10] W (yY W B ((b++bts [60])++vF n)):=λW k h1 p=>O W B h0 (by have:=p.size;omega) (I.fru p h0 hB) k _ (n:Int) M_ M_ h1 M_;have H:∀W k,yi W B k (((b++bts [60])++vF n)++bts [58])->FrU B w W->Calls prog 33 #[k,.iface T x] W (yY W B ((((b++bts [60])++vF n)++bts [58])++txT env d (zD env t n 0))):=λW k h1 p=>V d hm W P B _ _ k _ (hv.fr p.all U) hP h0 (by have:=p.size;omega) (I.fru p h0 hB) h1 yl_;have k:b++txT env (.mk 40 (n:Int) noB [] [d]) t=((((b++bts [60])++vF n)++bts [58])++txT env d (zD env t n 0))++bts [62]:=by rw[Zs];simp only[b9_]
 rw[k]at N;have p:((b++bts [60])++vF n).size<=90000000:=yn_
 have a1:((((b++bts [60])++vF n)++bts [58])++txT env d (zD env t n 0)).size<=100000000:=yl_
 replace J:=zy J;replace H:=zy H;have k:=zy (FrU.of (B:=B) r);replace r:=zy r;have c0:=y.c0;replace y:=zy y;replace M:=zy M;replace z:=zy z;go_in;go_wp2;rw[<- z.o];refine tR_ (λW=>z_ W w.heap.size 0 (I_ n)) ?_;refine tY_ 0 ?_;refine tY_ 3 ?_;refine tY_ 4 ?_;refine zV 1 rfl K_ c0 (λj i=>?_);go_simp;refine i _ _ ?_;have p:=(y.o.alloc (.cells #[.int .u8 60] 5)).c0;refine zV 2 rfl K_ p (λj i=>?_);rw[i_ (show Region.wanted _ _=true by kernel_rfl)];refine ZO _ _ rfl 60 rfl D_ (w:=l.drew) (yi.si M (zq.drew _)) M_ (aj_ hB a3) rfl rfl rfl rfl ?_;intro p p R K;refine i _ _ ?_;have E:=k.o.drew.trans K;have C:=K.bl ((((A_ l N_).drew)).bl y id) D_;have k:=C.c0;refine zV 5 rfl K_ k (λj i=>?_);go_simp;apply(J.o _ _ R E).mono;rintro e X ⟨k,rfl,l,p⟩;refine i _ _ ?_;have k:=p.bl C D_;have r:=k.c0;have y:=k.c1;have F:=zy (E.trans p);replace l:=zy l;replace k:=zy k;refine tY_ 6 ?_;refine zO K_ r ?_ _;go_wp2;refine tR_ (λW=>z_ W w.heap.size 1 (.iface T x)) ?_;refine tY_ 0 ?_;refine tY_ 3 ?_;refine tY_ 4 ?_;refine zV 1 rfl K_ y (λj i=>?_);go_simp;refine i _ _ ?_;have r:=F.o.size;have p:=(k.o.alloc (.cells #[.int .u8 58] 5)).c1;refine zV 2 rfl K_ p (λj i=>?_);rw[i_ (show Region.wanted _ _=true by kernel_rfl)];refine ZO _ _ rfl 58 rfl D_ (w:=X.drew) (yi.si l (zq.drew _)) M_ (aj_ hB r) rfl rfl rfl rfl ?_;intro l l S L;refine i _ _ ?_;have G:=F.o.drew.trans L;have D:=L.bl ((((A_ X N_).drew)).bl k id) D_;have k:=D.c1;refine zV 5 rfl K_ k (λj i=>?_);go_simp;apply(H.o _ _ S G).mono;rintro e k ⟨k,rfl,k,l⟩;refine i _ _ ?_;have i:=(l.bl D D_).c1;have A:=G.trans l;have j:=A.size;replace A:=zy A;replace k:=zy k;refine tY_ 6 ?_;refine zO K_ i ?_ _;go_wp2_with (at_builtin;refine qx rfl _ _ rfl 62 rfl D_ k a1 M_ rfl rfl rfl ?_;intro i i Y a0);try go_ret
 rw[N.o];exact⟨_,rfl,Y,A.o.trans a0⟩
end
end Go.Proofs.YtamhgejdkclmdaaGreatDoor
