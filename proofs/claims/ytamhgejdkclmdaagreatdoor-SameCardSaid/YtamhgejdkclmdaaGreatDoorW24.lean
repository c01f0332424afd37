import Derived.Test.YtamhgejdkclmdaaGreatDoorW23
set_option maxHeartbeats 16000000
set_option maxRecDepth 100000
set_option linter.defProp false
set_option linter.unusedSimpArgs false
set_option linter.unusedVariables false
open Go.Proofs.Tryz
namespace Go.Proofs.YtamhgejdkclmdaaGreatDoor
open Go.RowKit
variable {w W W':Aw}{n q i m p j c k:Nat}{g g':Ar}{rv pv rv' d:Ax}{s:BA}{ns:Ao}{D:Ah}{x y t:PT}{e ew:Au}{T:Av}
def pY{dv kv:Ax}(hd:IfV dv)(hk:IfV kv):Calls prog 127 #[.agg #[I_ n,dv],.agg #[I_ m,kv]] w λe w'=>e=.returned (if btr m n=true then .agg #[I_ m,kv] else .agg #[I_ n,dv])/\Fr w w' N_:=by
 refine hq_ λG A=>?_;have hB:=zy (λW=>jE (w:=W) (n:=m) (m:=n) (dv:=kv) (kv:=dv));have r:Blk (((w.alloc (.cells #[I_ n,dv] 93)).alloc (.cells #[I_ m,kv] 93)).alloc (.cells #[O_,.nilIface] 93)) w.heap.size [I_ n,dv] 93:=((B_ w #[I_ n,dv] 93).alloc _).alloc _;have u:Blk (((w.alloc (.cells #[I_ n,dv] 93)).alloc (.cells #[I_ m,kv] 93)).alloc (.cells #[O_,.nilIface] 93)) (w.heap.size+1) [I_ m,kv] 93:=by
  have h:=(B_ (w.alloc (.cells #[I_ n,dv] 93)) #[I_ m,kv] 93).alloc (.cells #[O_,.nilIface] 93);rw[zc]at h;exact h
 have z:Blk (((w.alloc (.cells #[I_ n,dv] 93)).alloc (.cells #[I_ m,kv] 93)).alloc (.cells #[O_,.nilIface] 93)) (w.heap.size+1+1) [O_,.nilIface] 93:=by
  have h:=B_ ((w.alloc (.cells #[I_ n,dv] 93)).alloc (.cells #[I_ m,kv] 93)) #[O_,.nilIface] 93;rw[zc,zc]at h;exact h
 have C:=zy (λo E F=>(((A_ w N_).alloc o).alloc E).alloc F);revert r u z;refine h_ λr u z=>?_;have fin:H_ (∀(w1:World) (a b:Value),Fr w w1 N_->Fr w ((w1.setCell ⟨w.heap.size+1+1,0,none⟩ a).setCell ⟨w.heap.size+1+1,1,none⟩ b) N_):=zy (λw1 a b h=>h.trans (Fr.pa w1 (w.heap.size+1+1) a b) (λx hx e=>M_));have K:=λW a m=>run_store prog W a dv m hd.one;have M:=λW a m=>run_store prog W a kv m hk.one;cases hb:btr m n;all_goals
  rw[hb]at A hB;go_in;go_wp2_with (go_at_call 172;apply(hB.o _).mono;rintro e w1 ⟨rfl,l⟩;have H:=(l.bl r id).c0;have J:=(l.bl r id).c1;have b0:=(l.bl u id).c0;have b1:=(l.bl u id).c1;have f:=l.bl z id;have r0:=f.c0;have r1:=f.c1;have O:=f.th 0;have R:=f.th 1;have B:=zy ((C.o _ _ _).trans l u_);have f:=zy f)
 .have P:=V_ f (I_ n) dv;have q0:=P.c0;have q1:=P.c1;refine bodyPost_ret (v:=.agg #[I_ n,dv]) z5_ rfl ?_;rw[A.o];exact⟨rfl,fin.o _ _ _ B⟩
 .have P:=V_ f (I_ m) kv;have q0:=P.c0;have q1:=P.c1;refine bodyPost_ret (v:=.agg #[I_ m,kv]) z5_ rfl ?_;rw[A.o];exact⟨rfl,fin.o _ _ _ B⟩
def kR(w:Aw)(lv:Ax)(ns:Ao)(D:Ah):Prop:=
 w.ownsRow 0 93 2 lv ns.length ((List.range ns.length).flatMap λi=>[Z_ ((ns.getD i 0:Nat):Int),D i])
def kR.cells{g:Nat}(h:kR w (S_ g ns.length c) ns D)(a:ns[q]?=some n):w.cell? ⟨g,q*2,none⟩=some (I_ n)/\w.cell? ⟨g,q*2+1,none⟩=some (D q):=by
 have l:=(ai_.1 a).1;have hg:∀(m:Nat) (k:Nat),k<m->((List.range m).flatMap λi=>[Value.int .i64 ((ns.getD i 0:Nat):Int),D i])[k*2]?=some (Value.int .i64 ((ns.getD k 0:Nat):Int))/\((List.range m).flatMap λi=>[Value.int .i64 ((ns.getD i 0:Nat):Int),D i])[k*2+1]?=some (D k):=by
  intro m;induction m with
  |zero=>intro k h;omega
  |succ m ih=>
   intro k hk;have hl:((List.range m).flatMap λi=>[Value.int .i64 ((ns.getD i 0:Nat):Int),D i]).length=m*2:=by
    clear ih hk;induction m with
    |zero=>rfl
    |succ m ih=>rw[br_,a9_,ah_,ih];simp;omega
   rw[br_,a9_];by_cases f:k<m
   .rw[aq_ M_,aq_ M_];exact ih k f
   .obtain rfl:k=m:=M_;rw[au_ M_,au_ M_,hl];simp[show k*2+1-k*2=1 by omega]
 obtain⟨h1,b⟩:=hg ns.length q l;have e:ns.getD q 0=n:=by rw[aw_,a];rfl
 rw[e]at h1;exact⟨zt h rfl h1,zt h rfl b⟩
def dQ(h:ns[q]?=some n):(ns.take (q+1)).sum=(ns.take q).sum+n:=by
 rw[a6_,h];simp
def QI:Tryz.prog.underlying 146=some (.slice 64):=K_
structure JnM(w:Aw)(ns:Ao)(D:Ah)(q:Nat)(pv:Ax)(W:Aw):Prop where
 fr:Fr w W N_
 b:Blk W w.heap.size [O_,.nilIface] 93
 bB:w.heap.size+1<=W.heap.size
 nz:0∉ns.take q
 row:W.ownsRow (w.heap.size+1) 64 1 pv q ((List.range q).flatMap λi=>[D i])
def JnM.call(h:JnM w ns D q pv W)(hf:Fr W W' N_):JnM w ns D q pv W':=
 ⟨h.fr.trans hf u_,hf.bl h.b id,aj_ h.bB hf.size,h.nz,zj h.row hf u_⟩
def JnM.item{a:Aw}{r:Ax}{o:Obj}(h:JnM w ns D q pv W)(u:ns[q]?=some n)(hn:n≠0)(hg:(W.alloc o).grownBy a pv.ownBlock)(ho:a.ownsRow (w.heap.size+1) 64 1 r (q+1) (((List.range q).flatMap λi=>[D i])++[D q])):JnM w ns D (q+1) r a:=by
 have f:Fr W a (λg=>pv.ownBlock=some g):=((A_ W _).alloc o).gw hg (λk e _=>e);have l:∀g,pv.ownBlock=some g->w.heap.size+1<=g:=λg e=>(h.row.lt g e).1;refine⟨h.fr.trans f (λx hx e=>absurd (l x e) M_),f.bl h.b (λe=>by have:=l _ e;omega),aj_ h.bB f.size,?_,?_⟩
 .rw[a6_,u];simp only[Option.toList_some,a4_,a2_,not_or];exact⟨h.nz,λe=>hn e.symm⟩
 .rw[br_,a9_];simpa using ho
def wh{lv:Ax}{fn:Et}{caps:Ca}{R:Da}(ho:kR w lv ns D)(G:∀i,IfV (D i))(hn:∀n∈ns,n<=301)(hl:ns.length<=300)(d7:∀V W,(callFunc fn V).run prog W=.ok (.enter fn V) W)(hB:∀W pv,Fr w W N_->W.ownsRow (w.heap.size+1) 64 1 pv ns.length ((List.range ns.length).flatMap λi=>[D i])->Calls prog fn (#[pv]++caps) W (λe w'=>∃v,e=.returned v/\IfV v/\Fr W w' N_/\R v w'))(C:∀v W W',R v W->Fr W W' (λg=>g=w.heap.size)->R v W'):Calls prog 125 #[lv,.func (.func fn) #[] caps] w λe w'=>∃v,e=.returned (.agg #[Z_ (jnN ns:Int),v])/\IfV v/\Fr w w' N_/\(jnN ns=0\/jnN ns=301->v=.nilIface)/\(1<=jnN ns->jnN ns<=300->R v w'):=by
 refine hq_ λb9 B=>?_;obtain⟨la,lc,rfl⟩:=zw ho;have start:JnM w ns D 0 (L_) (w.alloc (.cells #[O_,.nilIface] 93)):=⟨(A_ w _).alloc _,B_ w _ _,by rw[zc];exact l_,by simp,World.ownsRow_nil _ _ _ _⟩;replace start:=zy start;replace ho:=zy ho;replace hB:=zy hB;replace C:=zy C;replace G:=zy G;replace hn:=zy hn;go_in;go_wp2;go_loopg [5,6,11] (ns.length+1) (λm v5 v6 v W=>∃q:Nat,v5=Z_ ((1+(ns.take q).sum:Nat):Int)/\v=I_ q/\q<=ns.length/\ns.length+1-q<=m/\(ns.take q).sum<=301*q/\H_ (JnM w ns D q v6 W));case atStart=>exact⟨0,by simp,rfl,al_ _,M_,by simp,start⟩
 case round=>
  obtain⟨q,rfl,rfl,hq,hm,M,f⟩:=hrel;obtain⟨pa,pc,rfl⟩:=zw f.o.row;by_cases a1:q<ns.length
  .have J:(q:Int)<(ns.length:Int):=M_;have u:ns[q]?=some ns[q]:=ak_ a1;generalize ns[q]=n at u;have d8:=hn.o n (ag_ u);have A:=dQ u;obtain⟨g,d2,a5⟩:=zp ho M_;cases a5;obtain⟨X,e1⟩:=kR.cells (zj ho f.o.fr u_) u;have Y:=G.o q;have sD:=λW a m=>run_store prog W a (D q) m Y.one;have b0:=f.o.b.c0;have b1:=f.o.b.c1;have t0:=f.o.b.th 0;have t1:=f.o.b.th 1;have a4:=f.o.bB;have O:=(A_ wr N_).alloc (.cells #[I_ n,D q] 93);have l:=zy (f.o.call O);have b5:=zy (ag_ u);obtain⟨S,r⟩:=x_ ((ns.take q).sum);rw[r]at A M;rw[r];replace u:=zy u;replace A:=zy A;replace r:=zy r;by_cases hz:n=0
   .subst hz;have hr:=zy (show jnN ns=0 by unfold jnN;rw[i_ b5.o]);replace l:H_ (JnM w ns D q (.slice pa q pc) (wr.alloc (.cells #[O_,D q] 93))):=l;replace X:wr.cell? ⟨g,q*2,none⟩=some (O_):=X;have c0:=l.o.b.c0;have c1:=l.o.b.c1;have u0:=l.o.b.th 0;have u1:=l.o.b.th 1;go_wp2;have P:=V_ l.o.b (O_) .nilIface;have q0:=P.c0;have q1:=P.c1;refine bodyPost_ret (v:=.agg #[O_,.nilIface]) xt_ rfl ?_;rw[B.o,hr.o];exact⟨_,rfl,.inl rfl,l.o.fr.trans (Fr.pa _ _ _ _) (λx hx e=>M_),λ_=>rfl,λh=>M_⟩
   .have e0:((n:Int)==0)=false:=xg_
    obtain⟨ti,a6,a7,a8,a9⟩:=info_parts qP;have b8:=zy hz;rcases Y with hv|⟨dT,dx,hv⟩;all_goals
     rw[hv]at e1 l;have hv:=zy hv;have b7:=zy l.o.row;have c0:=l.o.b.c0;have c1:=l.o.b.c1;have u0:=l.o.b.th 0;have u1:=l.o.b.th 1
     go_wp2_with (at_builtin;go_must (refine wpList_append_own_at _ rfl _ _ 146 rfl (w.heap.size+1) 64 ti _ 1 16 QI a6 a7 a8 a9 rfl D_ (.slice pa q pc) q ((List.range q).flatMap λi=>[D i]) rfl ?hown _ 1 1 [_] rfl rfl (zF _ #[_] _ _ ?nn) ?one ?b1 ?b2 ?b3 ?_)
                  case hown=>exact World.ownsRow.alloc b7 _
                  case nn=>simp
                  case one=>simp[Value.oneCell']
                  case b1=>unfold maxLen;omega
                  case b2=>omega
                  case b3=>simp;omega
                  intro v5 w5 K a0 b6 b4
                  have F:=l.o.item u b8 a0 (by rw[hv.o];exact K)
                  obtain⟨g5,d6,rfl⟩:=zp K M_
                  replace F:=zy F)
     go_roundg (ns.length+1-(q+1));case measure=>omega
     case rel=>exact⟨q+1,by rw[A.o];simp;omega,by simp,a1,l_,by rw[A.o];omega,F⟩
  .have J:¬((q:Int)<(ns.length:Int)):=M_;obtain rfl:q=ns.length:=M_;have z:=f.o.nz;rw[List.take_length]at z M⊢;obtain⟨S,r⟩:=x_ (1+ns.sum);rw[r];have d9:S<=1+301*ns.length:=M_;have r:=zy r;have b0:=f.o.b.c0;have b1:=f.o.b.c1;have t0:=f.o.b.th 0;have t1:=f.o.b.th 1;have a4:=f.o.bB;by_cases hb:300<S
   .have a3:(S:Int) > 300:=M_;have hr:=zy (show jnN ns=301 by unfold jnN;rw[n_ z,r.o,i_ hb]);go_wp2;have P:=V_ f.o.b (Z_ 301) .nilIface;have q0:=P.c0;have q1:=P.c1;refine bodyPost_ret (v:=.agg #[Z_ 301,.nilIface]) xt_ rfl ?_;rw[B.o,hr.o];exact⟨_,rfl,.inl rfl,f.o.fr.trans (Fr.pa _ _ _ _) (λx hx e=>M_),λ_=>rfl,λ_ h=>M_⟩
   .have a3:¬((S:Int) > 300):=M_;have hr:=zy (show jnN ns=S by unfold jnN;rw[n_ z,r.o,n_ hb]);have hC:=zy (hB.o wr _ f.o.fr f.o.row);go_wp2_with (apply hC.o.mono;rintro e w2 ⟨v2,rfl,a2,H,E⟩;have P2:=H.bl f.o.b id;have k0:=P2.c0;have k1:=P2.c1;have l0:=P2.th 0;have l1:=P2.th 1;have Z:=zy (f.o.fr.trans H u_);have P2:=zy P2;have E:=zy E;rcases a2 with rfl|⟨U,x2,rfl⟩)
    .have P:=V_ P2 (I_ S) .nilIface;have q0:=P.c0;have q1:=P.c1;refine bodyPost_ret (v:=.agg #[I_ S,.nilIface]) xt_ rfl ?_;rw[B.o,hr.o];exact⟨_,rfl,.inl rfl,Z.o.trans (Fr.pa _ _ _ _) (λx hx e=>M_),λ_=>rfl,λ_ _=>C.o _ _ _ E (Fr.pa _ _ _ _)⟩
    .have P:=V_ P2 (I_ S) (.iface U x2);have q0:=P.c0;have q1:=P.c1;refine bodyPost_ret (v:=.agg #[I_ S,.iface U x2]) xt_ rfl ?_;rw[B.o,hr.o];exact⟨_,rfl,.inr ⟨_,_,rfl⟩,Z.o.trans (Fr.pa _ _ _ _) (λx hx e=>M_),λh=>M_,λ_ _=>C.o _ _ _ E (Fr.pa _ _ _ _)⟩
def qX{f:Et}{fn:Func}{c:Code}(hf:Tryz.prog.funcs[f]?=some fn)(b:(fn.name == "runtime.NumGoroutine")=false)(hb:fn.body=some c):∀a W,(callFunc f a).run prog W=.ok (.enter f a) W:=by
 intro a w
 have h1:fn.name≠ "runtime.NumGoroutine":=by simpa using b
 simp[callFunc,hf,h1,hb,mark]
def cQ{B g:Nat}{e:Av}{cs:Ay}(h:Blk w g cs e)(hb:B<=g)(hl:cs.length=n*k)(hn:n<=maxLen):w.ownsRow B e k (S_ g n n) n cs:=
 ⟨hl,.inr ⟨g,n,cs.toArray,rfl,hb,h,l_,hn,by simp[hl],by simp[<- hl]⟩⟩
def Xw{b:Nat}{dv:Ax}(h:Blk w b [dv] T):Calls prog 126 #[pv,P_ b] w λe w'=>e=.returned dv/\Fr w w' N_:=by
 refine hq_ λf a=>?_;have c0:=h.c0;go_in;go_wp2;try go_ret
 rw[a.o];exact⟨rfl,A_ _ _⟩
def nD{x:Ax}:Calls prog 86 #[.iface T x] w λe w'=>e=.returned (.agg #[Z_ 1,.iface T x])/\Fr w w' N_:=by
 refine hq_ λE r=>?_;obtain⟨w1,hw1⟩:=e_ ((w.alloc (.cells #[.iface T x] 64)).alloc (.cells #[O_,.nilIface] 93));have b:Fr w w1 N_:=xw_
 have l:Blk w1 w.heap.size [.iface T x] 64:=by rw[hw1];exact(B_ w #[.iface T x] 64).alloc _
 have a:Blk w1 (w.heap.size+1) [O_,.nilIface] 93:=by
  rw[hw1];have h:=B_ (w.alloc (.cells #[.iface T x] 64)) #[O_,.nilIface] 93;rw[zc]at h;exact h
 have hz:w1.heap.size=w.heap.size+2:=by rw[hw1,zc,zc]
 have u:=zy (wh (w:=w1) (lv:=L_) (ns:=[]) (D:=λ_=>.iface T x) (fn:=126) (caps:=#[P_ w.heap.size]) (R:=λv _=>v=.iface T x) (World.ownsRow_nil _ _ _ _) (λ_=>.inr ⟨_,_,rfl⟩) (λn h=>by cases h) x8_ (qX func126 K_ rfl)
  (λW pv A _=>(Xw (pv:=pv) (A.bl l id)).mono (λe w' q=>⟨_,q.1,.inr ⟨_,_,rfl⟩,q.2,rfl⟩)) (λv W W' h _=>h))
 replace hw1:=zy hw1;replace b:=zy b;replace a:=zy a;replace hz:=zy hz;go_in;go_wp2_with (go_at_call 125;rw[<- hw1.o];apply u.o.mono;rintro e H ⟨v,rfl,_,f,_,hv⟩;obtain rfl:=hv D_ D_;rw[show((jnN []:Nat):Int)=1 from rfl];have P2:=f.bl a id;have k0:=P2.c0;have F:=P2.c1;have G:=P2.th 0;have l1:=P2.th 1;have z:=zy (b.o.trans f u_);have P2:=zy P2);have P:=V_ P2 (Z_ 1) (.iface T x);have B:=P.c0;have C:=P.c1;refine bodyPost_ret (v:=.agg #[Z_ 1,.iface T x]) (by simp[results,results86,go_sem,B,C]) rfl ?_;rw[r.o];exact⟨rfl,z.o.trans (Fr.pa _ _ _ _) (λx hx e=>M_)⟩
def tf{b:Nat}{dT:Ax}{B:Nat}(a:IfV (D 0))(h:Blk w b [I_ n] T)(ho:w.ownsRow B 64 1 pv 1 ((List.range 1).flatMap λi=>[D i]))(f:dT=D 0):Calls prog 173 #[pv,P_ b] w λe w'=>e=.returned (.iface 153 (.agg #[I_ n,dT]))/\Fr w w' N_:=by
 refine hq_ λu l=>?_;have c0:=h.c0;obtain⟨g,v,rfl⟩:=zp ho M_;have r:w.cell? ⟨g,0,none⟩=some (D 0):=kX (yr ho) (Nat.lt_add_one 0);rw[<- f]at r a;clear h ho f;rcases a with rfl|⟨dT,dx,rfl⟩;all_goals
  go_in;go_wp2;go_quiet (fail);go_wp2;try go_ret
  rw[l.o];exact⟨rfl,(A_ _ _).si (zq.drewN _ _)⟩
def BrR(n:Nat)(kv v:Ax):Prop:=v=.iface 153 (.agg #[I_ n,kv])
def mG{kv:Ax}(hk:IfV kv)(hm:m<=301):Calls prog 128 #[I_ n,.agg #[I_ m,kv]] w λe w'=>∃v,e=.returned (.agg #[Z_ (jnN [m]:Int),v])/\IfV v/\Fr w w' N_/\(jnN [m]=0\/jnN [m]=301->v=.nilIface)/\(1<=jnN [m]->jnN [m]<=300->BrR n kv v):=by
 refine hq_ λK C=>?_;obtain⟨w1,b⟩:=e_ ((((w.alloc (.cells #[I_ n] 3)).alloc (.cells #[I_ m,kv] 93)).alloc (.cells #[O_,.nilIface] 93)).alloc (.cells #[I_ m,kv] 93));have r:Fr w w1 N_:=by rw[b];exact((((A_ w _).alloc _).alloc _).alloc _).alloc _
 have B:Blk w1 w.heap.size [I_ n] 3:=by rw[b];exact(((B_ w #[I_ n] 3).alloc _).alloc _).alloc _
 have l:Blk w1 (w.heap.size+1+1) [O_,.nilIface] 93:=by
  rw[b];have h:=(B_ ((w.alloc (.cells #[I_ n] 3)).alloc (.cells #[I_ m,kv] 93)) #[O_,.nilIface] 93).alloc (.cells #[I_ m,kv] 93);rw[zc,zc]at h;exact h
 have ho:kR w1 (S_ (w.heap.size+1+1+1) 1 1) [m] (λ_=>kv):=by
  have h:=B_ (((w.alloc (.cells #[I_ n] 3)).alloc (.cells #[I_ m,kv] 93)).alloc (.cells #[O_,.nilIface] 93)) #[I_ m,kv] 93;rw[zc,zc,zc,<- b]at h;exact cQ h o_ rfl xr_
 have E:=zy (wh (w:=w1) (ns:=[m]) (D:=λ_=>kv) (fn:=173) (caps:=#[P_ w.heap.size]) (R:=λv _=>BrR n kv v) ho (λ_=>hk) (λn h=>by simp only[a2_]at h;omega) x8_ (qX func173 K_ rfl)
  (λW pv G hr=>(tf (D:=λ_=>kv) hk (G.bl B id) hr rfl).mono (λe w' q=>⟨_,q.1,.inr ⟨_,_,rfl⟩,q.2,rfl⟩)) (λv W W' h _=>h))
 have S:=λW a m=>run_store prog W a kv m hk.one;replace b:=zy b;replace r:=zy r;replace l:=zy l;generalize jnN [m]=j at E C;go_in;go_wp2_with (go_at_call 125;rw[<- b.o];apply E.o.mono;rintro e V ⟨v,rfl,f,u,z,A⟩;have P2:=u.bl l id;have k0:=P2.c0;have M:=P2.c1;have O:=P2.th 0;have l1:=P2.th 1;have F:=zy (r.o.trans u u_);have P2:=zy P2;have U:=λW a m=>run_store prog W a v m f.one;replace z:=zy z;replace A:=zy A;have f:=zy f);have P:=V_ P2 (I_ j) v;have H:=P.c0;have J:=P.c1;refine bodyPost_ret (v:=.agg #[I_ j,v]) (by simp[results,results128,go_sem,H,J]) rfl ?_;rw[C.o];exact⟨_,rfl,f,F.o.trans (Fr.pa _ _ _ _) (λx hx e=>M_),z,A⟩
def tg{la:Al}{ln lc:Nat}:Calls prog 174 #[.slice la ln lc] w λe w'=>e=.returned (.iface 155 (.slice la ln lc))/\Fr w w' N_:=by
 refine hq_ λb a=>?_;go_in;go_wp2;try go_ret
 rw[a.o];exact⟨rfl,A_ _ _⟩
def RcR(B n:Nat)(D:Ah)(v:Ax)(W:Aw):Prop:=∃pv,v=.iface 155 pv/\W.ownsRow B 64 1 pv n ((List.range n).flatMap λi=>[D i])
def bP{lv:Ax}(ho:kR w lv ns D)(H:∀i,IfV (D i))(hn:∀n∈ns,n<=301)(hl:ns.length<=300):Calls prog 130 #[lv] w λe w'=>∃v,e=.returned (.agg #[Z_ (jnN ns:Int),v])/\IfV v/\Fr w w' N_/\(jnN ns=0\/jnN ns=301->v=.nilIface)/\(1<=jnN ns->jnN ns<=300->RcR (w.heap.size+2) ns.length D v w'):=by
 refine hq_ λS G=>?_;obtain⟨w1,f⟩:=e_ (w.alloc (.cells #[O_,.nilIface] 93));have u:Fr w w1 N_:=by rw[f];exact(A_ w _).alloc _
 have B:Blk w1 w.heap.size [O_,.nilIface] 93:=by rw[f];exact B_ w #[O_,.nilIface] 93
 have hz:w1.heap.size=w.heap.size+1:=by rw[f,zc]
 obtain⟨Y,Z,rfl⟩:=zw ho;have z:=wh (w:=w1) (ns:=ns) (D:=D) (fn:=174) (caps:=#[]) (R:=λv W=>RcR (w.heap.size+2) ns.length D v W) (zj ho u u_) H hn hl (qX func174 K_ rfl)
  (λW pv U hr=>by
   obtain⟨pa,pc,rfl⟩:=zw hr
   refine tg.mono (λe w' q=>⟨_,q.1,.inr ⟨_,_,rfl⟩,q.2,_,rfl,zj (by rw[hz]at hr;exact hr) q.2 u_⟩))
  (λv W W' h hf=>by
   obtain⟨pv,h1,l⟩:=h
   exact⟨pv,h1,zj l hf (λg e h=>by have:=(l.lt g e).1;omega)⟩)
 replace z:=zy z;replace f:=zy f;replace u:=zy u;replace B:=zy B;have K:H_ (∀v (r:World) a b,RcR (w.heap.size+2) ns.length D v r->RcR (w.heap.size+2) ns.length D v ((r.setCell ⟨w.heap.size,0,none⟩ a).setCell ⟨w.heap.size,1,none⟩ b)):=zy (λv r a b h=>by
  obtain⟨pv,h1,l⟩:=h
  exact⟨pv,h1,zj l (Fr.pa r w.heap.size a b) (λg e h=>by have:=(l.lt g e).1;omega)⟩)
 generalize jnN ns=j at z G;go_in;go_wp2_with (go_at_call 125;rw[<- f.o];apply z.o.mono;rintro e r ⟨v,rfl,A,C,E,F⟩;have P2:=C.bl B id;have k0:=P2.c0;have V:=P2.c1;have X:=P2.th 0;have l1:=P2.th 1;have J:=zy (u.o.trans C u_);have P2:=zy P2;have sV:=λW a m=>run_store prog W a v m A.one;replace E:=zy E;replace F:=zy F;have A:=zy A);have P:=V_ P2 (I_ j) v;have M:=P.c0;have O:=P.c1;refine bodyPost_ret (v:=.agg #[I_ j,v]) (by simp[results,results130,go_sem,M,O]) rfl ?_;rw[G.o];exact⟨_,rfl,A,J.o.trans (Fr.pa _ _ _ _) (λx hx e=>M_),E,λa b=>K.o _ _ _ _ (F.o a b)⟩
def kn(n m:Nat):Prop:=n≠0/\n<=m/\n<=301
def le0.to{v:Nat}(h:le0 n v)(k:kn v m):kn n m:=by unfold le0 at h;unfold kn at *;omega
def le0.one(h:le0 n 1)(k:0<m):kn n m:=by unfold le0 at h;unfold kn;omega
def Wt:∀{ks:List Nat}{ds:List DT},ks.length=ds.length->(∀(i k:Nat) (d:DT),ks[i]?=some k->ds[i]?=some d->kn k (ndT d))->0∉ks/\ks.sum<=zY ds
 | [],[],_,_=>⟨by simp,by simp⟩
 | [],_::_,h,_=>by simp at h
 | _::_,[],h,_=>by simp at h
 |k::ks,d::ds,hl,h=>by
  obtain⟨h1,a⟩:=Wt (ks:=ks) (ds:=ds) (by simpa using hl) (λi k d e e'=>h (i+1) k d (by simpa using e) (by simpa using e'));have h0:=h 0 k d rfl rfl;unfold kn at h0;simp only[an_,not_or,List.sum_cons,zY];exact⟨⟨λe=>h0.1 e.symm,h1⟩,M_⟩
def cM{ks:Ao}{ds:Ae}(hl:ks.length=ds.length)(h:∀(i k:Nat) (d:DT),ks[i]?=some k->ds[i]?=some d->kn k (ndT d)):kn (jnN ks) (1+zY ds):=by
 obtain⟨h1,a⟩:=Wt hl h;unfold jnN kn;rw[n_ h1];split<;>omega
def XU{d:DT}:∀{ds:List DT},d∈ds->ndT d<=zY ds
 |e::r,h=>by
  simp only[zY];rcases an_.1 h with rfl|h
  .omega
  .have:=XU h;omega
def DT.subs:DT->List DT | .mk _ _ _ _ ds=>ds
def jI(d:DT):ndT d=1+zY d.subs:=by obtain⟨k,n,tx,ks,ds⟩:=d;unfold ndT;rfl
def iK{d d1:DT}(h:kn k (ndT d1))(hd:d1∈d.subs):kn (jnN [k]) (ndT d):=by
 have:=cM (ks:=[k]) (ds:=[d1]) rfl (λi l a e e'=>by
  cases i with
  |zero=>simp at e e';subst e e';exact h
  |succ i=>simp at e)
 have b:=XU hd;have f:=jI d;unfold kn at *;simp only[zY]at this;omega
structure ClT(ew:Au)(K:PT->Nat->Prop):Prop where
 one:∀t n,K t n->t.isAlts=false->(∀c p fs,t=.leaf c p->zr c=false->ew c≠some (.recd fs))->le0 n 1
 recd:∀c p n fs,K (.leaf c p) n->zr c=false->ew c=some (.recd fs)->∃ks:List Nat,ks.length=fs.length/\(∀(q:Nat) (f:PF) (k:Nat),fs[q]?=some f->ks[q]?=some k->K f.ty k)/\le0 n (jnN ks)
 alts:∀p l n,K (.alts p l) n->∀t∈l,∃k,K t k/\le0 n (jnN [k])
def ClT.all{K:PT->Nat->Prop}(C:ClT ew K){d:DT}(h:Dat ew d t):∀n,K t n->kn n (ndT d):=by
 have f:∀d:DT,0<ndT d:=λd=>by rw[jI];omega
 have a:∀{c p:Nat},zr c=true->∀n,K (.leaf c p) n->∀d,kn n (ndT d):=λ{c p} hb n hk d=>(C.one _ n hk rfl (λl p' fs e o=>by cases e;rw[hb]at o;cases o)).one (f d);have r:∀{c p:Nat} {X:PB},ew c=some X->(∀fs,X≠.recd fs)->∀n,K (.leaf c p) n->∀d,kn n (ndT d):=λ{c p X} hx hX n hk d=>(C.one _ n hk rfl (λl p' fs e _ he=>by cases e;rw[hx]at he;cases he;exact hX _ rfl)).one (f d);have wr:∀{c p:Nat} {u:PT},∀n,K (.wrap c p u) n->∀d,kn n (ndT d):=λ{c p u} n hk d=>(C.one _ n hk rfl (λl p' fs e=>by cases e)).one (f d);induction h with
 |null=>exact λn hk=>a rfl n hk _
 |bool=>exact λn hk=>a rfl n hk _
 |num=>exact λn hk=>a rfl n hk _
 |long=>exact λn hk=>a rfl n hk _
 |text=>exact λn hk=>a rfl n hk _
 |bytes he hb=>exact λn hk=>r he (λ_ e=>by cases e) n hk _
 |sym he hb=>exact λn hk=>r he (λ_ e=>by cases e) n hk _
 |list=>exact λn hk=>wr n hk _
 |map=>exact λn hk=>wr n hk _
 |recd he hb hl h ih=>
  rename_i c p fs ds;intro n hk;obtain⟨ks,h1,b,v⟩:=C.recd c p n fs hk hb he;refine v.to ?_;rw[jI];exact cM (ds:=ds) M_ (λi k d e e'=>by
   have hi:i<fs.length:=by have:=(ai_.1 e).1;omega
   have hf:=ak_ hi
   exact ih i d fs[i].ty e' (by rw[as_,hf];rfl) k (b i _ k hf e))
 |alts hn hl h ih=>
  intro n hk;obtain⟨k,h1,b⟩:=C.alts _ _ n hk _ (ag_ hl);exact b.to (iK (ih k h1) zp_)
def Via(ew er:Au)(x y r:PT):Prop:=(y.isAlts=false/\r=y)\/∃p rs k,y=.alts p rs/\xc ew er x rs 0 none=some k/\rs[k]?=some r
def Nev(ew er:Au)(x y:PT):Prop:=(y.isAlts=false/\yt ew er x y=false)\/∃p rs,y=.alts p rs/\xc ew er x rs 0 none=none
inductive Un (ew er:Au):PT->PT->DT->Prop
 |alts0 {p n:Nat} {ws:List PT} {w1 y:PT} {d1:DT} (hn:n<=9223372036854775807) (hw:ws[n]?=some w1) (h:Un ew er w1 y d1):Un ew er (.alts p ws) y (.mk 40 (n:Int) noB [] [d1])
 |never {x y:PT} {d:DT} (hx:x.isAlts=false) (hv:Nev ew er x y) (hd:Dat ew d x):Un ew er x y d
 |items {c p p':Nat} {u u' y:PT} {d d1:DT} (hv:Via ew er (.wrap c p u) y (.wrap c p' u')) (hd:Dat ew d (.wrap c p u)) (hm:d1∈d.subs) (h:Un ew er u u' d1):Un ew er (.wrap c p u) y d
 |sym {c p p' n:Nat} {y:PT} {lw lr:List (Nat×Nat)} {ow o:Option (Nat×Nat)} (hv:Via ew er (.leaf c p) y (.leaf c p')) (hb:zr c=false) (hw:ew c=some (.enum lw ow)) (hr:er c=some (.enum lr o)) (hn:n<lw.length) (h:jY lr o ((lw.map Prod.fst).getD n 0)=none):Un ew er (.leaf c p) y (.mk 101 (n:Int) noB [] [])
 |field {c p p' i:Nat} {y:PT} {fw fr:List PF} {g h:PF} {ds:List DT} {d1:DT} (hv:Via ew er (.leaf c p) y (.leaf c p')) (hb:zr c=false) (hw:ew c=some (.recd fw)) (hr:er c=some (.recd fr)) (hd:Dat ew (.mk 114 0 noB [] ds) (.leaf c p)) (hg:g∈fr) (hi:vu fw g.letter=some i) (hf:fw[i]?=some h) (he:ds[i]?=some d1) (hu:Un ew er h.ty g.ty d1):Un ew er (.leaf c p) y (.mk 114 0 noB [] ds)
 |lack {c p p':Nat} {y:PT} {fw fr:List PF} {g:PF} {d:DT} (hv:Via ew er (.leaf c p) y (.leaf c p')) (hb:zr c=false) (hw:ew c=some (.recd fw)) (hr:er c=some (.recd fr)) (hd:Dat ew d (.leaf c p)) (hg:g∈fr) (hi:vu fw g.letter=none) (hf:g.dflt=none):Un ew er (.leaf c p) y d
def Un.dat{er:Au}{d:DT}(h:Un ew er x y d):Dat ew d x:=by
 induction h with
 |alts0 hn hw h ih=>exact .alts hn hw ih
 |never hx hv hd=>exact hd
 |items hv hd=>exact hd
 |sym hv hb hw hr hn h=>exact .sym hw hb hn
 |field hv hb hw hr hd=>exact hd
 |lack hv hb hw hr hd=>exact hd
structure ClP(ew er:Au)(L:PT->Nat->Prop)(K:PT->PT->Nat->Prop):Prop where
 alts0:∀p ws y n,K (.alts p ws) y n->∀w1∈ws,∃k,K w1 y k/\le0 n (jnN [k])
 never:∀x y n,K x y n->x.isAlts=false->Nev ew er x y->∃k,L x k/\le0 n k
 items:∀c p p' u u' y n,K (.wrap c p u) y n->Via ew er (.wrap c p u) y (.wrap c p' u')->∃k,K u u' k/\le0 n (jnN [k])
 sym:∀c p p' y n lw lr ow o q,K (.leaf c p) y n->Via ew er (.leaf c p) y (.leaf c p')->zr c=false->ew c=some (.enum lw ow)->er c=some (.enum lr o)->q<lw.length->jY lr o ((lw.map Prod.fst).getD q 0)=none->le0 n 1
 field:∀c p p' y n fw fr g i h,K (.leaf c p) y n->Via ew er (.leaf c p) y (.leaf c p')->zr c=false->ew c=some (.recd fw)->er c=some (.recd fr)->g∈fr->vu fw g.letter=some i->fw[i]?=some h->∃(ks:List Nat),ks.length=fw.length/\(∀(q:Nat) (f:PF) (k:Nat),fw[q]?=some f->ks[q]?=some k->if q=i then K h.ty g.ty k else L f.ty k)/\le0 n (jnN ks)
 lack:∀c p p' y n fw fr g,K (.leaf c p) y n->Via ew er (.leaf c p) y (.leaf c p')->zr c=false->ew c=some (.recd fw)->er c=some (.recd fr)->g∈fr->vu fw g.letter=none->g.dflt=none->∃(ks:List Nat),ks.length=fw.length/\(∀(q:Nat) (f:PF) (k:Nat),fw[q]?=some f->ks[q]?=some k->L f.ty k)/\le0 n (jnN ks)
def XZ{fw:An}{d:DT}(hw:ew c=some (.recd fw))(hb:zr c=false)(hd:Dat ew d (.leaf c p)):∃ds,d=.mk 114 0 noB [] ds/\ds.length=fw.length/\∀(i:Nat) (d:DT) (f:PF),ds[i]?=some d->fw[i]?=some f->Dat ew d f.ty:=by
 have a:=xB hb;cases hd with
 |null=>exact absurd rfl a.1
 |bool=>exact absurd rfl a.2.1
 |num=>exact absurd rfl a.2.2.1
 |long=>exact absurd rfl a.2.2.2.1
 |text=>exact absurd rfl a.2.2.2.2
 |bytes he=>rw[hw]at he;cases he
 |sym he=>rw[hw]at he;cases he
 |recd he hb hl h=>
  rw[hw]at he;cases he;exact⟨_,rfl,hl,λi d f e e'=>h i d f.ty e (by rw[as_,e'];rfl)⟩
def ClP.all{er:Au}{L:PT->Nat->Prop}{K:PT->PT->Nat->Prop}(C:ClP ew er L K)(l:∀t n,L t n->∀d,Dat ew d t->kn n (ndT d)){d:DT}(h:Un ew er x y d):∀n,K x y n->kn n (ndT d):=by
 induction h with
 |alts0 hn hw h ih=>
  intro n hk;obtain⟨k,h1,a⟩:=C.alts0 _ _ _ n hk _ (ag_ hw);exact a.to (iK (ih k h1) zp_)
 |never hx hv hd=>
  intro n hk;obtain⟨k,h1,a⟩:=C.never _ _ n hk hx hv;exact a.to (l _ k h1 _ hd)
 |items hv hd hm h ih=>
  intro n hk;obtain⟨k,h1,a⟩:=C.items _ _ _ _ _ _ n hk hv;exact a.to (iK (ih k h1) hm)
 |sym hv hb hw hr hn h=>
  intro n hk;exact(C.sym _ _ _ _ n _ _ _ _ _ hk hv hb hw hr hn h).one (by rw[jI];omega)
 |field hv hb hw hr hd hg hi hf he hu ih=>
  rename_i ds d1;intro n hk;obtain⟨ks,h1,a,f⟩:=C.field _ _ _ _ n _ _ _ _ _ hk hv hb hw hr hg hi hf;obtain⟨ds',e,hl,o⟩:=XZ hw hb hd;cases e;refine f.to ?_;rw[jI];exact cM (ds:=ds) M_ (λq k d e e'=>by
   have r:q<_:=(ai_.1 e).1
   have b:=ak_ (show q<_ from h1▸r)
   have:=a q _ k b e
   split at this
   .rename_i v
    subst v
    have u:ds[q]?=some d:=e'
    rw[he]at u
    cases u
    exact ih k this
   .exact l _ k this _ (o q d _ e' b))
 |lack hv hb hw hr hd hg hi hf=>
  intro n hk;obtain⟨ks,h1,a,f⟩:=C.lack _ _ _ _ n _ _ _ hk hv hb hw hr hg hi hf;obtain⟨ds',rfl,hl,o⟩:=XZ hw hb hd;refine f.to ?_;rw[jI];exact cM (ds:=ds') M_ (λq k d e e'=>by
   have r:q<_:=(ai_.1 e).1
   have b:=ak_ (show q<_ from h1▸r)
   exact l _ k (a q _ k b e) _ (o q d _ e' b))
def nd3(d:DT):Nat:=if 300<ndT d then 301 else ndT d
def Lo(D:Df)(n:Nat):Prop:=n=0\/∃d,D d/\nd3 d=n
def Wd:∀{ds:List DT}{ks:List Nat},ks=ds.map nd3->0∉ks/\(300<1+ks.sum↔300<1+zY ds)/\(zY ds<=300->ks.sum=zY ds)
 | [],_,rfl=>⟨by simp,by simp[zY],by simp[zY]⟩
 |d::ds,_,rfl=>by
  obtain⟨h1,a,b⟩:=Wd (ds:=ds) rfl;have hd:0<ndT d:=by rw[jI];omega
  have hs:(∀k∈ds.map nd3,True):=λ_ _=>trivial;have f:(ds.map nd3).sum<=zY ds:=by
   clear h1 a b hs hd;induction ds with
   |nil=>simp[zY]
   |cons e r ih=>
    simp only[av_,List.sum_cons,zY];have:nd3 e<=ndT e:=by unfold nd3;split<;>omega
    omega
  simp only[av_,an_,not_or,List.sum_cons,zY];unfold nd3 at *;refine⟨⟨?_,h1⟩,?_,?_⟩
  .split<;>omega
  .split<;>omega
  .split<;>omega
def iG{ds:Ae}{n:Int}{x:BA}{ks:Dx}:jnN (ds.map nd3)=nd3 (.mk k n x ks ds):=by
 obtain⟨h1,a,b⟩:=Wd (ds:=ds) rfl;unfold jnN;rw[n_ h1];show _=if 300<ndT (.mk k n x ks ds) then _ else ndT (.mk k n x ks ds);rw[jI];show _=if 300<1+zY ds then _ else 1+zY ds;by_cases h:300<1+zY ds
 .rw[i_ h,i_ (a.2 h)]
 .rw[n_ h,n_ (λe=>h (a.1 e)),b M_]
def wG(s:BA)(t:PT):Prop:=∃j,pT s t.place=.ok (t,j)
def gR(h:pT s i=.ok (t,j)):wG s t:=⟨j,by rw[aV h];exact h⟩
def wG.wrap(h:wG s (.wrap c p t)):wG s t:=by
 obtain⟨j,h⟩:=h;rw[wV]at h;unfold vL at h;split at h
 .cases h
 .split at h
  .split at h
   .cases h
   .rename_i hp;split at h
    .simp only[ae_,ac_,PT.wrap.injEq]at h;obtain⟨⟨_,_,rfl⟩,_⟩:=h;exact gR hp
    .cases h
  .split at h
   .split at h
    .cases h
    .split at h<;>cases h
   .split at h<;>cases h
def Vb:∀(l:List PT) (i j:Nat),i<=s.size->pA s i=.ok (l,j)->∀t∈l,wG s t
 | [],i,j,hi,h,t,a=>by simp at a
 |x::l,i,j,hi,h,t,a=>by
  rw[PA s i hi]at h;unfold wC at h;split at h
  .cases h
  .rename_i o f hp;have hb:=(xr hi).1 _ _ hp;split at h
   .rename_i hc;have hl:=zm (s:=s) (i:=f) M_;split at h
    .cases h
    .rename_i ts k b;simp only[ae_,ac_,List.cons.injEq]at h;obtain⟨⟨rfl,rfl⟩,rfl⟩:=h;rcases an_.1 a with rfl|a
     .exact gR hp
     .exact Vb _ _ _ M_ b t a
   .simp only[ae_,ac_,List.cons.injEq]at h;obtain⟨⟨rfl,rfl⟩,rfl⟩:=h;simp only[a2_]at a;subst a;exact gR hp
def wG.alts{l:Ad}(h:wG s (.alts p l)):∀t∈l,wG s t:=by
 obtain⟨j,h⟩:=h;rw[wV]at h;unfold vL at h;split at h
 .cases h
 .split at h
  .split at h
   .cases h
   .split at h<;>cases h
  .split at h
   .rename_i hb;have hl:=zm (s:=s) (i:=PT.place (.alts p l)) M_;split at h
    .cases h
    .rename_i ts k hp;split at h
     .simp only[ae_,ac_,PT.alts.injEq]at h;obtain⟨⟨_,rfl⟩,_⟩:=h;exact Vb _ _ _ M_ hp
     .cases h
   .split at h<;>cases h
def nY:∀(n i:Nat) (l:List PF) (j:Nat),yQ s n i=.ok (l,j)->∀f∈l,wG s f.ty
 | 0,i,l,j,h=>by simp[yQ]at h
 |n+1,i,l,j,h=>by
  have one:∀f j,zL s i=.ok (f,j)->wG s f.ty:=λf j h=>by
   unfold zL at h;split at h
   .split at h
    .split at h
     .cases h
     .rename_i hp;split at h
      .split at h
       .cases h
       .simp only[ae_,ac_]at h;obtain⟨rfl,_⟩:=h;exact gR hp
      .simp only[ae_,ac_]at h;obtain⟨rfl,_⟩:=h;exact gR hp
    .cases h
   .cases h
  unfold yQ at h;split at h
  .cases h
  .rename_i b o hp;split at h
   .simp only[ae_,ac_]at h;obtain⟨rfl,_⟩:=h;intro f hf;simp only[a2_]at hf;subst hf;exact one _ _ hp
   .split at h
    .split at h
     .cases h
     .rename_i fs k a;simp only[ae_,ac_]at h;obtain⟨rfl,_⟩:=h;intro f hf;rcases an_.1 hf with rfl|hf
      .exact one _ _ hp
      .exact nY n _ _ _ a f hf
    .cases h
def Xo{fs:An}(h:yK s p=.ok (.recd fs,j)):∀f∈fs,wG s f.ty:=by
 unfold yK at h;split at h
 .split at h
  .cases h
  .rename_i ds k hp;simp only[ae_,ac_,PB.recd.injEq]at h;obtain⟨rfl,_⟩:=h;unfold yf at hp;split at hp
   .split at hp
    .simp only[ae_,ac_]at hp;obtain⟨rfl,_⟩:=hp;intro f hf;simp at hf
    .exact nY _ _ _ _ hp
   .cases hp
 .split at h
  .split at h
   .cases h
   .cases h
  .split at h
   .split at h<;>cases h
   .cases h
def rR{X:PB}(h:wG s t)(k:yK s t.place=.ok (X,j)):False:=by
 obtain⟨i,h⟩:=h;have h1:bt s t.place=114\/bt s t.place=101\/bt s t.place=102:=by
  unfold yK at k;split at k
  .exact .inl ‹_›
  .split at k
   .exact .inr (.inl ‹_›)
   .split at k
    .exact .inr (.inr ‹_›)
    .cases k
 rw[wV]at h;unfold vL at h;generalize bt s t.place=b at *;rcases h1 with rfl|rfl|rfl;all_goals
  simp[zr,zo]at h
def PW(x y:PT):Prop:=(x=y)\/∃(p:Nat) (ws:List PT) (n:Nat),y=.alts p ws/\ws[n]?=some x
def og(ho:okT e t)(h:t.isAlts=false):yt e e t t=true:=by
 cases t with
 |alts p l=>simp[PT.isAlts]at h
 |wrap c p u=>simp[yt]
 |leaf c p=>
  unfold okT at ho;simp only[yt];split
  .simp
  .rename_i hb;rcases ho with h|⟨_,pb,he⟩
   .exact absurd h hb
   .simp[he]
def Fl{r:PT}(hx:x.isAlts=false)(hm:yt e e x x=true)(hb:yu y=[])(h:PW x y)(hv:Via e e x y r):r=x:=by
 rcases h with rfl|⟨p,ws,n,rfl,hn⟩
 .rcases hv with⟨_,a⟩|⟨p,rs,k,rfl,_⟩
  .exact a
  .simp[PT.isAlts]at hx
 .rcases hv with⟨h1,_⟩|⟨p',rs,k,a,h1,b⟩
  .simp[PT.isAlts]at h1
  .cases a;unfold yu at hb;rw[gA hm ws 0 n none (gJ hb).2 hn (.inl rfl),bx_]at h1;cases h1;rw[hn]at b;exact(Option.some.inj b).symm
def Fd(hx:x.isAlts=false)(hm:yt e e x x=true)(hb:yu y=[])(h:PW x y):¬Nev e e x y:=by
 rintro hv;rcases h with rfl|⟨p,ws,n,rfl,hn⟩
 .rcases hv with⟨_,a⟩|⟨p,rs,rfl,_⟩
  .rw[hm]at a;cases a
  .simp[PT.isAlts]at hx
 .rcases hv with⟨h1,_⟩|⟨p',rs,a,h1⟩
  .simp[PT.isAlts]at h1
  .cases a;unfold yu at hb;rw[gA hm ws 0 n none (gJ hb).2 hn (.inl rfl)]at h1;cases h1
def KR(ho:okT e y)(hb:yu y=[])(h:PW x y):okT e x/\yu x=[]:=by
 rcases h with rfl|⟨p,ws,n,rfl,hn⟩
 .exact⟨ho,hb⟩
 .unfold okT at ho;unfold yu at hb;have hm:=ag_ hn;exact⟨(cK ho.2 x hm).2,((gJ hb).1 x hm).2⟩
def MQ(r:jT e)(v:∀c fs g,e c=some (.recd fs)->g∈fs->yu g.ty=[])(f:∀c fs,e c=some (.recd fs)->(fs.map PF.letter).Nodup)(u:GS e){d:DT}(h:Un e e x y d):okT e y->yu y=[]->PW x y->False:=by
 induction h with
 |alts0 hn hw h ih=>
  rename_i p n ws w1 y d1;intro ho hb a;rcases a with rfl|⟨p',A,z,rfl,h1⟩
  .exact ih ho hb (.inr ⟨_,_,_,rfl,hw⟩)
  .unfold okT at ho;have:=(cK ho.2 _ (ag_ h1)).1;simp[PT.isAlts]at this
 |never hx hv hd=>
  intro ho hb a;exact Fd hx (og (KR ho hb a).1 hx) hb a hv
 |items hv hd hm h ih=>
  intro ho hb a;obtain⟨o1,b1⟩:=KR ho hb a;have:=Fl rfl (og o1 rfl) hb a hv;cases this;unfold okT at o1;unfold yu at b1;exact ih o1.2 b1 (.inl rfl)
 |sym hv hb' hw hr hn h=>
  rename_i c p p' n y lw lr ow o;intro ho hb a;rw[hw]at hr;cases hr;obtain⟨q,l⟩:∃q,(lw.map Prod.fst)[n]?=some q:=⟨_,ak_ (by simpa using hn)⟩;have hg:(lw.map Prod.fst).getD n 0=q:=by rw[aw_,l];rfl
  rw[hg]at h;unfold jY at h;rw[qZ (u _ _ _ hw).1 l]at h;cases h
 |field hv hb' hw hr hd hg hi hf he hu ih=>
  rename_i c p p' i y fw fr g h ds d1;intro ho hb a;rw[hw]at hr;cases hr;obtain⟨k,hk⟩:=bp_ hg;have b:(fw.map PF.letter)[k]?=some g.letter:=by rw[as_,hk];rfl
  unfold vu at hi;rw[qZ (f _ _ hw) b]at hi;cases hi;rw[hk]at hf;cases hf;exact ih ((r _ _ hw) g hg) (v _ _ _ hw hg) (.inl rfl)
 |lack hv hb' hw hr hd hg hi hf=>
  rename_i c p p' y fw fr g d;intro ho hb a;rw[hw]at hr;cases hr;obtain⟨k,hk⟩:=bp_ hg;have b:(fw.map PF.letter)[k]?=some g.letter:=by rw[as_,hk];rfl
  unfold vu at hi;rw[qZ (f _ _ hw) b]at hi;cases hi
def Fr.ke{w':Aw}(h:Fr w w' N_){a:Addr}{v:Ax}(hc:w.cell? a=some v):w'.cell? a=some v:=(World.cell?_of_block (h.block a.block (World.block_lt_of_cell? w a hc) id)).trans hc
def Fr.keepF{w':Aw}(h:Fr w w' N_){a:Addr}{v:Ax}(hc:w.cell? a=some v)(hz:w.frozen? a=false):w'.frozen? a=false:=(World.frozen?_of_block (h.block a.block (World.block_lt_of_cell? w a hc) id)).trans hz
structure TP(α ρ:Type) where
 RI:World->ρ->Prop
 RS:ρ->Nat->Prop
 SV:World->(Nat->Prop)->α->Nat->Value->Prop
 QV:World->α->List Value->Prop
 Cl:List (Rw α)->α->Nat->Prop
structure TL where
 fb:Nat
 tb:Nat
 mb:Nat
 kf:Value
 ff:Value
structure TP.OK{α ρ:Type}(P:TP α ρ)(I:TI α)(L:TL):Prop where
 rs:∀W r x,P.RI W r->P.RS r x->L.fb<x/\x<W.heap.size
 rfr:∀W W' r rv g T,P.RI W r->TbW I L.fb L.tb L.mb L.kf L.ff W rv g T->Fr W W' (TbS L.tb L.mb rv)->P.RI W' r
 rnew:∀W W' r,P.RI W r->Fr W W' N_->P.RI W' r
 sv:∀W W' S S' a n d,P.SV W (λx=>¬S x) a n d->Stp W W' S S'->P.SV W' (λx=>¬S' x) a n d
 qv:∀W W' S a v,P.QV W a v->Fr W W' S->(∀x,S x->L.fb<x)->P.QV W' a v
 mono:QZ P.Cl
 z:∀W J a,P.SV W J a 0 .nilIface
 put:∀W W' r q cs,L.fb<q->P.RI W r->Blk W q cs 93->Fr W W' (λx=>x=q)->P.RI W' r
 svp:∀W W' J a n d q cs,P.SV W J a n d->Blk W q cs 93->Fr W W' (λx=>x=q)->P.SV W' J a n d
 tt:I.TT≠93/\I.RT≠93
section
variable {α ρ:Type} {P:TP α ρ} {I:TI α} {L:TL}
def TSS(P:TP α ρ)(L:TL)(rv:Ax)(r:ρ)(x:Nat):Prop:=TbS L.tb L.mb rv x\/P.RS r x
structure TbI(P:TP α ρ)(I:TI α)(L:TL)(W:Aw)(r:ρ)(rv:Ax)(g:Ar)(T:List (Rw α)):Prop where
 i:P.RI W r
 t:TbW I L.fb L.tb L.mb L.kf L.ff W rv g T
 v:∀x∈T,P.SV W (λy=>¬TSS P L rv r y) x.a x.n x.d/\P.QV W x.a x.v
def yG(P:TP α ρ)(I:TI α)(L:TL)(W:Aw)(r:ρ)(rv:Ax)(g:Ar)(T:List (Rw α))(a:α)(e:Ak)(W':Aw):Prop:=
 ∃r' rv' g' T' n d,e=.returned (.agg #[Z_ ((n:Nat):Int),d])/\n<=301/\IfV d/\TbI P I L W' r' rv' g' T'/\Stp W W' (TSS P L rv r) (TSS P L rv' r')/\Grw P.Cl T T' g g'/\P.Cl T' a n/\P.SV W' (λy=>¬TSS P L rv' r' y) a n d
def jp(P:TP α ρ)(I:TI α)(L:TL)(W:Aw)(r:ρ)(rv:Ax)(g:Ar)(T:List (Rw α))(a:α)(e:Ak)(W':Aw):Prop:=
 ∃r' rv' g' T' x,e=.returned (.agg #[Z_ ((x.n:Nat):Int),x.d])/\x∈T'/\x.a=a/\TbI P I L W' r' rv' g' T'/\Stp W W' (TSS P L rv r) (TSS P L rv' r')/\Grw P.Cl T T' g g'
def tZ(P:TP α ρ)(I:TI α)(L:TL)(W:Aw)(r:ρ)(rv:Ax)(g:Ar)(T:List (Rw α))(a:α)(e:Ak)(W':Aw):Prop:=
 ∃x,e=.returned (.agg #[Z_ ((x.n:Nat):Int),x.d])/\x∈T/\x.a=a/\TbI P I L W' r rv g T/\Stp W W' (TSS P L rv r) (TSS P L rv r)
def tZ.post{r:ρ}{T:List (Rw α)}{a:α}{e:Ak}(h:tZ P I L W r rv g T a e W'):jp P I L W r rv g T a e W':=by
 obtain⟨x,h1,b,f,l,o⟩:=h;exact⟨r,rv,g,T,x,h1,b,f,l,o,Grw.refl _ _⟩
def Lk(Cl:List (Rw α)->α->Nat->Prop)(T T':List (Rw α))(g g':Ar)(i:Nat):Prop:=
 ∃R,(g=true->g'=true)/\((T'=T++R/\(g'=true->g=true\/R≠[])/\(g'=false->(∀r∈R,Stb Cl T' r)/\∀r,T[i]?=some r->Stb Cl T' r))\/
  (g'=true/\∃r n d,T[i]?=some r/\btr n r.n=true/\n<=301/\T'=(T++R).set i ⟨r.a,r.v,n,d⟩))
def cg(P:TP α ρ)(I:TI α)(L:TL)(W:Aw)(r:ρ)(rv:Ax)(g:Ar)(T:List (Rw α))(i:Nat)(e:Ak)(W':Aw):Prop:=
 ∃r' rv' g' T',e=.returned (.tuple #[])/\TbI P I L W' r' rv' g' T'/\Stp W W' (TSS P L rv r) (TSS P L rv' r')/\Lk P.Cl T T' g g' i
def TbI.new(a:P.OK I L){r:ρ}{T:List (Rw α)}(h:TbI P I L W r rv g T)(hf:Fr W W' N_):TbI P I L W' r rv g T:=
 ⟨a.rnew _ _ _ h.i hf,h.t.new hf,λx hx=>⟨a.sv _ _ _ _ _ _ _ (h.v x hx).1 (E_ hf (λ_ h=>h)),a.qv _ _ _ _ _ (h.v x hx).2 hf (λ_ f=>f.elim)⟩⟩
def TbI.li(a:P.OK I L){r:ρ}{T:List (Rw α)}(h:TbI P I L W r rv g T){x:Nat}(hx:TSS P L rv r x):L.fb<x/\x<W.heap.size:=by
 rcases hx with hx|hx
 .exact h.t.li hx
 .exact a.rs _ _ _ h.i hx
def TbI.turn(b:P.OK I L){r:ρ}{T T':List (Rw α)}(h:TbI P I L W r rv g T)(hf:Stp W W' (TbS L.tb L.mb rv) (TbS L.tb L.mb rv'))(l:TbW I L.fb L.tb L.mb L.kf L.ff W' rv' g' T')(f:∀x∈T',x∈T\/(P.SV W' (λy=>¬TSS P L rv' r y) x.a x.n x.d/\P.QV W' x.a x.v)):TbI P I L W' r rv' g' T'/\Stp W W' (TSS P L rv r) (TSS P L rv' r):=by
 have hs:Stp W W' (TSS P L rv r) (TSS P L rv' r):=⟨hf.1.mono (λ_ _ e=>.inl e),λx hx e=>e.imp (hf.2 x hx) id⟩;refine⟨⟨b.rfr _ _ _ _ _ _ h.i h.t hf.1,l,λx hx=>?_⟩,hs⟩;rcases f x hx with hx|hx
 .exact⟨b.sv _ _ _ _ _ _ _ (h.v x hx).1 hs,b.qv _ _ _ _ _ (h.v x hx).2 hs.1 (λy hy=>(h.li b hy).1)⟩
 .exact hx
def TbI.put(a:P.OK I L){r:ρ}{T:List (Rw α)}{cs:Ay}(h:TbI P I L W r rv g T)(b:L.fb<q)(hb:Blk W q cs 93)(hf:Fr W W' (λx=>x=q)):TbI P I L W' r rv g T:=
 ⟨a.put _ _ _ _ _ b h.i hb hf,h.t.fr hf (λ_ hx e=>h.t.ot (x:=q) hb (Ne.symm a.tt.1) (Ne.symm a.tt.2) (e▸hx)),λx hx=>⟨a.svp _ _ _ _ _ _ _ _ (h.v x hx).1 hb hf,a.qv _ _ _ _ _ (h.v x hx).2 hf (λ_ e=>e▸b)⟩⟩
def LkM(P:TP α ρ)(I:TI α)(L:TL)(W:Aw)(r:ρ)(rv:Ax)(g:Ar)(T:List (Rw α))(a:α)(q:Nat)(r':ρ)(rv':Ax)(g':Ar)(T':List (Rw α))(n:Nat)(d:Ax)(V:Aw):Prop:=
 n<=301/\IfV d/\TbI P I L V r' rv' g' T'/\Stp W V (TSS P L rv r) (TSS P L rv' r')/\Grw P.Cl T T' g g'/\P.Cl T' a n/\P.SV V (λy=>¬TSS P L rv' r' y) a n d/\Blk V q [I_ n,d] 93/\W.heap.size<=q/\L.fb<q
def LkM.new(f:P.OK I L){b V:Aw}{r r':ρ}{T T':List (Rw α)}{a:α}(h:TbI P I L W r rv g T)(hf:Fr W b N_)(hn:n<=301)(hd:IfV d)(o:TbI P I L V r' rv' g' T')(hs:Stp b V (TSS P L rv r) (TSS P L rv' r'))(hg:Grw P.Cl T T' g g')(hc:P.Cl T' a n)(hv:P.SV V (λy=>¬TSS P L rv' r' y) a n d)(hb:Blk V q [I_ n,d] 93)(l:W.heap.size<=q):LkM P I L W r rv g T a q r' rv' g' T' n d V:=
 ⟨hn,hd,o,(E_ hf (λ_ h=>h)).trans hs,hg,hc,hv,hb,l,by have:=(h.li f (x:=L.tb) (.inl (.inl rfl)));omega⟩
def LkM.of(f:P.OK I L){l V:Aw}{r r':ρ}{T T':List (Rw α)}{a:α}(h:TbI P I L W r rv g T)(hf:Fr W l N_)(hn:n<=301)(hd:IfV d)(z:TbI P I L V r' rv' g' T')(hs:Stp l V (TSS P L rv r) (TSS P L rv' r'))(hg:Grw P.Cl T T' g g')(hc:P.Cl T' a n)(hv:P.SV V (λy=>¬TSS P L rv' r' y) a n d)(hb:Blk V q [O_,.nilIface] 93)(v:W.heap.size<=q):LkM P I L W r rv g T a q r' rv' g' T' n d ((V.setCell ⟨q,0,none⟩ (I_ n)).setCell ⟨q,1,none⟩ d):=by
 have b:=J_ V q 0 1 (I_ n) d;have o:L.fb<q:=by
  have:=(h.t.li (x:=L.tb) (.inl rfl));omega
 have u:Stp W V (TSS P L rv r) (TSS P L rv' r'):=(E_ hf (λ_ h=>h)).trans hs;exact⟨hn,hd,z.put f o hb b,⟨u.1.trans b (λx hx e=>M_),u.2⟩,hg,hc,f.svp _ _ _ _ _ _ _ _ hv hb b,(hb.set 0 _).set 1 _,v,o⟩
def FOK(P:TP α ρ)(I:TI α)(L:TL)(fn:Et)(fa:Ax)(A:List Value->Value)(m:Nat):Prop:=
 ∀W r rv g T a v,TbI P I L W r rv g T->I.Q a->P.QV W a v->I.N<=T.length+m->Calls prog fn #[fa,A v] W (yG P I L W r rv g T a)
def KOK(P:TP α ρ)(I:TI α)(L:TL)(fn:Et)(A:List Value->Value)(m:Nat):Prop:=
 ∀W r rv g T a v,TbI P I L W r rv g T->I.Q a->P.QV W a v->I.N<=T.length+m->Calls prog fn #[P_ L.tb,A v] W (jp P I L W r rv g T a)
def Lk.grw{Cl:List (Rw α)->α->Nat->Prop}{T T':List (Rw α)}{x:Rw α}(h:Lk Cl (T++[x]) T' g g' T.length):Grw Cl T T' g g'/\∃y,T'[T.length]?=some y/\y.a=x.a:=by
 obtain⟨R,h1,b|⟨b,r,n,d,hr,hb,hn,rfl⟩⟩:=h
 .obtain⟨rfl,o,f⟩:=b;refine⟨⟨[x]++R,by simp,h1,λ_=>.inr x8_,λe r hr=>?_⟩,x,by simp,rfl⟩;rcases a4_.1 hr with hr|hr
  .simp only[a2_]at hr;subst hr;exact(f e).2 r x8_
  .exact(f e).1 r hr
 .have l:r=x:=by simpa using hr.symm
  subst l;refine⟨⟨[⟨r.a,r.v,n,d⟩]++R,?_,h1,λ_=>.inr x8_,λe=>by rw[b]at e;cases e⟩,⟨r.a,r.v,n,d⟩,?_,rfl⟩
  .rw[bt_,List.set_append_right _ _ l_,Nat.sub_self];rfl
  .rw[bz_,i_ rfl,i_ x8_]
def Gd(Cl:List (Rw α)->α->Nat->Prop)(T:List (Rw α)):Prop:=∀r∈T,Stb Cl T r
def cw(P:TP α ρ)(I:TI α)(L:TL)(W:World)(r:ρ)(rv:Value)(a:α)(e:Ending)(W':World):Prop:=
 ∃r' rv' T' x,e=.returned (.agg #[Z_ ((x.n:Nat):Int),x.d])/\x∈T'/\x.a=a/\TbI P I L W' r' rv' false T'/\Stp W W' (TSS P L rv r) (TSS P L rv' r')/\Gd P.Cl T'
structure wZ(P:TP α ρ)(I:TI α)(L:TL)(W:Aw)(r:ρ)(rv:Ax)(a:α)(V:Aw)(r':ρ)(rv':Ax)(g':Ar)(T':List (Rw α)):Prop where
 i:TbI P I L V r' rv' g' T'
 s:Stp W V (TSS P L rv r) (TSS P L rv' r')
 a:a∈T'.map Rw.a
 b:Blk V W.heap.size [O_,.nilIface] 93
 n:¬TSS P L rv' r' W.heap.size
def SIn(Cl:List (Rw α)->α->Nat->Prop)(N n j f:Nat)(g:Ar)(T:List (Rw α)):Prop:=
 n<=T.length/\phi N T<=f/\(g=true->phi N T<f)/\(g=false->∀i x,T[i]?=some x->(i<j\/n<=i)->Stb Cl T x)
def MY{T:List (Rw α)}{r:Rw α}(hr:T[i]?=some r):(T.set i ⟨r.a,r.v,n,d⟩).map Rw.a=T.map Rw.a:=by
 rw[List.map_set];apply List.ext_getElem?;intro k;rw[bz_];split
 .rename_i e;subst e;have hi:=(ai_.1 hr).1;rw[as_,hr];simp[hi]
 .rfl
def Lk.mem{Cl:List (Rw α)->α->Nat->Prop}{T T':List (Rw α)}{a:α}(h:Lk Cl T T' g g' i)(ha:a∈T.map Rw.a):a∈T'.map Rw.a:=by
 obtain⟨R,_,⟨rfl,_⟩|⟨_,r,n,d,hr,_,_,rfl⟩⟩:=h
 .rw[bb_];exact by_ _ ha
 .rw[MY (by rw[aq_ (ai_.1 hr).1];exact hr),bb_];exact by_ _ ha
def SIn.step{Cl:List (Rw α)->α->Nat->Prop}(M:QZ Cl){N f:Nat}{T T':List (Rw α)}(h:SIn Cl N n j f g T)(hl:Lk Cl T T' g g' j)(b:T'.length<=N)(C:∀r∈T,r.n<=301)(l:∀r∈T',r.n<=301):SIn Cl N n (j+1) f g' T':=by
 obtain⟨h1,K,z,A⟩:=h;obtain⟨R,H,⟨rfl,J,o⟩|⟨rfl,r,m,d,hr,hb,hm,rfl⟩⟩:=hl
 .have hp:=ai (T:=T) (R:=R) b (λr hr=>l r (b4_ _ hr));refine⟨by rw[ah_];omega,M_,λe=>?_,λe i x hx hi=>?_⟩
  .rcases J e with e|e
   .have:=z e;omega
   .have:R.length≠0:=λe'=>e (List.length_eq_zero_iff.1 e');omega
  .have u:g=false:=by
    cases g with
    |false=>rfl
    |true=>rw[H rfl]at e;cases e
   by_cases F:i<T.length
   .rw[aq_ F]at hx;by_cases B:i=j
    .subst B;exact(o e).2 x hx
    .exact(A u i x hx M_).more M R
   .rw[au_ M_]at hx;exact(o e).1 x (ag_ hx)
 .have E:=(ai_.1 hr).1;have G:(T++R)[j]?=some r:=by rw[aq_ E];exact hr
  rw[bn_]at b;have hp:=Fg (N:=N) (r':=⟨r.a,r.v,m,d⟩) G (C r (ag_ hr)) hb hm;have B:∀x∈R,x.n<=301:=λx hx=>by
   obtain⟨i,hi⟩:=bp_ hx;refine l x (ag_ (i:=T.length+i) ?_);rw[bz_,n_ M_,au_ M_,show T.length+i-T.length=i by omega];exact hi
  have O:=ai (T:=T) (R:=R) b B;exact⟨by rw[bn_,ah_];omega,M_,λ_=>M_,λe=>by cases e⟩
end
@[reducible] def ID {α:Type}(kv:α->Value) (Q:α->Prop) (num:α->Nat) (N:Nat):TI α:=⟨210,287,3,1,kv,Q,num,N⟩
section
variable {α ρ:Type} {P:TP α ρ} {kv:α->Value} {Q:α->Prop} {num:α->Nat} {N fb tb mb:Nat} {kf:Ax} {fn:Et} {fa:Ax}
def TbI.cellsD{r:ρ}{T:List (Rw α)}{L:TL}(h:TbI P (ID kv Q num N) L W r rv g T){x:Rw α}(hx:T[i]?=some x):∃b l u,rv=S_ b T.length l/\x.v=[u]/\W.cell? ⟨b,i*3,none⟩=some u/\W.cell? ⟨b,i*3+1,none⟩=some (I_ x.n)/\W.cell? ⟨b,i*3+1+1,none⟩=some x.d/\W.frozen? ⟨b,i*3+1,none⟩=false/\W.frozen? ⟨b,i*3+1+1,none⟩=false:=by
 obtain⟨b,l,e,h1⟩:=h.t.cell hx;have hl:x.v.length=1:=(h.t.q x (ag_ hx)).2.1;obtain⟨u,hu⟩:=List.length_eq_one_iff.1 hl;have o:=h1 0 (by show 0<1+2;omega);have a:=h1 1 (by show 1<1+2;omega);have f:=h1 2 (by show 2<1+2;omega);simp only[Rw.cells,hu]at o a f;exact⟨b,l,u,e,hu,o.1,a.1,f.1,a.2,f.2⟩
def rD:∀W x,(method 545 93 x "Betters").run prog W=.ok (172,x) W:=by intro W x;kernel_rfl
def By{r:ρ}{T:List (Rw α)}{x:Rw α}(U:(ID kv Q num N).OK)(z:P.OK (ID kv Q num N) ⟨fb,tb,mb,kf,.func (.func fn) #[fa] #[]⟩)(hB:∀(w:World) (n m:Nat) (dv kv:Value),Calls prog 172 #[.agg #[I_ n,dv],.agg #[I_ m,kv]] w λe w'=>e=.returned (.bool (btr n m))/\Fr w w' N_)(b6:∀a4 W,(callFunc fn a4).run prog W=.ok (.enter fn a4) W)(h:TbI P (ID kv Q num N) ⟨fb,tb,mb,kf,.func (.func fn) #[fa] #[]⟩ W r rv g T)(hx:T[i]?=some x)(H:∀W' u,Fr W W' N_->x.v=[u]->Calls prog fn #[fa,u] W' (yG P (ID kv Q num N) ⟨fb,tb,mb,kf,.func (.func fn) #[fa] #[]⟩ W' r rv g T x.a)):Calls prog 129 #[P_ tb,I_ i] W (cg P (ID kv Q num N) ⟨fb,tb,mb,kf,.func (.func fn) #[fa] #[]⟩ W r rv g T i):=by
 obtain⟨a3,X⟩:=y_ (cg P (ID kv Q num N) ⟨fb,tb,mb,kf,.func (.func fn) #[fa] #[]⟩ W r rv g T i);rw[<- X.o];obtain⟨b,a5,u,rfl,hu,e0,e1,e2,-,-⟩:=h.cellsD hx;have hi:=(ai_.1 hx).1;have b8:(i:Int)<(T.length:Int):=M_;have c1:=h.t.b.c1;have c2:=h.t.b.c2;have a2:=zy (λW' hW=>H W' u hW hu);replace h:=zy h;replace hx:=zy hx;replace hB:=zy hB;go_in;go_upto_region 0 with fail;go_cut [4] (λv V=>∃q r' rv' g' T' n d,v=P_ q/\H_ (LkM P (ID kv Q num N) ⟨fb,tb,mb,kf,.func (.func fn) #[fa] #[]⟩ W r (S_ b T.length a5) g T x.a q r' rv' g' T' n d V));case first=>
  refine tr_ 12 (λV=>z_ V tb 1 (.func (.func fn) #[fa] #[])/\z_ V tb 2 (S_ b T.length a5)/\z_ V b (i*3) u) ?_;refine tB_ 0 [1,2,3,12] ?_;refine tB_ 1 [2,3,12] ?_;refine tB_ 2 [3,12] ?_;refine tB_ 3 [12] ?_;refine tB_ 4 [5,6,7,9,10,11,12] ?_;refine tB_ 5 [6,7,9,10,11,12] ?_;refine tB_ 6 [7,9,10,11,12] ?_;refine tB_ 7 [9,10,11,12] ?_;refine tB_ 8 [9,10,11,12] ?_;refine tB_ 9 [10,11,12] ?_;refine tB_ 10 [11,12] ?_;refine tB_ 11 [12] ?_;refine jV 12 13 rfl rfl K_ (λ_=>⟨c1,c2,e0⟩) (λK B=>?_) (λK B=>?_)
  .go_simp;apply(a2.o _ (A_ W _).drew).mono;rintro e w1 ⟨r',rv',g',T',n,d,rfl,hn,hd,f,hs,hg,hc,hv⟩;refine B _ _ ?_;have sD:=λW a m=>run_store prog W a d m hd.one;have S:=(A_ w1 N_).alloc (.cells #[I_ n,d] 93);have fin:=zy (LkM.new z h (A_ W _).drew hn hd (f.new z S) (hs.trans (E_ S (λ_ h=>h))) hg hc (z.sv _ _ _ _ _ _ _ hv (E_ S (λ_ h=>h))) (B_ w1 #[I_ n,d] 93) hs.1.size);refine t0_ 13 ?_;refine t0_ 14 ?_;refine td_ ?_ _;go_wp2;go_meet;exact⟨_,_,_,_,_,_,_,rfl,fin⟩
  .go_simp;refine B _ _ ?_;have C:=(A_ W N_).alloc (.cells #[O_,.nilIface] 93);have B0:=B_ W #[O_,.nilIface] 93;have F:=((h.o.t.new C).b.cell 1);have G:=((h.o.t.new C).b.cell 2);have f0:(W.alloc (.cells #[O_,.nilIface] 93)).cell? ⟨b,i*3,none⟩=some u:=by
    have:=C.block b (h.o.t.li (x:=b) (.inr (.inr rfl))).2 id;rw[World.cell?_of_block this];exact e0
   simp only[aa_,ab_]at F G;refine zh 12 rfl K_ (λ_=>⟨F,G,f0⟩) (λK B=>?_);go_simp;apply(a2.o _ C.drew).mono;rintro e w1 ⟨r',rv',g',T',n,d,rfl,hn,hd,f,hs,hg,hc,hv⟩;refine B _ _ ?_;have sD:=λW a m=>run_store prog W a d m hd.one;have E:Blk w1 W.heap.size [O_,.nilIface] 93:=hs.1.bl B0.drew (λe=>absurd (h.o.li z e).2 (a5_ _));have fin:=zy (LkM.of z h C.drew hn hd f hs hg hc hv E l_);have k0:=E.c0;have k1:=E.c1;have t0:=E.th 0;have t1:=E.th 1;refine t0_ 14 ?_;refine td_ ?_ _;go_wp2;go_meet;exact⟨_,_,_,_,_,_,_,rfl,fin⟩
 case rest=>
  obtain⟨q,r',rv',g',T',n,d,rfl,hM⟩:=hcut;obtain⟨hn,hd,f,hs,hg,hc,hv,hb,hq,b7⟩:=hM.o;obtain⟨R,rfl,g1,g2,g3⟩:=hg;have O:(T++R)[i]?=some x:=by rw[aq_ hi];exact hx
  obtain⟨A,a1,u',rfl,hu,a0,Y,Z,F,G⟩:=f.cellsD O;have b9:(i:Int)<((T++R).length:Int):=by rw[ah_];omega
  have a9:=((f.t.q x (ag_ O)).2.2.2).one;have c2:=f.t.b.c2;have t4:=f.t.b.th 4;have c4:=f.t.b.c4;have q0:=hb.c0;have q1:=hb.c1;have s1:=λW a m=>run_store prog W a d m hd.one;have b5:=rD;have a8:A≠tb:=λe=>(f.t.apart U).2.1 zn_;have d2:=Ne.symm a8;have no:H_ (∀V,Fr wc V N_->btr n x.n=false->a3 (.returned (.tuple #[])) V):=zy (λV J e=>by
   rw[X.o]
   exact⟨r',_,g',T++R,rfl,f.new z J,hs.trans (E_ J (λ_ h=>h)),R,g1,.inl ⟨rfl,g2,λe'=>⟨g3 e',λy hy=>by rw[hx.o]at hy;cases hy;exact⟨n,hc,e⟩⟩⟩⟩)
  have b4:H_ (∀V,Fr wc V N_->btr n x.n=true->a3 (.returned (.tuple #[])) (((V.setCell ⟨A,i*3+1,none⟩ (I_ n)).setCell ⟨A,i*3+1+1,none⟩ d).setCell ⟨tb,4,none⟩ (.bool true)).drew):=zy (λV J e=>by
   have h1:=f.new z J
   have h2:=((h1.t.set U O hn hd).flag U true).new (A_ _ _).drew
   have H:Fr V (((V.setCell ⟨A,i*3+1,none⟩ (I_ n)).setCell ⟨A,i*3+1+1,none⟩ d).setCell ⟨tb,4,none⟩ (.bool true)).drew (TbS tb mb (S_ A (T++R).length a1)):=(((J_ V A _ _ _ _).mono (λx _ e=>.inr (.inr zn_))).setCell _ _ (λ_=>.inl rfl)).drew
   have h3:=h1.turn z (rv':=S_ A (T++R).length a1) ⟨H,λ_ _ h=>h⟩ h2 (λy hy=>by
    rcases List.mem_or_eq_of_mem_set hy with hy|rfl
    .exact .inl hy
    .refine .inr ⟨z.sv _ _ _ _ _ _ _ (z.sv _ _ _ _ _ _ _ hv (E_ J (λ_ h=>h))) ⟨H.mono (λ_ _ e=>.inl e),λ_ _ h=>h⟩,?_⟩
     exact z.qv _ _ _ _ _ (h1.v x (ag_ O)).2 H (λy hy=>(h1.t.li hy).1))
   rw[X.o]
   exact⟨r',_,true,_,rfl,h3.1,(hs.trans (E_ J (λ_ h=>h))).trans h3.2,R,λ_=>rfl,.inr ⟨rfl,x,n,d,hx,e,hn,rfl⟩⟩)
  generalize x.n=xn at *;generalize x.d=xd at *;generalize (T++R).length=M at *;go_wp2;refine tr_ 10 (λV=>z_ V tb 2 (S_ A M a1)/\z_ V q 0 (I_ n)/\z_ V q 1 d/\z_ V A (i*3+1) (I_ xn)/\z_ V A (i*3+1+1) xd) ?_;refine tB_ 0 [1,10] ?_;refine tB_ 1 [10] ?_;refine tB_ 2 [3,4,5,7,8,9,10] ?_;refine tB_ 3 [4,5,7,8,9,10] ?_;refine tB_ 4 [5,7,8,9,10] ?_;refine tB_ 5 [7,8,9,10] ?_;refine tB_ 6 [7,8,9,10] ?_;refine tB_ 7 [8,9,10] ?_;refine tB_ 8 [9,10] ?_;refine tB_ 9 [10] ?_;refine zh 10 rfl K_ (λ_=>⟨c2,q0,q1,Y,Z⟩) (λK B=>?_);go_simp;apply(hB.o _ n xn d xd).mono;rintro e w2 ⟨rfl,a7⟩;refine B _ _ ?_;have l:Fr wc w2 N_:=(A_ wc _).drew.trans a7 u_;have x1:=l.keepF Y F;have x2:=l.keepF Z G;have x3:=l.keepF c4 t4;have k2:=l.ke c2;have k4:=l.ke c4;have p0:=l.ke q0;have p1:=l.ke q1;replace Y:=l.ke Y;replace Z:=l.ke Z;replace l:=zy l;refine td_ ?_ _;cases a6:btr n xn
  .go_wp2;go_end0;exact no.o _ l a6
  .go_wp2;refine tr_ 8 (λV=>z_ V tb 2 (S_ A M a1)/\z_ V q 0 (I_ n)/\z_ V q 1 d) ?_;refine tz_ 0 ?_;refine tz_ 1 ?_;refine tz_ 2 ?_;refine tz_ 3 ?_;refine tz_ 4 ?_;refine tz_ 5 ?_;refine tB_ 6 [7,8] ?_;refine tz_ 7 ?_;refine t1_ 8 ⟨k2,p0,p1⟩ ?_;refine td_ ?_ _;go_wp2;go_end0;exact b4.o _ l a6
end
end Go.Proofs.YtamhgejdkclmdaaGreatDoor
