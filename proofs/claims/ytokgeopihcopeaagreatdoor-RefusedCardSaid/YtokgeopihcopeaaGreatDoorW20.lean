import Derived.Test.YtokgeopihcopeaaGreatDoorW19
import Derived.LaidEql
import Derived.Stop.Asserts
set_option linter.unusedVariables false
set_option maxHeartbeats 16000000
set_option maxRecDepth 100000
set_option linter.defProp false
set_option linter.unusedSimpArgs false
open Go.Proofs.Tryz
namespace Go.Proofs.YtokgeopihcopeaaGreatDoor
open Go.RowKit
variable {lo c j:Nat}{ev v:Ax}{d:DT}{W:Aw}{a:Addr}{dm b x:BA}
def Be(LL:List DT×Nat×Nat)(R:PT->Nat->Nat->Except Nat (DT×Nat×Nat))(fs:An)(n:Nat)(P:Az)(ss:BA)(ds:Ar)(sv rv:Ax)(xs:Ay)(s:BA)(br:Nat)(cx:Ay)(ct:Av)(t:PT)(w:Aw)(q:Nat)(v6 v14:Ax)(W:Aw):Prop:=
 ∃(l:List DT) (j nn:Nat),v14=I_ l.length/\l.length<=fs.length/\n<=nn/\nn<=300/\302<=q+l.length/\H_ (YL P ss ds sv rv xs s br j nn cx ct t w v6 l W)/\.ok LL=mq l (xU R ((fs.map PF.ty).drop l.length) j nn)
section
variable {w:Aw} {P:Az} {ss:BA} {ds:Ar} {sv rv:Ax} {xs:Ay} {s:BA} {br i n:Nat}
def eW{fs:An}{t:PT}{f:Nat}{pt:Int}{fv:Ax}{zs:Ay}(M:YC P ss ds sv rv xs s br i n w)(hn:n<=300)(r:xh w P ss fs fv zs)(Q:fs.length<=300)(B:∀k g,fs[k]?=some g->yg (zx ds) t 0 k=g.ty)(hR:∀g∈fs,∀j nn,n<=nn->nn<=300->j<=s.size->db P ss ds sv rv xs s br f g.ty j nn){LL:List DT×Nat×Nat}(D:xU (rdB s (zx ds) f) (fs.map PF.ty) i n=.ok LL):Calls prog 136 #[P_ br,.agg #[Z_ pt,fv]] w (yk (zx ds) t w sv rv s br (.mk 114 0 noB [] LL.1,LL.2)):=by
 refine hq_ λQ K=>?_;have Q:=M.hs;have N:=M.lt;have hnb:=M.brP;obtain⟨h,m,rfl⟩:=zw r.row;have A:Fr w (w.alloc (.cells #[Z_ pt,.slice h fs.length m] 231)) N_:=(A_ w _).alloc _;have C:=M.new A;have y:=B_ w #[Z_ pt,.slice h fs.length m] 231;have start:H_ (Be LL (rdB s (zx ds) f) fs n P ss ds sv rv xs s br [Z_ pt,.slice h fs.length m] 231 t w 302 (L_) (O_) (w.alloc (.cells #[Z_ pt,.slice h fs.length m] 231))):=zy ⟨[],i,n,rfl,by simp,l_,hn,by simp,zy ⟨C,A.mono v_,y,by simp,N,jY.nil _ _ _ _ _⟩,by rw[Xc];exact D.symm⟩;clear D;replace hR:=zy hR;replace r:=zy r;replace B:=zy B;have hb1:=y.c1;clear M C A y;go_in;go_wp2;go_loopg [6,8,9,10,14] 302 (λq C y y y y W=>Be LL (rdB s (zx ds) f) fs n P ss ds sv rv xs s br [Z_ pt,.slice h fs.length m] 231 t w q C y W);case atStart=>exact start
 case round=>
  clear start hb1;obtain⟨l,j,nn,rfl,h,hnn,hnn3,h,hQ,hres⟩:=hrel;obtain⟨Y,hrow,hY⟩:=hQ.o.row;obtain⟨la,lc,rfl⟩:=zw hrow;by_cases G:l.length=fs.length
  .have O:¬(l.length:Int)<(fs.length:Int):=M_;obtain rfl:LL=(l,j,nn):=by rw[List.drop_of_length_le x1_]at hres;simp[xU,mq]at hres;exact hres
   have h:=zy hQ.o.row;clear hres hrow hY G;go_wp2;try go_ret
   rw[K.o];refine yok ?_ hQ.o.fr hQ.o.M.R hQ.o.M.il;exact h.o.dat (λg _ hg=>M_) (λg e=>by have:=h.o;obtain⟨_,a,_⟩:=this;have:=(a.lt g e).1;show w.heap.size<=g;omega) (.inr ⟨rfl,rfl⟩)
  .have O:(l.length:Int)<(fs.length:Int):=M_;have h:l.length<fs.length:=M_;have hd:fs[l.length]?=some fs[l.length]:=aj_ h;have hmem:fs[l.length]∈fs:=bi_ h;have F:(fs.map PF.ty).drop l.length=fs[l.length].ty::(fs.map PF.ty).drop (l.length+1):=by
    rw[bs_ (by simpa using h),List.getElem_map]
   rw[F,Zv]at hres;generalize fs[l.length]=g0 at hd hmem hres;have z:=r.o.fr hQ.o.fr (λg hg e=>hnb (e▸hg));obtain⟨h,h,h⟩:=zg z.row M_;cases h;obtain⟨T,x,d0,c0,c1,c2,c3,hT,L⟩:=z.cells hd;obtain⟨lt,H⟩:=x_ g0.letter;obtain⟨J,I⟩:=x_ g0.place;rw[H]at c1;rw[I]at c0;have hsb:=zy (B.o _ _ hd);have A1:=(A_ wr N_).alloc (.cells #[I_ J,U_ lt,.iface T x,.pointer d0] 194);have hz1:(wr.alloc (.cells #[I_ J,U_ lt,.iface T x,.pointer d0] 194)).heap.size=wr.heap.size+1:=x6_
   have Q0:=hQ.o.call (A1.bl hQ.o.M.R id) (A1.mono v_) hQ.o.M.il;have h:=hQ.o.bB;have h:=hQ.o.lt;have hL3:l.length<=300:=M_;replace hz1:=zy hz1;clear L z H I F G;cases hrd:rdB s (zx ds) f g0.ty j nn with
   |error e0=>rw[hrd]at hres;cases hres
   |ok r1=>
    have cc1:=Nat;exact cwVm1_
end
def cK(s:BA)(env:Au)(f:Nat)(t:PT)(i n:Nat):Except Nat (DT×Nat×Nat):=
 match t with
 | .leaf c _=>jO (rdB s env f) s env c i n
 | .wrap c _ t=>uz (rdB s env f t) s c i n
 | .alts _ ts=>fZ (rdB s env f) s ts i n
def Kt(s:BA)(env:Au)(f:Nat)(t:PT)(i n:Nat):rdB s env (f+1) t i n=if 300<=n then .error 7 else cK s env f t i (n+1):=by
 cases t<;>(rw[rdB];rfl)
def Pn(s:BA)(i:Nat):wt s (-9223372036854775808) 9223372036854775807 i=bL s i:=by
 unfold wt;cases h:bL s i with
 |none=>rfl
 |some q=>
  obtain⟨z,j⟩:=q;have:=ep h;simp only;rw[i_ ⟨this.2.2.1,this.2.2.2⟩]
def tY(P:Az)(ss:BA)(ds:Ar)(sv rv:Ax)(xs:Ay)(s:BA)(br f:Nat)(t:PT)(i n:Nat):Prop:=
 ∀(w:World) (v:Value) (q:DT×Nat×Nat),YC P ss ds sv rv xs s br i n w->n<=300->TyV w P t v->cK s (zx ds) f t i n=.ok q->
  Calls prog 84 #[P_ br,v] w (yk (zx ds) t w sv rv s br q)
def PK(P:Az)(ss:BA)(ds:Ar)(sv rv:Ax)(xs:Ay)(s:BA)(br f c p:Nat)(b:PB)(i n:Nat):Prop:=
 ∀(w:World) (v:Value) (q:DT×Nat×Nat),YC P ss ds sv rv xs s br i n w->n<=300->yV w P ss b v->kZ (rdB s (zx ds) f) s b i n=.ok q->
  Calls prog 84 #[P_ br,v] w (yk (zx ds) (.leaf c p) w sv rv s br q)
section
variable {P:Az} {ss:BA} {ds:Ar} {sv rv:Ax} {xs:Ay} {s:BA} {br i n:Nat} {f p:Nat}
def Pr:tY P ss ds sv rv xs s br f (.leaf 110 p) i n:=by
 intro w v q M hn k e;obtain rfl:v=.iface 215 (.agg #[I_ p]):=by
  cases k with
  |base _ _ h=>rfl
  |name _ _ h=>exact absurd h D_
 refine hq_ λg l=>?_;unfold cK at e;simp only at e;unfold jO at e;have A:Fr w (w.alloc (.cells #[I_ p] 215)) N_:=(A_ w _).alloc _;have g:=M.new A;rw[i_ rfl]at e;cases e;replace g:=zy g;replace A:=zy A;go_in;go_wp2;try go_ret
 rw[l.o];exact yok (V_ .nothing D_) (A.o.mono v_) g.o.R g.o.il
def Pl:tY P ss ds sv rv xs s br f (.leaf 116 p) i n:=by
 intro w v q M hn m g;obtain rfl:v=.iface 217 (.agg #[I_ p]):=by
  cases m with
  |base _ _ h=>rfl
  |name _ _ h=>exact absurd h D_
 refine hq_ λl r=>?_;unfold cK at g;simp only at g;unfold jO at g;have A:Fr w (w.alloc (.cells #[I_ p] 217)) N_:=(A_ w _).alloc _;have l:=M.new A;rw[n_ D_,i_ rfl]at g;have u:=zy (Zm (env:=zx ds) (t:=.leaf 116 p) l g);replace A:=zy A;go_in;go_wp2_with (go_at_call 130;apply u.o.mono;intro e g y;obtain⟨z,rfl,k⟩:=y;replace k:=zy k);try go_ret
 rw[r.o];exact yk.pre A ⟨z,rfl,k⟩
def Pt:tY P ss ds sv rv xs s br f (.leaf 105 p) i n:=by
 intro w v q M hn m g;obtain rfl:v=.iface 218 (.agg #[I_ p]):=by
  cases m with
  |base _ _ h=>rfl
  |name _ _ h=>exact absurd h D_
 refine hq_ λl r=>?_;unfold cK at g;simp only at g;unfold jO at g;have A:Fr w (w.alloc (.cells #[I_ p] 218)) N_:=(A_ w _).alloc _;have l:=M.new A;rw[n_ D_,n_ D_,i_ rfl]at g;have u:=zy (pG (env:=zx ds) (t:=.leaf 105 p) (c:=105) (lo:=-2147483648) (up:=2147483647) (.inl rfl) l g);replace A:=zy A;go_in;go_wp2_with (go_at_call 131;apply u.o.mono;intro e g y;obtain⟨z,rfl,k⟩:=y;replace k:=zy k);try go_ret
 rw[r.o];exact yk.pre A ⟨z,rfl,k⟩
def Pd:tY P ss ds sv rv xs s br f (.leaf 108 p) i n:=by
 intro w v q M hn m g;obtain rfl:v=.iface 219 (.agg #[I_ p]):=by
  cases m with
  |base _ _ h=>rfl
  |name _ _ h=>exact absurd h D_
 refine hq_ λl r=>?_;unfold cK at g;simp only at g;unfold jO at g;have A:Fr w (w.alloc (.cells #[I_ p] 219)) N_:=(A_ w _).alloc _;have l:=M.new A;rw[n_ D_,n_ D_,n_ D_,i_ rfl]at g;rw[<- Pn]at g;have u:=zy (pG (env:=zx ds) (t:=.leaf 108 p) (c:=108) (lo:=-9223372036854775808) (up:=9223372036854775807) (.inr rfl) l g);replace A:=zy A;go_in;go_wp2_with (go_at_call 131;apply u.o.mono;intro e g y;obtain⟨z,rfl,k⟩:=y;replace k:=zy k);try go_ret
 rw[r.o];exact yk.pre A ⟨z,rfl,k⟩
def Ph:tY P ss ds sv rv xs s br f (.leaf 115 p) i n:=by
 intro w v q M hn m g;obtain rfl:v=.iface 220 (.agg #[I_ p]):=by
  cases m with
  |base _ _ h=>rfl
  |name _ _ h=>exact absurd h D_
 refine hq_ λl r=>?_;unfold cK at g;simp only at g;unfold jO at g;have A:Fr w (w.alloc (.cells #[I_ p] 220)) N_:=(A_ w _).alloc _;have l:=M.new A;rw[n_ D_,n_ D_,n_ D_,n_ D_,i_ rfl]at g;have u:=zy (Vu (env:=zx ds) (t:=.leaf 115 p) l g);replace A:=zy A;go_in;go_wp2_with (go_at_call 132;apply u.o.mono;intro e g y;obtain⟨z,rfl,k⟩:=y;replace k:=zy k);try go_ret
 rw[r.o];exact yk.pre A ⟨z,rfl,k⟩
def UU{t:PT}(hI:∀j nn,n<=nn->nn<=300->j<=s.size->db P ss ds sv rv xs s br f t j nn):tY P ss ds sv rv xs s br f (.wrap 91 p t) i n:=by
 have cc1:=Nat
 exact cq17_
def Pc{t:PT}(hI:∀j nn,n<=nn->nn<=300->j<=s.size->db P ss ds sv rv xs s br f t j nn):tY P ss ds sv rv xs s br f (.wrap 123 p t) i n:=by
 have cc1:=Nat
 exact cq16_
def UC{l:Af}(hl:l.length<=4000)(u:∀t∈l,∀j,j<=s.size->db P ss ds sv rv xs s br f t j n):tY P ss ds sv rv xs s br f (.alts p l) i n:=by
 intro w v q M hn y r;obtain⟨X,k,ho,hP,hX,rfl⟩:∃(X:Nat->Value) (k:Value),w.ownsRow 0 46 1 k l.length ((List.range l.length).map X)/\(∀g,k.ownBlock=some g->P g)/\(∀i t,l[i]?=some t->TyV w P t (X i))/\v=.iface 226 (.agg #[I_ p,k]):=by
  cases y with
  |alts _ X ho hP h=>exact⟨X,_,ho,hP,h,rfl⟩
 obtain⟨B,C,rfl⟩:=zw ho;refine hq_ λk z=>?_;unfold cK at r;simp only at r;have A:Fr w (w.alloc (.cells #[I_ p,.slice B l.length C] 226)) N_:=(A_ w _).alloc _;have k:=M.new A;have y:=zy (Zu (p:=p) (pt:=(p:Int)) k hn hl (zj ho A u_) hP (λi t e=>(hX i t e).fr A u_) u r);replace A:=zy A;go_in;go_wp2_with (go_at_call 135;apply y.o.mono;intro e k D;obtain⟨F,rfl,m⟩:=D;replace m:=zy m);try go_ret
 rw[z.o];exact yk.pre A ⟨F,rfl,m⟩
def WG{fs:An}(hb:zx ds c=some (.recd fs))(I:fs.length<=300)(B:∀g∈fs,∀j nn,n<=nn->nn<=300->j<=s.size->db P ss ds sv rv xs s br f g.ty j nn):PK P ss ds sv rv xs s br f c p (.recd fs) i n:=by
 intro w v q M hn C l;obtain⟨D,m,zs,ho,hP,h,rfl⟩:∃(p:Nat) (m:Value) (zs:List Value),w.ownsRow 0 194 4 m fs.length zs/\(∀g,m.ownBlock=some g->P g)/\xG w P ss fs zs/\v=.iface 231 (.agg #[I_ p,m]):=by
  cases C with
  |recd p ho hP h=>exact⟨p,_,_,ho,hP,h,rfl⟩
 obtain⟨y,z,rfl⟩:=zw ho;refine hq_ λm F=>?_;unfold kZ at l;simp only at l;obtain⟨LL,H,rfl⟩:∃r,xU (rdB s (zx ds) f) (fs.map PF.ty) i n=.ok r/\q=(.mk 114 0 noB [] r.1,r.2):=by
  cases hx:xU (rdB s (zx ds) f) (fs.map PF.ty) i n with
  |error e=>rw[hx]at l;cases l
  |ok r=>rw[hx]at l;cases l;exact⟨r,rfl,rfl⟩
 have A:Fr w (w.alloc (.cells #[I_ D,.slice y fs.length z] 231)) N_:=(A_ w _).alloc _;have m:=M.new A;have l:xh w P ss fs (.slice y fs.length z) zs:=⟨ho,hP,h⟩;have y:=zy (eW (t:=.leaf c p) (pt:=(D:Int)) m hn (l.fr A u_) I (λk g e=>by simp[yg,hb,as_,e]) B H);replace A:=zy A;go_in;go_wp2_with (go_at_call 136;apply y.o.mono;intro e l G;obtain⟨J,rfl,u⟩:=G;replace u:=zy u);try go_ret
 rw[F.o];exact yk.pre A ⟨J,rfl,u⟩
def WP{l:As}{o:Ac}(hb:zx ds c=some (.enum l o))(B:∀q∈l,zl q.1=true)(I:l.length<=300):PK P ss ds sv rv xs s br f c p (.enum l o) i n:=by
 intro w v q M hn z y;obtain⟨C,m,u,ho,hP,hu,rfl⟩:∃(p:Nat) (m u:Value),w.ownsRow 0 191 2 m l.length (zE l)/\(∀g,m.ownBlock=some g->P g)/\qb w P o u/\v=.iface 236 (.agg #[I_ p,m,u]):=by
  cases z with
  |enum p ho hP h=>exact⟨p,_,_,ho,hP,h,rfl⟩
 obtain⟨F,G,rfl⟩:=zw ho;obtain⟨dd,rfl⟩:∃d,u=.pointer d:=by
  unfold qb at hu;split at hu
  .exact⟨_,hu⟩
  .obtain⟨g',_,e,_⟩:=hu;exact⟨_,e⟩
 refine hq_ λm D=>?_;unfold kZ at y;simp only at y;have A:Fr w (w.alloc (.cells #[I_ C,.slice F l.length G,.pointer dd] 236)) N_:=(A_ w _).alloc _;have m:=M.new A;have z:=zy (eK (t:=.leaf c p) (pt:=(C:Int)) (dd:=dd) m I B (zj ho A u_) hP (λk=>by simp[fU,hb]) y);replace A:=zy A;go_in;go_wp2_with (go_at_call 137;apply z.o.mono;intro e m H;obtain⟨J,rfl,r⟩:=H;replace r:=zy r);try go_ret
 rw[D.o];exact yk.pre A ⟨J,rfl,r⟩
def JT{k:Nat}(hk:k<=9):PK P ss ds sv rv xs s br f c p (.bytes k) i n:=by
 intro w v q M hn l h;obtain⟨m,rfl⟩:∃p:Nat,v=.iface 238 (.agg #[I_ p,I_ k]):=by
  cases l with
  |bytes p n=>exact⟨p,rfl⟩
 refine hq_ λu r=>?_;unfold kZ at h;simp only at h;have A:Fr w (w.alloc (.cells #[I_ m,I_ k] 238)) N_:=(A_ w _).alloc _;have l:=M.new A;have u:=zy (Zc (t:=.leaf c p) (pt:=(m:Int)) l hk h);replace A:=zy A;go_in;go_wp2_with (go_at_call 138;apply u.o.mono;intro e h y;obtain⟨z,rfl,g⟩:=y;replace g:=zy g);try go_ret
 rw[r.o];exact yk.pre A ⟨z,rfl,g⟩
def Gx(hc:zY c=true){b:PB}(hb:zx ds c=some b)(U:PK P ss ds sv rv xs s br f c p b i n):tY P ss ds sv rv xs s br f (.leaf c p) i n:=by
 intro w v q M hn H J;have Y:65<=c/\c<=70:=z7_
 obtain rfl:v=.iface 229 (.agg #[I_ p,U_ c]):=by
  cases H with
  |base _ _ h=>
   simp only[zi,ay_,beq_iff_eq]at h;omega
  |name _ _ h=>rfl
 have hr:cK s (zx ds) f (.leaf c p) i n=kZ (rdB s (zx ds) f) s b i n:=by
  unfold cK;simp only;unfold jO;rw[n_ M_,n_ M_,n_ M_,n_ M_,n_ M_,hb]
 rw[hr]at J;refine hq_ λY T=>?_;have A:Fr w (w.alloc (.cells #[I_ p,U_ c] 229)) N_:=(A_ w _).alloc _;have g:=M.new A;have k:=B_ w #[I_ p,U_ c] 229;have Y:=M.lt;have I:=zy (And.intro g (And.intro k A));clear hr H M g k A;go_in;go_wp2;obtain⟨g,k,A⟩:=I.o;have z:=g.si (zq.drew _);have u0:=g.R.c0;have L:=g.R.c1;have u2:=k.c1;have G:=jp (rv:=rv) c z.D;refine tR_ (λW=>z_ W br 0 sv/\z_ W br 1 rv/\z_ W w.heap.size 1 (U_ c)) ?_;refine tY_ 0 ?_;refine tY_ 1 ?_;refine tY_ 2 ?_;refine tY_ 3 ?_;refine tY_ 4 ?_;refine tY_ 5 ?_;refine tY_ 6 ?_;refine zJ 7 rfl K_ ⟨u0,L,u2⟩ (λK l=>?_);go_simp;apply G.mono;rintro e X ⟨V,rfl,m,C⟩;refine l _ _ ?_;clear l K;rw[hb]at C;have r:=z.new m;have F:=U X V q r hn C J;have B:=m.bl (((A_ _ N_).si (zq.drew (w.alloc (.cells #[I_ p,U_ c] 229)))).bl k id) id;have O:=r.R.c0;have Q:=r.R.c1;have S:=B.c1;refine zJ 8 rfl K_ ⟨O,Q,S⟩ (λK l=>?_);go_simp;apply F.mono;rintro e H ⟨N,rfl,u,y⟩;refine l _ _ ?_;clear l K;have l:=y.2.1;have H:=l.c0;have J:=l.c1;have U:=(u.bl B M_).c1;replace y:=zy y;replace u:=zy u;replace m:=zy m;replace A:=zy A;clear G F g z r k B C I u0 L u2 O Q S l;refine tY_ 9 ?_;refine tY_ 10 ?_;refine tY_ 11 ?_;refine tY_ 12 ?_;refine yq K_ ⟨H,J,U⟩ ?_ _;go_wp2;refine bodyPost_ret (v:=.tuple #[N,.nilIface]) (by simp[results,results84,go_sem]) rfl ?_;rw[T.o];exact yk.pre (A.o.trans (((A_ _ N_).si (zq.drew _)).trans m u_) u_) ⟨N,rfl,u,y⟩
end
section
variable {P:Az} {ss:BA} {ds:Ar} {sv rv:Ax} {xs:Ay} {s:BA} {br i n:Nat} {f p:Nat} {t:PT}
def Pj(u:n<300->tY P ss ds sv rv xs s br f t i (n+1)):db P ss ds sv rv xs s br (f+1) t i n:=by
 intro w v q M hn m k;refine hq_ λr y=>?_;rw[Kt]at k;have c4:=M.R.c4;have f4:=M.R.th 4;obtain⟨r,r,rfl⟩:=m.iface;by_cases r:n=300;case pos=>rw[i_ M_]at k;cases k
 rw[n_ M_]at k;have r:((n:Int)==300)=false:=x1_
 have h:Fr w (w.setCell ⟨br,4,none⟩ (Z_ ((n:Int)+1))) (· = br):=(A_ w (· = br)).setCell _ _ (λ_=>rfl);have r:=M.call M.R.node h M.il;have z:=zy (u M_ _ _ q r M_ (m.fr h (λg hg e=>M.brP (e▸hg))) k);replace h:=zy h;have k:(n:Int)<=300:=M_;go_in;go_wp2_with (go_at_call 84;apply z.o.mono;intro e k B;obtain⟨C,rfl,l⟩:=B;replace l:=zy l);try go_ret
 rw[y.o];exact yk.pre2 h ⟨C,rfl,l⟩
def MY(r:vj ds)(y:JB (zx ds)):∀(f:Nat) (t:PT) (i n:Nat),okT (zx ds) t->vq t->n<=300->301<=f+n->db P ss ds sv rv xs s br f t i n:=by
 intro f;induction f with
 |zero=>intro t i n _ _ h1 m;omega
 |succ f ih=>
  intro t i n e hw hn hm;refine Pj (λq=>?_);have next:∀u,okT (zx ds) u->vq u->∀j nn,n+1<=nn->nn<=300->j<=s.size->db P ss ds sv rv xs s br f u j nn:=λu hu hv j nn h1 m q=>ih u j nn hu hv m M_;cases t with
  |leaf c p=>
   unfold okT at e;rcases e with hb|⟨z,pb,he⟩
   .simp only[zi,ay_,beq_iff_eq]at hb;rcases hb with(((rfl|rfl)|rfl)|rfl)|rfl
    .exact Pr
    .exact Pl
    .exact Pt
    .exact Pd
    .exact Ph
   .obtain⟨m,q⟩:=r c pb he;refine Gx z he ?_;cases pb with
    |recd fs=>exact WG he m.1 (λg hg=>next g.ty (q g hg) ((y c fs he).2 g hg))
    |enum l o=>exact WP he m.2.1 m.1
    |bytes k=>exact JT q
  |wrap c p t=>
   unfold okT at e;unfold vq at hw;rcases e.1 with rfl|rfl
   .exact UU (next t e.2 hw)
   .exact Pc (next t e.2 hw)
  |alts p l=>
   unfold okT at e;unfold vq at hw;exact UC (o1_ hw.1) (λt h j m=>next t (vI e.2 t h).2 (kU hw.2 t h) j (n+1) l_ M_ m)
end
def Xl(env:Au)(t:PT)(w:Aw)(d:DT)(j:Nat)(e:Ak)(w':Aw):Prop:=
 ∃v,e=.returned (.tuple #[v,I_ j,.nilIface])/\Fr w w' N_/\DaV env w' (λg=>w.heap.size<=g) d t v
def Vh{w:Aw}{P:Az}{ss:BA}{ds:Ar}{sv:Ax}{rT:Av}{rx:Ax}{xs:Ay}{s:BA}{t:PT}(D:yR w P ss ds sv xs)(z:TyV w P t (.iface rT rx))(H:∀g,P g->g<w.heap.size)(hs:s.size<=4000)(L:okT (zx ds) t)(K:vq t)(J:vj ds)(I:JB (zx ds)){m:Nat}(B:rdB s (zx ds) 301 t 0 0=.ok (d,j,m)):Calls prog 27 #[.agg #[sv,.iface rT rx],.string s] w (Xl (zx ds) t w d j):=by
 refine hq_ λq F=>?_;obtain⟨h,k,rfl⟩:=zw D.row;have A:Fr w ((w.alloc (.cells #[.slice h ds.length k,.iface rT rx] 48)).alloc (.cells #[.slice h ds.length k,.iface rT rx,.string s,O_,O_] 123)) N_:=((A_ w _).alloc _).alloc _;have C:(w.alloc (.cells #[.slice h ds.length k,.iface rT rx] 48)).heap.size=w.heap.size+1:=x6_
 have q:=B_ (w.alloc (.cells #[.slice h ds.length k,.iface rT rx] 48)) #[.slice h ds.length k,.iface rT rx,.string s,O_,O_] 123;rw[C]at q;have y:YC P ss ds (.slice h ds.length k) (.iface rT rx) xs s (w.heap.size+1) 0 0 ((w.alloc (.cells #[.slice h ds.length k,.iface rT rx] 48)).alloc (.cells #[.slice h ds.length k,.iface rT rx,.string s,O_,O_] 123)):=
  ⟨q,D.fr A u_,λg hg=>o1_ (H g hg),M_,am_ _⟩
 have H:=zy (MY J I 301 t 0 0 L K M_ M_ _ _ _ y M_ (z.fr A u_) B);have I:¬(4000:Int)<(s.size:Int):=M_;have hz:=zy (by simp:((w.alloc (.cells #[.slice h ds.length k,.iface rT rx] 48)).alloc (.cells #[.slice h ds.length k,.iface rT rx,.string s,O_,O_] 123)).heap.size=w.heap.size+2);replace A:=zy A;go_in;go_wp2_with (go_at_call 47;apply H.o.mono;rintro e w1 ⟨h,rfl,u,l,r,h⟩;obtain⟨dT,G,rfl⟩:=l.iface;have c3:=r.c3;replace u:=zy u;replace l:=zy l;replace r:=zy r);go_quiet (fail);go_wp2;refine bodyPost_ret (v:=.tuple #[.iface dT G,I_ j,.nilIface]) (by simp[results,results27,go_sem]) rfl ?_;rw[F.o];exact⟨_,rfl,(A.o.trans u (λg hg e=>M_)).si (zq.drewN _ _),(l.o.mono (λg _ hg=>by have:=hz.o;omega)).fr ((A_ _ N_).si (zq.drewN _ _)) u_⟩
open Go.Extern.Stop Go.Stop Go.Extern
def Wd(v:Ax)(w:Aw):(Extern.ReflectliteType.typeOf #[.iface 411 v]).run prog w=.ok (.iface 157 (.agg #[.pointer (some ⟨23,411,none⟩)])) w:=by kernel_rfl
def iP:∃M:Array Value->Sem Value,(∀(e:Array Value) (w:World),(callFunc 289 e).run prog w=((M e).run prog w).andThen λv w'=>.ok (.value v) w')/\∀w,(M #[.agg #[.pointer (some ⟨23,411,none⟩)]]).run prog w=.ok (.bool true) w:=
 ⟨Extern.ReflectliteType.method λt=>do Go.Extern.Rtype.noPackHeld "Comparable" t;pure (.bool (<- typeInfo t).comparable),@run_callFunc_extern prog 289 _ (Extern.ReflectliteType.method λt=>do Go.Extern.Rtype.noPackHeld "Comparable" t;pure (.bool (<- typeInfo t).comparable)) func289 K_ K_ K_ K_,λw=>K_⟩
def fA(v:Ax)(w:Aw):(Go.method 553 157 v "Comparable").run prog w=.ok (289,v) w:=by kernel_rfl
def Ui:(Tryz.prog.info? 411).map (·.comparable)=some true:=K_
def Us:(Tryz.prog.info? 413).map (·.size)=some 1:=K_
def MD(v:Ax)(e:Av)(w:Aw):(Instr.typeAssert (.iface 411 v) e 159 true).run prog w=.ok (.tuple #[.nilIface,.bool false]) w:=run_typeAssert_lacksB underlying159 K_ K_ v e w
def Jy(v:Ax)(e:Av)(w:Aw):(Instr.typeAssert (.iface 411 v) e 161 true).run prog w=.ok (.tuple #[.nilIface,.bool false]) w:=run_typeAssert_lacksB underlying161 K_ K_ v e w
def Yq(v:Ax)(e:Av)(w:Aw):(Instr.typeAssert (.iface 411 v) e 163 true).run prog w=.ok (.tuple #[.nilIface,.bool false]) w:=run_typeAssert_lacksB underlying163 K_ K_ v e w
def MR(v:Ax)(e:Av)(w:Aw):(Instr.typeAssert (.iface 184 v) e 159 true).run prog w=.ok (.tuple #[.nilIface,.bool false]) w:=run_typeAssert_lacksB underlying159 K_ K_ v e w
def YH(v:Ax)(e:Av)(w:Aw):(Instr.typeAssert (.iface 184 v) e 161 true).run prog w=.ok (.tuple #[.iface 184 v,.bool true]) w:=run_typeAssert_hasB underlying161 K_ v e w
def dH(v:Ax)(w:Aw):(Go.method 553 184 v "Unwrap").run prog w=.ok (299,v) w:=by kernel_rfl
def MH(v:Ax)(e:Av)(w:Aw):(Instr.typeAssert (.iface 366 v) e 159 true).run prog w=.ok (.tuple #[.nilIface,.bool false]) w:=run_typeAssert_lacksB underlying159 K_ K_ v e w
def YU(v:Ax)(e:Av)(w:Aw):(Instr.typeAssert (.iface 366 v) e 161 true).run prog w=.ok (.tuple #[.iface 366 v,.bool true]) w:=run_typeAssert_hasB underlying161 K_ v e w
def dC(v:Ax)(w:Aw):(Go.method 553 366 v "Unwrap").run prog w=.ok (321,v) w:=by kernel_rfl
inductive vF (W:Aw) (a:Addr):Nat->Value->Prop
 |leaf:vF W a 0 (.iface 411 (.pointer (some a)))
 |fault (g:Nat) (p:Int) (v:Value) (n:Nat) (hb:Blk W g [.int .i64 p,v] 186) (h:vF W a n v):vF W a (n+1) (.iface 184 (P_ g))
 |within (g:Nat) (tx:BA) (v:Value) (n:Nat) (hb:Blk W g [.string tx,v] 368) (h:vF W a n v):vF W a (n+1) (.iface 366 (P_ g))
def vF.iface{n:Nat}(h:vF W a n v):∃T x,v=.iface T x:=by
 cases h<;>exact⟨_,_,rfl⟩
def FN{b:Addr}{q y:Dy}{C tb:Av}(ha:W.heap[a.block]?=some (.cells q C (0,0)))(hb:W.heap[b.block]?=some (.cells y tb (0,0))){n:Nat}{E:Ax}(q:vF W a n E):Calls prog 33 #[E,.iface 411 (.pointer (some b)),.bool true] W λe w'=>e=.returned (.bool (decide (a=b)))/\w'=W:=by
 refine hq_ λy l=>?_;obtain⟨i,hi,r⟩:=cl_.1 Ui;obtain⟨j,u,B⟩:=cl_.1 Us;have y:=MD;have y:=Jy;have y:=Yq;have y:=MR;have y:=YH;have y:=dH;have y:=MH;have y:=YU;have y:=dC;have start:H_ (∃k,k<n+1/\vF W a k E):=zy ⟨n,M_,q⟩;go_in;go_wp2;go_loopg [0] (n+1) (λm v q=>∃k,k<m/\vF W a k v/\q=W);case atStart=>(obtain⟨k,h1,q⟩:=start.o;exact⟨k,h1,q,rfl⟩)
 case round=>
  obtain⟨k,hk,hc,rfl⟩:=hrel;cases hc with
  |leaf=>
   by_cases h:a=b
   .subst h;have z:=run_eql_iface_ptr_same (P:=prog) wr a underlying36 underlying411 hi r u;go_wp2;rw[l.o];exact⟨by simp,rfl⟩
   .have z:=run_eql_iface_ptr_other (P:=prog) wr underlying36 underlying411 hi r u (by rw[B];decide) h ha hb;go_wp2;rw[l.o];exact⟨by simp[h],rfl⟩
  |fault g p v k' hB h1=>
   have z:=run_eql_iface_types (P:=prog) 184 411 (P_ g) (.pointer (some b)) underlying36 D_ wr;obtain⟨h,D,rfl⟩:=h1.iface;have c1:=hB.c1;replace h1:=zy h1;go_wp2;go_roundg (k'+1);case measure=>omega
   case rel=>exact⟨k',M_,h1,rfl⟩
  |within g tx v k' hB h1=>
   have z:=run_eql_iface_types (P:=prog) 366 411 (P_ g) (.pointer (some b)) underlying36 D_ wr;obtain⟨h,D,rfl⟩:=h1.iface;have c1:=hB.c1;replace h1:=zy h1;go_wp2;go_roundg (k'+1);case measure=>omega
   case rel=>exact⟨k',M_,h1,rfl⟩
def FE{b:Addr}{h k:Dy}{m tb:Av}(ha:W.heap[a.block]?=some (.cells h m (0,0)))(hb:W.heap[b.block]?=some (.cells k tb (0,0))){n:Nat}{E:Ax}(g:vF W a n E):Calls prog 19 #[E,.iface 411 (.pointer (some b))] W λe w'=>e=.returned (.bool (decide (a=b)))/\w'=W:=by
 have l:=zy (FN ha hb g);obtain⟨h,h,rfl⟩:=g.iface;have g:=@run_callFunc_extern prog 32 _ Extern.ReflectliteType.typeOf func32 K_ K_ K_ K_;have g:=Wd;obtain⟨g,g,g⟩:=iP;have g:=fA;go_in;go_wp2_with (go_at_call 33;apply l.o.mono;rintro e w' ⟨rfl,rfl⟩);go_ret;exact⟨rfl,rfl⟩
def XO(b:Addr)(w:Aw):Calls prog 19 #[.nilIface,.iface 411 (.pointer (some b))] w λe w'=>e=.returned (.bool false)/\w'=w:=by
 have hn:=run_eql_iface_nil_left (P:=prog) w 411 (.pointer (some b)) underlying36;go_in;go_wp2;go_ret;exact⟨rfl,rfl⟩
def pH:List Nat:=[7,0,1,2,3,4,5,6,8,9]
structure xl(A:Bb)(w:Aw):Prop where
 var:∀g∈pH,vN g w 411 (.pointer (some (A g)))
 row:∀g∈pH,∃c t,w.heap[(A g).block]?=some (.cells c t (0,0))
 ne:∀g∈pH,∀g'∈pH,g≠g'->A g≠A g'
def xl.fr{A:Bb}{w w':Aw}(h:xl A w)(hf:Fr w w' N_):xl A w':=by
 refine⟨λg hg=>(h.var g hg).fr hf id,λg hg=>?_,h.ne⟩;obtain⟨c,t,hr⟩:=h.row g hg;have hl:(A g).block<w.heap.size:=by
  by_cases e:(A g).block<w.heap.size
  .exact e
  .rw[Array.getElem?_eq_none M_]at hr;cases hr
 exact⟨c,t,(hf.block _ hl id).trans hr⟩
def WJ{A:Bb}{w:Aw}(S:xl A w){g k n:Nat}{E:Ax}(l:k∈pH)(hg:g∈pH)(h:vF w (A k) n E):Calls prog 19 #[E,.iface 411 (.pointer (some (A g)))] w λe w'=>e=.returned (.bool (decide (k=g)))/\w'=w:=by
 obtain⟨c,t,ha⟩:=S.row k l;obtain⟨m,t',hb⟩:=S.row g hg;apply(FE ha hb h).mono;rintro e w' ⟨rfl,rfl⟩;refine⟨?_,rfl⟩;by_cases e:k=g
 .subst e;simp
 .simp[e,S.ne k l g hg e]
def PL:List (Nat×Int):=[(7,1),(0,2),(1,3),(2,4),(3,5),(4,6),(5,7),(6,8),(8,1),(9,1)]
def jx{A:Bb}{w:Aw}(S:xl A w){l n:Nat}{k:Int}{E:Ax}(hp:(l,k)∈PL)(m:l∈pH)(h:vF w (A l) n E):Calls prog 11 #[E] w λe w'=>e=.returned (Z_ k)/\w'=w:=by
 have q:=zy (λg (hg:g∈pH)=>WJ S m hg h);have V:=zy S.var;have l:=V.o 7 D_;have m:=V.o 0 D_;have r:=V.o 1 D_;have u:=V.o 2 D_;have y:=V.o 3 D_;have z:=V.o 4 D_;have B:=V.o 5 D_;have C:=V.o 6 D_;have D:=V.o 8 D_;have F:=V.o 9 D_;unfold vN at l m r u y z B C D F;obtain⟨l,l,rfl⟩:=h.iface;simp only[PL,aq_,ad_,ba_,or_false]at hp;rcases hp with⟨rfl,rfl⟩|⟨rfl,rfl⟩|⟨rfl,rfl⟩|⟨rfl,rfl⟩|⟨rfl,rfl⟩|⟨rfl,rfl⟩|⟨rfl,rfl⟩|⟨rfl,rfl⟩|⟨rfl,rfl⟩|⟨rfl,rfl⟩;all_goals
  go_in;go_wp2_with (first
   |(go_at_call 19;apply(q.o _ D_).mono;rintro e w' ⟨rfl,rfl⟩)
   |go_in)
  go_ret;exact⟨rfl,rfl⟩
section
variable {A:Bb} {w:Aw} {n:Nat} {E:Ax}
def wG(S:xl A w)(h:vF w (A 7) n E):Calls prog 11 #[E] w λe w'=>e=.returned (Z_ 1)/\w'=w:=jx S D_ D_ h
def kq(S:xl A w)(h:vF w (A 0) n E):Calls prog 11 #[E] w λe w'=>e=.returned (Z_ 2)/\w'=w:=jx S D_ D_ h
def wW(S:xl A w)(h:vF w (A 1) n E):Calls prog 11 #[E] w λe w'=>e=.returned (Z_ 3)/\w'=w:=jx S D_ D_ h
def wj(S:xl A w)(h:vF w (A 2) n E):Calls prog 11 #[E] w λe w'=>e=.returned (Z_ 4)/\w'=w:=jx S D_ D_ h
def jf(S:xl A w)(h:vF w (A 3) n E):Calls prog 11 #[E] w λe w'=>e=.returned (Z_ 5)/\w'=w:=jx S D_ D_ h
def jd(S:xl A w)(h:vF w (A 5) n E):Calls prog 11 #[E] w λe w'=>e=.returned (Z_ 7)/\w'=w:=jx S D_ D_ h
def kK(S:xl A w)(h:vF w (A 6) n E):Calls prog 11 #[E] w λe w'=>e=.returned (Z_ 8)/\w'=w:=jx S D_ D_ h
end
def ji{w:Aw}{P:Az}{bt:Av}{bx:Ax}(hv:xW w P d v)(hn:ndT d<=1000000000)(q:vN 5 w bt bx):Calls prog 25 #[v] w λe w'=>e=.returned (if ndT d > 300 then .iface bt bx else .nilIface)/\Fr w w' N_:=by
 refine hq_ λr h=>?_;have l:=zy (Yj (ndT d) d l_ hn w P v hv);obtain⟨T,x,rfl⟩:=hv.iface;by_cases k:ndT d > 300
 .have m:(ndT d:Int) > 300:=M_;rw[i_ k]at h;go_in;go_wp2_with (go_at_call 45;apply l.o.mono;rintro e u ⟨rfl,g⟩;have r:=q.fr g id;unfold vN at r;replace g:=zy g);try go_ret
  rw[h.o];exact⟨rfl,g⟩
 .have m:¬(ndT d:Int) > 300:=M_;rw[n_ k]at h;go_in;go_wp2_with (go_at_call 45;apply l.o.mono;rintro e u ⟨rfl,g⟩;replace g:=zy g);try go_ret
  rw[h.o];exact⟨rfl,g⟩
def YP{A:Bb}{w:Aw}(S:xl A w):Calls prog 18 #[.nilIface] w λe w'=>e=.returned (.bool false)/\w'=w:=by
 have h:=S.var 7 D_;have k:=S.var 8 D_;have l:=S.var 9 D_;unfold vN at h k l;have g:=XO;clear S;go_in;go_wp2_with (go_at_call 19;apply(g _ _).mono;rintro e w' ⟨rfl,rfl⟩);try go_ret
 exact⟨rfl,rfl⟩
def Yy{A:Bb}{w:Aw}(S:xl A w):Calls prog 11 #[.nilIface] w λe w'=>e=.returned (O_)/\w'=w:=by
 have h:=S.var 0 D_;have k:=S.var 1 D_;have l:=S.var 2 D_;have m:=S.var 3 D_;have q:=S.var 4 D_;have r:=S.var 5 D_;have u:=S.var 6 D_;unfold vN at h k l m q r u;have g:=XO;have h:=zy (YP S);go_in;go_wp2_with (first
  |(go_at_call 18;apply h.o.mono;rintro e w' ⟨rfl,rfl⟩)
  |(go_at_call 19;apply(g _ _).mono;rintro e w' ⟨rfl,rfl⟩))
 try go_ret
 exact⟨rfl,rfl⟩
def Jk{w0 w:Aw}{P:Az}{ss:BA}{ds:Ar}{sv:Ax}{rT:Av}{rx:Ax}{xs:Ay}{s:BA}{nt:Av}{nx:Ax}{t:PT}(D:yR w P ss ds sv xs)(z:TyV w P t (.iface rT rx))(u:yu w0 w)(hk:w0.heap.size<=w.heap.size)(J:∀g,P g->g<w.heap.size)(G:vN 3 w0 nt nx)(hs:s.size<=4000)(O:okT (zx ds) t)(N:vj ds)(L:brE false ds)(M:brT false t)(y:yM w0)(K:yH w0)(H:mg w0)(I:xe w0):Calls prog 24 #[.agg #[sv,.iface rT rx],.string s] w (pY (zx ds) t w N_ nt nx (ym (zx ds) false t s)):=by
 refine hq_ λm C=>?_;obtain⟨k,l,rfl⟩:=zw D.row;have hs':¬(s.size:Int) > 4000:=M_;have A:Fr w ((w.alloc (.cells #[.slice k ds.length l,.iface rT rx] 48)).alloc (.cells #[.slice k ds.length l,.iface rT rx,.string s,O_,.bool true] 119)) N_:=((A_ w _).alloc _).alloc _;have B:(w.alloc (.cells #[.slice k ds.length l,.iface rT rx] 48)).heap.size=w.heap.size+1:=x6_
 have m:=B_ (w.alloc (.cells #[.slice k ds.length l,.iface rT rx] 48)) #[.slice k ds.length l,.iface rT rx,.string s,O_,.bool true] 119;rw[B]at m;have r:NC w0 P ss ds (.slice k ds.length l) (.iface rT rx) xs s nt nx false (w.heap.size+1) 0 ((w.alloc (.cells #[.slice k ds.length l,.iface rT rx] 48)).alloc (.cells #[.slice k ds.length l,.iface rT rx,.string s,O_,.bool true] 119)):=
  ⟨m,D.fr A u_,u.fr A hk (λg f=>f.elim),G,λg hg=>o1_ (J g hg),M_,M_,am_ _⟩
 have k:=zy (lU r (z.fr A u_) (Vv N L y K (H _ _ _ _ _ _ _ _ _ _ _) (GD y I) _ t 0 O M o_ (by split<;>omega)));replace A:=zy A;go_in;go_wp2_with (go_at_call 44;apply k.o.mono;rintro e w1 ⟨R,F,rfl,q,hm⟩;replace q:=zy q;replace hm:=zy hm);try go_ret
 rw[C.o];have Q:=A.o.size;refine⟨R,F,rfl,A.o.trans q (λg hg e=>M_),?_⟩;have k:=hm.o;cases l:ym (zx ds) false t s with
 |none=>rw[l]at k;exact⟨k.1,k.2.ls Q⟩
 |some d=>rw[l]at k;exact⟨k.1,k.2.mono (λg _ h=>M_)⟩
def ki(A:Bb):cB:=
 ⟨411,.pointer (some (A 7)),411,.pointer (some (A 0)),411,.pointer (some (A 1)),411,.pointer (some (A 2)),411,.pointer (some (A 3))⟩
def xl.errs{A:Bb}{w:Aw}(S:xl A w):(ki A).At w:=
 ⟨S.var _ D_,S.var _ D_,S.var _ D_,S.var _ D_,S.var _ D_⟩
def qC.chain{A:Bb}{w:Aw}(h:qC w lo (ki A).nt (ki A).nx v):∃n,vF w (A 3) n v:=by
 induction h with
 |base=>exact⟨0,.leaf⟩
 |within g hg tx hb h e=>
  obtain⟨n,e⟩:=e;exact⟨n+1,.within g tx _ n hb e⟩
def jk.fr{E:cB}{w w':Aw}{a:Int×Int}(h:jk E w lo ev a)(hf:Fr w w' N_):jk E w' lo ev a:=by
 rcases h with h|h|⟨h1,e⟩|⟨h1,e⟩|⟨h1,e⟩|⟨h1,g,e,k⟩
 .exact .inl h
 .exact .inr (.inl h)
 .exact .inr (.inr (.inl ⟨h1,e.fr hf u_⟩))
 .exact .inr (.inr (.inr (.inl ⟨h1,e.fr hf u_⟩)))
 .exact .inr (.inr (.inr (.inr (.inl ⟨h1,e.fr hf u_⟩))))
 .exact .inr (.inr (.inr (.inr (.inr ⟨h1,g,e.fr hf u_,k.fr hf u_⟩))))
def jk.zero{E:cB}{w:Aw}{a:Int×Int}(h:jk E w lo ev a)(h0:a.1=0):a.2=0/\ev=.nilIface:=by
 rcases h with⟨_,e,g⟩|⟨h1,_⟩|⟨h1,_⟩|⟨h1,_⟩|⟨h1,_⟩|⟨h1,_⟩
 .exact⟨e,g⟩
 all_goals (rw[h1]at h0;exact absurd h0 D_)
def jk.num{A:Bb}{w:Aw}{a:Int×Int}(S:xl A w)(h:jk (ki A) w lo ev a)(h0:a.1≠0):∃T x,ev=.iface T x/\Calls prog 11 #[ev] w λe w'=>e=.returned (Z_ a.1)/\w'=w:=by
 have key:∀(v:Value) (p:Int) (l:Value),zO w lo v p l->∃T x,v=.iface T x:=λv p l ⟨g,_,h,_⟩=>⟨_,_,h⟩;have m:∀(v:Value) (p:Int) (l:Value) (b:Addr) (n:Nat),zO w lo v p l->vF w b n l->vF w b (n+1) v:=λv p l b n ⟨g,_,h,hb⟩ hc=>h▸.fault g p l n hb hc;rcases h with⟨h1,_⟩|⟨h1,k,o⟩|⟨h1,k⟩|⟨h1,k⟩|⟨h1,k⟩|⟨h1,l,k,o⟩
 .exact absurd h1 h0
 .refine⟨_,_,o,?_⟩;rw[h1,o];exact wG S .leaf
 .obtain⟨T,x,hv⟩:=key _ _ _ k;refine⟨T,x,hv,?_⟩;rw[h1];exact kq S (m _ _ _ _ _ k .leaf)
 .obtain⟨T,x,hv⟩:=key _ _ _ k;refine⟨T,x,hv,?_⟩;rw[h1];exact wW S (m _ _ _ _ _ k .leaf)
 .obtain⟨T,x,hv⟩:=key _ _ _ k;refine⟨T,x,hv,?_⟩;rw[h1];exact wj S (m _ _ _ _ _ k .leaf)
 .obtain⟨T,x,hv⟩:=key _ _ _ k;obtain⟨n,hc⟩:=o.chain;refine⟨T,x,hv,?_⟩;rw[h1];exact jf S (m _ _ _ _ _ k hc)
mutual
def cA:∀t:PT,xS t->brT false t
 | .leaf _ _,_=>by unfold brT;trivial
 | .wrap _ _ t,h=>by unfold brT;unfold xS at h;exact cA t h
 | .alts _ l,h=>by unfold brT;unfold xS at h;exact⟨.inr h.1,oA l h.2⟩
def oA:∀l:List PT,(∀t∈l,xS t)->tg false l
 | [],_=>by unfold tg;trivial
 |t::r,h=>by unfold tg;exact⟨cA t (h t (bo_ ..)),oA r (λu hu=>h u (cf_ _ hu))⟩
end
def vZ{s:BA}(hs:s.size<=300){ds:Ar}{t:PT}(h:ze s=.ok (ds,t))(hn:xL ds t=[])(hu:vz ds t=[]):vj ds/\brE false ds/\brT false t/\okT (zx ds) t/\qW (zx ds):=by
 obtain⟨g,k,_,_,_⟩:=jT h;rw[hn]at g;rw[hu]at k;have hw:wrU (zx ds) (jm ds++zZ t) (qy [] ds (-1))<0:=by rw[g];decide
 have hm:mix t (qp ds (-1))<0:=by rw[k];decide
 obtain⟨g,k,_,_⟩:=uo hs h hw hm;have hg:=(mZ hs h hn hu).1;refine⟨hg,λc fs e f hf=>cA _ ((hg c _ e).1.2.2 f hf),cA t (xA hs h).2.1,k,g⟩
def wQ(w:Aw)(ev:Ax)(n:Int):Prop:=∀W,Fr w W N_->Calls prog 11 #[ev] W λe w'=>e=.returned (Z_ n)/\w'=W
def wQ.fr{w:Aw}{n:Int}(h:wQ w ev n)(hf:Fr w W N_):wQ W ev n:=λV e=>h V (hf.trans e u_)
def jk.numIs{A:Bb}{w:Aw}{a:Int×Int}(S:xl A w)(h:jk (ki A) w lo ev a)(h0:a.1≠0):wQ w ev a.1:=λW e=>by
 obtain⟨_,_,_,h⟩:=(h.fr e).num (S.fr e) h0;exact h
def qC.numIs{A:Bb}{w:Aw}(S:xl A w)(h:qC w lo (ki A).nt (ki A).nx ev):wQ w ev 5:=λW e=>by
 obtain⟨n,hc⟩:=(h.fr e u_).chain;exact jf (S.fr e) hc
def gI{A:Bb}{w:Aw}(S:xl A w):wQ w .nilIface 0:=λ_ e=>Yy (S.fr e)
def qC.chainOf{w:Aw}(h:qC w lo 411 (.pointer (some a)) v):∃n,vF w a n v:=by
 induction h with
 |base=>exact⟨0,.leaf⟩
 |within g hg tx hb h e=>
  obtain⟨n,e⟩:=e;exact⟨n+1,.within g tx _ n hb e⟩
mutual
def jI:∀t:PT,xS t->vq t
 | .leaf _ _,_=>by unfold vq;trivial
 | .wrap _ _ t,h=>by unfold vq;unfold xS at h;exact jI t h
 | .alts _ l,h=>by unfold vq;unfold xS at h;exact⟨h.1,nX l h.2⟩
def nX:∀l:List PT,(∀t∈l,xS t)->fW l
 | [],_=>by unfold fW;trivial
 |t::r,h=>by unfold fW;exact⟨jI t (h t (bo_ ..)),nX r (λu hu=>h u (cf_ _ hu))⟩
end
def cI{ds:Ar}(hg:vj ds):JB (zx ds):=λc _ e=>⟨(hg c _ e).1.1,λg h=>jI _ ((hg c _ e).1.2.2 g h)⟩
def WY{A:Bb}{w w1:Aw}{s:BA}{sv rv:Ax}{ds:Ar}{t:PT}(S:xl A w)(u:yM w)(z:yH w)(k:xe w)(hp:ze s=.ok (ds,t))(y:Cc w.heap.size w1 s sv rv)(hf:Fr w w1 N_)(hd:dm.size<=4000):∃e sn h rT rx,sv=.slice e sn h/\rv=.iface rT rx/\∀o,Calls prog 24 #[.agg #[sv,rv],.string dm] (w1.alloc o) (pY (zx ds) t (w1.alloc o) N_ (ki A).nt (ki A).nx (ym (zx ds) false t dm)):=by
 obtain⟨ds',t',xs,hs,m,hn,hu,D,l⟩:=y;rw[hp]at m;cases m;obtain⟨q,r,f3,f4,_⟩:=vZ hs hp hn hu;obtain⟨e,h,rfl⟩:=zw D.row;obtain⟨rT,rx,rfl⟩:=l.iface;refine⟨e,_,h,rT,rx,rfl,rfl,λo=>?_⟩;have e:Fr w1 (w1.alloc o) N_:=(A_ w1 _).alloc o;have hz:=e.size;exact Jk (w0:=w) (D.fr e u_) (l.fr e u_) ((yu.refl w).fr (hf.trans e u_) l_ (λ_ f=>f.elim)) (o1_ hf.size) (λg hg=>M_) S.errs.n hd f4 q r f3 u z (iu k) k
def YN{A:Bb}{w:Aw}{s:BA}{ds:Ar}{t:PT}(S:xl A w)(l:yM w)(q:yH w)(m:xe w)(h0:(zu s).1=0)(hp:ze s=.ok (ds,t))(hd:dm.size<=4000)(u:ym (zx ds) false t dm=some d)(y:ndT d<=300):Calls prog 13 #[.string s,.string dm] w λe w'=>e=.returned (.tuple #[.string (byT d),.nilIface])/\Fr w w' N_:=by
 refine hq_ λG D=>?_;have G:=zy (VC (s:=s) S.errs l q (iu m));have I:=zy (λw1 sv rv=>WY (w1:=w1) (dm:=dm) (sv:=sv) (rv:=rv) S l q m hp);have F:8022*ndT d<=90000000:=M_;replace y:=zy (show ¬ndT d > 300 by omega);revert S h0 u;refine h_ λS h0 u=>?_;go_in;go_wp2_with (first
  |(go_at_call 23;apply G.o.mono;rintro e w1 ⟨sv,rv,ev,rfl,-,-,k,z,B⟩;obtain⟨_,rfl⟩:=z.zero h0;obtain⟨l,sn,l,rT,rx,rfl,rfl,l⟩:=I.o w1 sv rv (B h0) k hd;replace k:=zy k;replace l:=zy l)
  |(go_at_call 24;apply(l.o _).mono;rintro e l ⟨l,l,rfl,r,hm⟩;rw[u.o]at hm;obtain⟨rfl,hm⟩:=hm;replace hm:=hm.dat;have hf:=zy ((k.o.alloc _).trans r u_);have h:=ji hm M_ ((S.o.fr hf).var 5 D_);rw[n_ y.o]at h;replace h:=zy h;have H:=zy (λC g=>Vl (w:=C) (hm.fr g (λ_ _ (f:False)=>f)) F);obtain⟨k,k,rfl⟩:=hm.iface)
  |(go_at_call 25;apply h.o.mono;rintro e C ⟨rfl,g⟩;replace g:=zy g)
  |(go_at_call 26;apply(H.o _ g).mono;rintro e h ⟨rfl,r⟩;replace r:=zy r))
 try go_ret
 rw[D.o];exact⟨rfl,(hf.o.trans g u_).trans r u_⟩
def ot{A:Bb}{w:Aw}{s:BA}{ds:Ar}{t:PT}(S:xl A w)(k:yM w)(m:yH w)(l:xe w)(h0:(zu s).1=0)(hp:ze s=.ok (ds,t))(hd:dm.size<=4000)(q:ym (zx ds) false t dm=some d)(h:ndT d<=300):Calls prog 7 #[.string s,.string dm] w λe w'=>e=.returned (.tuple #[.string (byT d),O_])/\Fr w w' N_:=by
 refine hq_ λu r=>?_;have u:=zy (YN S k m l h0 hp hd q h);replace S:=zy S;go_in;go_wp2_with (first
  |(go_at_call 13;apply u.o.mono;rintro e w1 ⟨rfl,g⟩;have hk:=zy (Yy (S.o.fr g));replace g:=zy g)
  |(go_at_call 11;apply hk.o.mono;rintro e h ⟨rfl,rfl⟩))
 try go_ret
 rw[r.o];exact⟨rfl,g⟩
def gV(s:BA)(i:Nat):bt s i=(s.data.toList.getD i 0).toNat:=by
 unfold bt;rw[as_];split
 .rename_i h;have e:i<s.data.toList.length:=by rw[Array.length_toList];exact h
  rw[aj_ e];rfl
 .rename_i h;rw[bm_ (by rw[Array.length_toList];exact Nat.le_of_not_lt h)];rfl
def Xx(a b:BA)(k:Nat):bt (a++b) k=if k<a.size then bt a k else bt b (k-a.size):=by
 have e:(a++b).data.toList=a.data.toList++b.data.toList:=x6_
 have hl:a.data.toList.length=a.size:=Array.length_toList;rw[gV,e];split
 .rw[gV,as_,as_,ar_ M_]
 .rw[gV,as_,as_,aw_ M_,hl]
def eJ{a:BA}(hs:a.size=b.size)(h:∀k,k<a.size->bt a k=bt b k):a=b:=by
 apply b2_;apply Array.ext
 .exact hs
 .intro i h1 e;have:=h i h1;rw[xO a i h1,xO b i e]at this;exact UInt8.toNat_inj.1 this
def At(s:BA)(i:Nat)(b:BA):Prop:=i+b.size<=s.size/\∀k,k<b.size->bt s (i+k)=bt b k
def At.app{s a:BA}{i:Nat}:At s i (a++b)↔At s i a/\At s (i+a.size) b:=by
 unfold At;rw[ah_];constructor
 .rintro⟨h1,e⟩;refine⟨⟨M_,λk hk=>?_⟩,M_,λk hk=>?_⟩
  .rw[e k M_,Xx,i_ hk]
  .rw[bd_,e (a.size+k) M_,Xx,n_ M_,b7_]
 .rintro⟨⟨h1,e⟩,g,g⟩;refine⟨M_,λk hk=>?_⟩;rw[Xx];split
  .exact e k zq_
  .rw[<- g (k-a.size) M_]
   congr 1
   omega
def At.eq{s a:BA}{i:Nat}(h:At s i a)(e:At s i b)(hs:a.size=b.size):a=b:=
 eJ hs (λk hk=>by rw[<- h.2 k hk,e.2 k M_])
def rF{s:BA}{i k:Nat}(h:i+k<j)(e:j<=s.size):bt (s.extract i j) k=bt s (i+k):=by
 have hs:(s.extract i j).size=j-i:=yf_
 rw[gV,gV]
 congr 1
 rw[as_,as_]
 congr 1
 rw[ByteArray.data_extract,Array.toList_extract,List.extract_eq_take_drop,List.getElem?_take_of_lt M_,List.getElem?_drop]
def At.ext{s:BA}{i:Nat}(h:i<=j)(e:j<=s.size):At s i (s.extract i j):=by
 have hs:(s.extract i j).size=j-i:=yf_
 exact⟨M_,λk hk=>(rF M_ e).symm⟩
def KD:noB.size=0:=rfl
def At.nil{s:BA}{i:Nat}(h:i<=s.size):At s i noB:=⟨h,λk hk=>absurd hk (by rw[KD];omega)⟩
def WO:∀(l:List Nat) (k:Nat),bt (bts l) k=l.getD k 0 % 256:=by
 intro l k;rw[gV];show(((l.map UInt8.ofNat)).getD k 0).toNat=_;rw[as_,as_,ax_];cases l[k]?<;>simp
def At.cons{s:BA}{i:Nat}{l:Ao}(hc:c<256):At s i (bts (c::l))↔i<s.size/\bt s i=c/\At s (i+1) (bts l):=by
 have e:bts (c::l)=bts [c]++bts l:=rW [c] l;have h1:(bts [c]).size=1:=yP [c];rw[e,At.app,h1];constructor
 .rintro⟨⟨a,b⟩,d⟩;have:=b 0 M_;rw[WO]at this;refine⟨M_,?_,d⟩;simpa[Nat.mod_eq_of_lt hc] using this
 .rintro⟨a,b,d⟩;refine⟨⟨M_,λk hk=>?_⟩,d⟩;obtain rfl:k=0:=M_;rw[WO];simpa[Nat.mod_eq_of_lt hc] using b
def At.one{s:BA}{i:Nat}(hc:c<256):At s i (bts [c])↔i<s.size/\bt s i=c:=by
 rw[At.cons hc];constructor
 .rintro⟨a,b,_⟩;exact⟨a,b⟩
 .rintro⟨a,b⟩;exact⟨a,b,At.nil a⟩
def cF(x:BA):Prop:=∀k,k<x.size->97<=bt x k/\bt x k<=122
def tW{hi:Nat}{s:BA}:∀(m i:Nat),i+m<=s.size->(∀k,k<m->lo<=bt s (i+k)/\bt s (i+k)<=hi)->zt lo hi s i=zt lo hi s (i+m)
 | 0,i,_,_=>rfl
 |m+1,i,h1,h2=>by
  rw[kX M_ (by simpa using h2 0 M_),tW m (i+1) M_ (λk hk=>by have:=h2 (k+1) M_;rw[show i+1+k=i+(k+1) by omega];exact this)]
  congr 1
  omega
def Yc{s:BA}{i:Nat}(h:At s i x)(hx:cF x):zo s i=zo s (i+x.size):=by
 unfold zo;exact tW x.size i h.1 (λk hk=>by rw[h.2 k hk];exact hx k hk)
def Gc:Option BA->List BA->Prop
 | _,[]=>True
 |last,k::r=>kV last k=true/\cF k/\k.size<=9223372036854775807/\Gc (some k) r
inductive Dat (env:Au):DT->PT->Prop
 |null {p:Nat}:Dat env (.mk 110 0 noB [] []) (.leaf 110 p)
 |bool {p n:Nat} (h:n<=1):Dat env (.mk 116 (n:Int) noB [] []) (.leaf 116 p)
 |num {p:Nat} {n:Int} (h0 : -2147483648<=n) (h1:n<=2147483647):Dat env (.mk 105 n noB [] []) (.leaf 105 p)
 |long {p:Nat} {n:Int} (h0 : -9223372036854775808<=n) (h1:n<=9223372036854775807):Dat env (.mk 108 n noB [] []) (.leaf 108 p)
 |text {p:Nat} {x:BA} (h:cF x) (h1:x.size<=9223372036854775807):Dat env (.mk 115 0 x [] []) (.leaf 115 p)
 |bytes {c p:Nat} {x:BA} (he:env c=some (.bytes x.size)) (hb:zi c=false) (h:cF x):Dat env (.mk 102 0 x [] []) (.leaf c p)
 |sym {c p n:Nat} {l:List (Nat×Nat)} {o:Option (Nat×Nat)} (he:env c=some (.enum l o)) (hb:zi c=false) (hn:n<l.length):Dat env (.mk 101 (n:Int) noB [] []) (.leaf c p)
 |recd {c p:Nat} {fs:List PF} {ds:List DT} (he:env c=some (.recd fs)) (hb:zi c=false) (hl:ds.length=fs.length) (h:∀(i:Nat) (d:DT) (t:PT),ds[i]?=some d->(fs.map PF.ty)[i]?=some t->Dat env d t):Dat env (.mk 114 0 noB [] ds) (.leaf c p)
 |list {p:Nat} {u:PT} {ds:List DT} (hl:ds.length<=9223372036854775807) (h:∀d∈ds,Dat env d u):Dat env (.mk 91 0 noB [] ds) (.wrap 91 p u)
 |map {p:Nat} {u:PT} {ks:List BA} {ds:List DT} (hl:ds.length<=9223372036854775807) (hk:ks.length=ds.length) (hr:Gc none ks) (h:∀d∈ds,Dat env d u):Dat env (.mk 123 0 noB ks ds) (.wrap 123 p u)
 |alts {n p:Nat} {l:List PT} {u:PT} {d:DT} (hn:n<=9223372036854775807) (hl:l[n]?=some u) (h:Dat env d u):Dat env (.mk 40 (n:Int) noB [] [d]) (.alts p l)
def XH{s:BA}:∀(f i z g:Nat),z<128 ^ (f+1)->f<=g->At s i (bts (wF g z))->gn s (f+1) i=some (z,i+(bts (wF g z)).size)
 |f,i,z,g,hz,hg,h=>by
  by_cases hb:z<128
  .have e:wF g z=[z]:=by cases g<;>simp[wF,hb]
   rw[e]at h⊢;obtain⟨h1,k⟩:=(At.one M_).1 h;unfold gn;rw[i_ h1,k,i_ hb,yP];rfl
  .cases f with
   |zero=>simp at hz;omega
   |succ f=>
    obtain⟨g',rfl⟩:∃g',g=g'+1:=⟨g-1,M_⟩;have e:wF (g'+1) z=(z % 128+128)::wF g' (z / 128):=by rw[wF,n_ hb]
    rw[e]at h⊢;obtain⟨h1,k,l⟩:=(At.cons M_).1 h;have:=XH f (i+1) (z / 128) g' (by rw[Nat.pow_succ]at hz;exact Nat.div_lt_of_lt_mul (by rw[bh_];exact hz)) M_ l;unfold gn;rw[i_ h1,k,n_ M_,this];simp only;rw[n_ M_];simp only[af_,ad_];rw[yP,yP,au_];omega
def QU(n:Int):pL (kB n)=n:=by
 unfold kB pL;split<;>split<;>omega
def Bk{s:BA}{i:Nat}{n:Int}(h0 : -9223372036854775808<=n)(h1:n<=9223372036854775807)(h:At s i (zH n)):bL s i=some (n,i+(zH n).size):=by
 have hz:kB n<18446744073709551616:=by unfold kB;split<;>omega
 unfold bL;rw[XH 9 i (kB n) 10 M_ M_ h];simp only;rw[i_ hz,QU];rfl
def fo{s:BA}{lo hi:Int}{i:Nat}{n:Int}(h0 : -9223372036854775808<=n)(h1:n<=9223372036854775807)(hl:lo<=n)(e:n<=hi)(h:At s i (zH n)):wt s lo hi i=some (n,i+(zH n).size):=by
 unfold wt;rw[Bk h0 h1 h];simp only;rw[i_ ⟨hl,e⟩]
def Zz{s:BA}{i:Nat}(hx:cF x)(h:At s i x):gJ s i x.size=some (x,i+x.size):=by
 have h1:=Yc h hx;have g:=(yh 97 122 s _ (i+x.size) l_).1;unfold gJ;rw[i_ (by rw[h1];exact g)];have hs:=h.1;have e:s.extract i (i+x.size)=x:=(At.ext M_ hs).eq h yf_;rw[e]
def nL{s:BA}{i:Nat}(hx:cF x)(h1:x.size<=9223372036854775807)(h:At s i (zH x.size++x)):qU s i=some (x,i+(zH x.size++x).size):=by
 obtain⟨a,b⟩:=At.app.1 h;unfold qU gQ;rw[fo M_ M_ M_ M_ a];simp only[bt_];rw[Zz hx b,ah_,bd_]
def rK:∀(ds:List DT) (ks e:List BA),yS false ks ds=yS false e ds
 | [],_,_=>by simp[yS]
 |d::r,ks,e=>by
  simp only[yS];rw[rK r ks.tail e.tail];simp
def Wl(keyed:Aq)(k:BA):BA:=if keyed=true then zH k.size++k else noB
def Qj(keyed:Aq)(k:BA)(ks:Dq)(d:DT)(ds:Ae):yS keyed (k::ks) (d::ds)=(Wl keyed k++byT d)++yS keyed ks ds:=by
 rw[yS];rfl
end Go.Proofs.YtokgeopihcopeaaGreatDoor
