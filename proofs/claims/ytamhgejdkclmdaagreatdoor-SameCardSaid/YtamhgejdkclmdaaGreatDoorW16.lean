import Derived.Test.YtamhgejdkclmdaaGreatDoorW15
set_option maxHeartbeats 16000000
set_option maxRecDepth 100000
set_option linter.defProp false
set_option linter.unusedSimpArgs false
set_option linter.unusedVariables false
open Go.Proofs.Tryz
namespace Go.Proofs.YtamhgejdkclmdaaGreatDoor
open Go.RowKit
variable {t:PT}{v:Ax}{fs:An}{k lo a n e q:Nat}{w':Aw}{blk:En}{o:Ac}{d:PD}
def yw.pre{env:Au}{w w1:Aw}{sv rv:Ax}{s:BA}{nt:Av}{nx:Ax}{pl:Ar}{br:Nat}{res:Dm}{e:Ak}(A:Fr w w1 N_)(h:yw env t w1 sv rv s nt nx pl br res e w'):yw env t w sv rv s nt nx pl br res e w':=by
 obtain⟨v,b,he,hf,hm⟩:=h;refine⟨v,b,he,(A.mono v_).trans hf u_,?_⟩;cases res with
 |none=>exact⟨hm.1,hm.2.1.ls A.size,hm.2.2⟩
 |some q=>obtain⟨d,j⟩:=q;exact⟨hm.1,hm.2.1.mono (λg _ hg=>aj_ A.size hg),hm.2.2⟩
def PG(w0:Aw)(P:Az)(ss:BA)(ds:Aq)(sv rv:Ax)(xs:Ay)(s:BA)(nt:Av)(nx:Ax)(pl:Ar)(br:Nat):Prop:=
 ∀(w:World) (i:Nat) (t:PT),NC w0 P ss ds sv rv xs s nt nx pl br i w->
  Calls prog 192 #[P_ br,Z_ (-2147483648),Z_ 2147483647] w (yw (zx ds) t w sv rv s nt nx pl br ((vj s 105 i).map (λq=>(.mk 105 q.1 noB [] [],q.2))))/\
  Calls prog 192 #[P_ br,Z_ (-9223372036854775808),Z_ 9223372036854775807] w (yw (zx ds) t w sv rv s nt nx pl br ((vj s 108 i).map (λq=>(.mk 108 q.1 noB [] [],q.2))))
section
variable {w0:Aw} {P:Az} {ss:BA} {ds:Aq} {sv rv:Ax} {xs:Ay} {s:BA} {nt:Av} {nx:Ax} {pl:Ar} {br i:Nat} {f p:Nat}
def Pp:qy w0 P ss ds sv rv xs s nt nx pl br (f+1) (.leaf 110 p) i:=by
 intro w v M x;obtain rfl:v=.iface 212 (.agg #[I_ p]):=by
  cases x with
  |base _ _ h=>rfl
  |name _ _ h=>exact absurd h D_
 refine hq_ λC u=>?_;have A:Fr w (w.alloc (.cells #[I_ p] 212)) N_:=(A_ w _).alloc _;have l:=M.new A;have y:s.size<=4000:=y3_
 have m:=M.il;have r:=zy (A.mono (T:=λg=>g=br) v_);replace l:=zy l;by_cases c:bt s i=78
 .have z:i+1<=s.size:=zm (s:=s) (i:=i) M_;have hr:=zy (show rdT s (zx ds) pl (f+1) (.leaf 110 p) i=some (.mk 110 0 noB [] [],i+1) by rw[rdT];unfold xw;rw[i_ rfl,i_ c]);replace c:=zy c;go_in;go_wp2_with (go_at_call 190;apply(yT 78 l.o.R y m rfl D_ c).mono;rintro e B ⟨rfl,j,b⟩;replace j:=zy j;replace b:=zy b);try go_ret
  rw[u.o,hr.o];exact nok (W_ .nothing D_) (r.o.trans j u_) b z
 .have hr:=zy (show rdT s (zx ds) pl (f+1) (.leaf 110 p) i=none by rw[rdT];unfold xw;rw[i_ rfl,n_ c]);replace c:=zy c;go_in;go_wp2_with (go_at_call 190;apply(xQ 78 l.o.R y m rfl D_ c).mono;rintro e B ⟨rfl,j,b⟩;have c:=(l.o.call b j m).e;replace j:=zy j;replace b:=zy b);go_quiet (fail);go_wp2;try go_ret
  rw[u.o,hr.o];exact oz ((r.o.trans j u_).si (zq.drewN _ _)) (b.o.si (zq.drewN _ _)) m
def Pg:qy w0 P ss ds sv rv xs s nt nx pl br (f+1) (.leaf 116 p) i:=by
 intro w v M c;obtain rfl:v=.iface 214 (.agg #[I_ p]):=by
  cases c with
  |base _ _ h=>rfl
  |name _ _ h=>exact absurd h D_
 have hr:rdT s (zx ds) pl (f+1) (.leaf 116 p) i=lf s i:=by
  rw[rdT];unfold xw lf;rw[n_ D_,i_ rfl]
 rw[hr];refine hq_ λm j=>?_;have A:Fr w (w.alloc (.cells #[I_ p] 214)) N_:=(A_ w _).alloc _;have c:=M.new A;have m:=zy (Yj (t:=.leaf 116 p) c);replace A:=zy A;go_in;go_wp2_with (go_at_call 191;apply m.o.mono;intro e c r;obtain⟨u,l,rfl,b⟩:=r;replace b:=zy b);try go_ret
 rw[j.o];exact yw.pre A ⟨u,l,rfl,b⟩
def Pu(b:PG w0 P ss ds sv rv xs s nt nx pl br):qy w0 P ss ds sv rv xs s nt nx pl br (f+1) (.leaf 105 p) i:=by
 intro w v M j;obtain rfl:v=.iface 215 (.agg #[I_ p]):=by
  cases j with
  |base _ _ h=>rfl
  |name _ _ h=>exact absurd h D_
 have hr:rdT s (zx ds) pl (f+1) (.leaf 105 p) i=(vj s 105 i).map (λq=>(.mk 105 q.1 noB [] [],q.2)):=by
  rw[rdT];unfold xw;rw[n_ D_,n_ D_,i_ D_];cases vj s 105 i<;>rfl
 rw[hr];refine hq_ λr l=>?_;have A:Fr w (w.alloc (.cells #[I_ p] 215)) N_:=(A_ w _).alloc _;have j:=M.new A;have r:=zy ((b _ _ (.leaf 105 p) j).1);replace A:=zy A;go_in;go_wp2_with (go_at_call 192;apply r.o.mono;intro e j b;obtain⟨u,m,rfl,c⟩:=b;replace c:=zy c);try go_ret
 rw[l.o];exact yw.pre A ⟨u,m,rfl,c⟩
def Pb(b:PG w0 P ss ds sv rv xs s nt nx pl br):qy w0 P ss ds sv rv xs s nt nx pl br (f+1) (.leaf 108 p) i:=by
 intro w v M j;obtain rfl:v=.iface 216 (.agg #[I_ p]):=by
  cases j with
  |base _ _ h=>rfl
  |name _ _ h=>exact absurd h D_
 have hr:rdT s (zx ds) pl (f+1) (.leaf 108 p) i=(vj s 108 i).map (λq=>(.mk 108 q.1 noB [] [],q.2)):=by
  rw[rdT];unfold xw;rw[n_ D_,n_ D_,i_ D_];cases vj s 108 i<;>rfl
 rw[hr];refine hq_ λr l=>?_;have A:Fr w (w.alloc (.cells #[I_ p] 216)) N_:=(A_ w _).alloc _;have j:=M.new A;have r:=zy ((b _ _ (.leaf 108 p) j).2);replace A:=zy A;go_in;go_wp2_with (go_at_call 192;apply r.o.mono;intro e j b;obtain⟨u,m,rfl,c⟩:=b;replace c:=zy c);try go_ret
 rw[l.o];exact yw.pre A ⟨u,m,rfl,c⟩
def Pf:qy w0 P ss ds sv rv xs s nt nx pl br (f+1) (.leaf 115 p) i:=by
 intro w v M c;obtain rfl:v=.iface 217 (.agg #[I_ p]):=by
  cases c with
  |base _ _ h=>rfl
  |name _ _ h=>exact absurd h D_
 have hr:rdT s (zx ds) pl (f+1) (.leaf 115 p) i=sC s i:=by
  rw[rdT];unfold xw sC;rw[n_ D_,n_ D_,n_ D_,i_ rfl]
 rw[hr];refine hq_ λm j=>?_;have A:Fr w (w.alloc (.cells #[I_ p] 217)) N_:=(A_ w _).alloc _;have c:=M.new A;have m:=zy (aO (t:=.leaf 115 p) c);replace A:=zy A;go_in;go_wp2_with (go_at_call 193;apply m.o.mono;intro e c r;obtain⟨u,l,rfl,b⟩:=r;replace b:=zy b);try go_ret
 rw[j.o];exact yw.pre A ⟨u,l,rfl,b⟩
def cq17_{p:Prop}(h:p:=by
 (first|(have:=cc1;intro w v M hn m)|(intro w v M m));obtain⟨b,r,rfl⟩:∃b,TyV w P t b/\v=.iface 219 (.agg #[I_ p,b]):=by
  cases m with
  |wrap _ _ h=>exact⟨_,h,rfl⟩
 obtain⟨B,C,rfl⟩:=r.iface;(first|(have:=cc1;refine hq_ λy c=>?_)|(rw[rdT]));(first|(have:=cc1;unfold kC at c;simp only at c)|(refine hq_ λy c=>?_));clear m;have A:Fr w (w.alloc (.cells #[I_ p,.iface B C] 219)) N_:=(A_ w _).alloc _;have l:=M.new A;(first|(have:=cc1;have x:=zy (Vr (p:=p) (pt:=(p:Int)) hI l hn (r.fr A u_) hR))|(have x:=zy (Jf (q0:=p) (p:=(p:Int)) l (r.fr A u_) hI hR)));replace A:=zy A;clear l M;go_in;go_wp2_with ((first|go_at_call 194|go_at_call 112);apply x.o.mono;intro e D z;obtain⟨b,u,rfl,j⟩:=z;replace j:=zy j);try go_ret
 rw[c.o];(first|(have:=cc1;exact yx.pre A.o ⟨b,u,rfl,j.o⟩)|(exact yw.pre A.o ⟨b,u,rfl,j.o⟩))):p:=h
def UY(hI:yg w0)(hR:∀j,i<j->j<=s.size->qy w0 P ss ds sv rv xs s nt nx pl br f t j):qy w0 P ss ds sv rv xs s nt nx pl br (f+1) (.wrap 91 p t) i:=by
 exact cq17_
def cq16_{p:Prop}(h:p:=by
 (first|(have:=cc1;intro w v M hn m)|(intro w v M m));obtain⟨b,r,rfl⟩:∃b,TyV w P t b/\v=.iface 220 (.agg #[I_ p,b]):=by
  cases m with
  |wrap _ _ h=>exact⟨_,h,rfl⟩
 obtain⟨B,C,rfl⟩:=r.iface;(first|(have:=cc1;refine hq_ λy c=>?_)|(rw[rdT]));(first|(have:=cc1;unfold kC at c;simp only at c)|(refine hq_ λy c=>?_));clear m;have A:Fr w (w.alloc (.cells #[I_ p,.iface B C] 220)) N_:=(A_ w _).alloc _;have l:=M.new A;(first|(have:=cc1;have x:=zy (QJ (p:=p) (pt:=(p:Int)) hI l hn (r.fr A u_) hR))|(have x:=zy (im (q0:=p) (p:=(p:Int)) l (r.fr A u_) hI hR)));replace A:=zy A;clear l M;go_in;go_wp2_with ((first|go_at_call 195|go_at_call 113);apply x.o.mono;intro e D z;obtain⟨b,u,rfl,j⟩:=z;replace j:=zy j);try go_ret
 rw[c.o];(first|(have:=cc1;exact yx.pre A.o ⟨b,u,rfl,j.o⟩)|(exact yw.pre A.o ⟨b,u,rfl,j.o⟩))):p:=h
def Pw(hI:yk w0)(hR:∀j,i<j->j<=s.size->qy w0 P ss ds sv rv xs s nt nx pl br f t j):qy w0 P ss ds sv rv xs s nt nx pl br (f+1) (.wrap 123 p t) i:=by
 exact cq16_
def UX{l:Ad}(B:l≠[])(G:yg w0)(j:∀t∈l,qy w0 P ss ds sv rv xs s nt nx true br f t i):qy w0 P ss ds sv rv xs s nt nx true br (f+1) (.alts p l) i:=by
 intro w v M y;cases l with
 |nil=>exact absurd rfl B
 |cons t r=>
 obtain⟨X,b,ho,_,hX,rfl⟩:∃X b,w.ownsRow 0 58 1 b (t::r).length ((List.range (t::r).length).map X)/\(∀g,b.ownBlock=some g->P g)/\(∀i u,(t::r)[i]?=some u->TyV w P u (X i))/\v=.iface 223 (.agg #[I_ p,b]):=by
  cases y with
  |alts _ X ho hP h=>exact⟨X,_,ho,hP,h,rfl⟩
 obtain⟨D,E,rfl⟩:=zw ho;have hr:rdT s (zx ds) true (f+1) (.alts p (t::r)) i=Yz 0 (rdT s (zx ds) true f t i):=by
  rw[rdT];unfold jc;rw[i_ rfl];simp only;cases rdT s (zx ds) true f t i<;>rfl
 rw[hr];refine hq_ λx C=>?_;have x:=j t x8_;have z:=hX 0 t rfl;have A:Fr w (w.alloc (.cells #[I_ p,.slice D (t::r).length E] 223)) N_:=(A_ w _).alloc _;have j:=M.new A;have m:=zy (Yx (tt:=.alts p (t::r)) (p:=(p:Int)) rfl j (zj ho A u_) (z.fr A u_) G x);replace A:=zy A;generalize (t::r).length=n at m A⊢;go_in;go_wp2_with (go_at_call 196;apply m.o.mono;intro e j H;obtain⟨b,F,rfl,c⟩:=H;replace c:=zy c);try go_ret
 rw[C.o];exact yw.pre A ⟨b,F,rfl,c⟩
end
def PC(tt:PT)(w0:Aw)(P:Az)(ss:BA)(ds:Aq)(sv rv:Ax)(xs:Ay)(s:BA)(nt:Av)(nx:Ax)(pl:Ar)(br f:Nat)(b:PB)(i:Nat):Prop:=
 ∀(w:World) (v:Value),NC w0 P ss ds sv rv xs s nt nx pl br i w->yX w P ss b v->
  Calls prog 148 #[P_ br,v] w (yw (zx ds) tt w sv rv s nt nx pl br (yj (rdT s (zx ds) pl f) s b i))
section
variable {tt:PT} {w0:Aw} {P:Az} {ss:BA} {ds:Aq} {sv rv:Ax} {xs:Ay} {s:BA} {nt:Av} {nx:Ax} {pl:Ar} {br i:Nat} {f p:Nat}
def Qx(F:∀k g,fs[k]?=some g->zD (zx ds) tt 0 k=g.ty)(u:∀g∈fs,zl g.letter=true)(D:fs.length<=300)(E:eO (zx ds))(r:∀g∈fs,okT (zx ds) g.ty)(l:∀g∈fs,∀j,i<j->j<=s.size->qy w0 P ss ds sv rv xs s nt nx pl br f g.ty j):PC tt w0 P ss ds sv rv xs s nt nx pl br f (.recd fs) i:=by
 intro w v M m;obtain⟨p,b,zs,ho,hP,h,rfl⟩:∃(p:Nat) (b:Value) (zs:List Value),w.ownsRow 0 195 4 b fs.length zs/\(∀g,b.ownBlock=some g->P g)/\xX w P ss fs zs/\v=.iface 228 (.agg #[I_ p,b]):=by
  cases m with
  |recd p ho hP h=>exact⟨p,_,_,ho,hP,h,rfl⟩
 obtain⟨z,B,rfl⟩:=zw ho;refine hq_ λb x=>?_;have A:Fr w (w.alloc (.cells #[I_ p,.slice z fs.length B] 228)) N_:=(A_ w _).alloc _;have b:=M.new A;have m:=zy (aA (p:=(p:Int)) F b ((⟨ho,hP,h⟩:xu w P ss fs _ _).fr A u_) u D E r l);replace A:=zy A;go_in;go_wp2_with (go_at_call 197;apply m.o.mono;intro e b C;obtain⟨G,y,rfl,c⟩:=C;replace c:=zy c);try go_ret
 rw[x.o];exact yw.pre A ⟨G,y,rfl,c⟩
def Qv{l:As}(E:∀n,fW (zx ds) tt n=(l.map Prod.fst).getD n 0)(m:∀q∈l,zl q.1=true)(D:l.length<=300):PC tt w0 P ss ds sv rv xs s nt nx pl br f (.enum l o) i:=by
 intro w v M r;obtain⟨p,b,u,ho,hP,hu,rfl⟩:∃(p:Nat) (b u:Value),w.ownsRow 0 192 2 b l.length (zI l)/\(∀g,b.ownBlock=some g->P g)/\qu w P o u/\v=.iface 233 (.agg #[I_ p,b,u]):=by
  cases r with
  |enum p ho hP h=>exact⟨p,_,_,ho,hP,h,rfl⟩
 obtain⟨z,B,rfl⟩:=zw ho;obtain⟨dd,rfl⟩:∃d,u=.pointer d:=by
  unfold qu at hu;split at hu
  .exact⟨_,hu⟩
  .obtain⟨g',_,e,_⟩:=hu;exact⟨_,e⟩
 have hr:yj (rdT s (zx ds) pl f) s (.enum l o) i=iN s l i:=by
  unfold yj iN;simp only;by_cases b:i<s.size
  .rw[i_ b];cases (l.map Prod.fst).findIdx? (λc=>c==bt s i)<;>rfl
  .rw[n_ b,wi M_,fX (λh=>by
    obtain⟨q,b,e⟩:=a3_.1 h
    obtain⟨k,hk,_⟩:=kS (m q b)
    omega)]
 rw[hr];refine hq_ λb x=>?_;have A:Fr w (w.alloc (.cells #[I_ p,.slice z l.length B,.pointer dd] 233)) N_:=(A_ w _).alloc _;have b:=M.new A;have r:=zy (aI (t:=tt) (p:=(p:Int)) (u:=.pointer dd) b E (zj ho A u_) hP D m);replace A:=zy A;go_in;go_wp2_with (go_at_call 198;apply r.o.mono;intro e b C;obtain⟨F,y,rfl,j⟩:=C;replace j:=zy j);try go_ret
 rw[x.o];exact yw.pre A ⟨F,y,rfl,j⟩
def YI:PC tt w0 P ss ds sv rv xs s nt nx pl br f (.bytes n) i:=by
 intro w v M c;obtain⟨p,rfl⟩:∃p:Nat,v=.iface 235 (.agg #[I_ p,I_ n]):=by
  cases c with
  |bytes p n=>exact⟨p,rfl⟩
 have hr:yj (rdT s (zx ds) pl f) s (.bytes n) i=rX s n i:=by
  unfold yj rX;rfl
 rw[hr];refine hq_ λl h=>?_;have A:Fr w (w.alloc (.cells #[I_ p,I_ n] 235)) N_:=(A_ w _).alloc _;have c:=M.new A;have l:=zy (Yf (t:=tt) (p:=(p:Int)) (n:=n) c);replace A:=zy A;go_in;go_wp2_with (go_at_call 199;apply l.o.mono;intro e c m;obtain⟨r,j,rfl,b⟩:=m;replace b:=zy b);try go_ret
 rw[h.o];exact yw.pre A ⟨r,j,rfl,b⟩
def Qz{c:Nat}(hc:zo c=true){b:PB}(hb:zx ds c=some b)(Y:PC (.leaf c p) w0 P ss ds sv rv xs s nt nx pl br f b i):qy w0 P ss ds sv rv xs s nt nx pl br (f+1) (.leaf c p) i:=by
 intro w v M L;have a2:65<=c/\c<=70:=z7_
 obtain rfl:v=.iface 226 (.agg #[I_ p,U_ c]):=by
  cases L with
  |base _ _ h=>
   simp only[zr,ax_,beq_iff_eq]at h;omega
  |name _ _ h=>rfl
 have hr:rdT s (zx ds) pl (f+1) (.leaf c p) i=yj (rdT s (zx ds) pl f) s b i:=by
  rw[rdT];unfold xw;rw[n_ M_,n_ M_,n_ M_,n_ M_,hb]
 rw[hr];obtain⟨X,J⟩:=e_ (yj (rdT s (zx ds) pl f) s b i);rw[<- J];refine hq_ λa0 V=>?_;have A:Fr w (w.alloc (.cells #[I_ p,U_ c] 226)) N_:=(A_ w _).alloc _;have l:=M.new A;have m:=B_ w #[I_ p,U_ c] 226;have a1:=M.lt;have N:=zy (And.intro l (And.intro m A));clear hr L M l m A;go_in;go_wp2;obtain⟨l,m,A⟩:=N.o;have C:=l.si (zq.drew _);have u0:=l.R.c0;have O:=l.R.c1;have u2:=m.c1;have I:=jk (rv:=rv) c C.D;refine tR_ (λW=>z_ W br 0 sv/\z_ W br 1 rv/\z_ W w.heap.size 1 (U_ c)) ?_;refine tY_ 0 ?_;refine tY_ 1 ?_;refine tY_ 2 ?_;refine tY_ 3 ?_;refine tY_ 4 ?_;refine tY_ 5 ?_;refine tY_ 6 ?_;refine zV 7 rfl K_ ⟨u0,O,u2⟩ (λK u=>?_);go_simp;apply I.mono;rintro e w2 ⟨Z,rfl,x,G⟩;refine u _ _ ?_;clear u K;rw[hb]at G;have z:=C.new x;have E:=Y w2 Z z G;have F:=x.bl (((A_ _ N_).si (zq.drew (w.alloc (.cells #[I_ p,U_ c] 226)))).bl m id) id;have S:=z.R.c0;have T:=z.R.c1;have U:=F.c1;rw[<- J]at E;refine zV 8 rfl K_ ⟨S,T,U⟩ (λK u=>?_);go_simp;apply E.mono;rintro e w3 ⟨Q,H,rfl,B,y⟩;refine u _ _ ?_;clear u K;obtain⟨u,u⟩:∃j,yq w3 br sv rv s j (!pl):=by
  cases X with
  |none=>exact⟨_,y.2.2.choose_spec.1⟩
  |some q=>exact⟨_,y.2.2.1⟩
 have J:=u.c0;have L:=u.c1;have X:=(B.bl F M_).c1;replace y:=zy y;replace B:=zy B;replace x:=zy x;replace A:=zy A;clear I E l C z m F G N u0 O u2 S T U u;refine tY_ 9 ?_;refine tY_ 10 ?_;refine tY_ 11 ?_;refine tY_ 12 ?_;refine zO K_ ⟨J,L,X⟩ ?_ _;go_wp2;refine bodyPost_ret (v:=.tuple #[Q,H]) (by simp[results,results148,go_sem]) rfl ?_;rw[V.o];exact yw.pre (A.o.trans (((A_ _ N_).si (zq.drew _)).trans x u_) u_) ⟨Q,H,rfl,B,y⟩
end
def vb(ds:Aq):Prop:=∀c b,zx ds c=some b->plB b/\okB (zx ds) b
def vb.sm{ds:Aq}(h:vb ds):eO (zx ds):=λc _ _ e=>(h c _ e).1.2.1
def brL(pl:Ar)(l:Ad):Prop:=pl=true\/l.length<=300
mutual
def brT(pl:Ar):PT->Prop
 | .leaf _ _=>True
 | .wrap _ _ t=>brT pl t
 | .alts _ l=>brL pl l/\th pl l
def th(pl:Ar):List PT->Prop
 | []=>True
 |t::r=>brT pl t/\th pl r
end
def brE(pl:Ar)(ds:Aq):Prop:=∀c fs,zx ds c=some (.recd fs)->∀g∈fs,brT pl g.ty
mutual
def bE:∀t:PT,brT true t
 | .leaf _ _=>by unfold brT;trivial
 | .wrap _ _ t=>by unfold brT;exact bE t
 | .alts _ l=>by unfold brT;exact⟨.inl rfl,nC l⟩
def nC:∀l:List PT,th true l
 | []=>by unfold th;trivial
 |t::r=>by unfold th;exact⟨bE t,nC r⟩
end
def Vp{pl:Ar}:∀{l:List PT},th pl l->∀t∈l,brT pl t
 | [],_,t,h=>by cases h
 |a::r,h,t,b=>by
  unfold th at h;rcases an_.1 b with rfl|b
  .exact h.1
  .exact Vp h.2 t b
def Cj(w0:Aw)(P:Az)(ss:BA)(ds:Aq)(sv rv:Ax)(xs:Ay)(s:BA)(nt:Av)(nx:Ax)(pl:Ar)(br:Nat):Prop:=
 ∀(f p:Nat) (l:List PT) (i:Nat),l≠[]->brL pl l->i<=s.size->(∀t∈l,∀j,(pl=true->j=i)->(pl=false->i<j)->j<=s.size->qy w0 P ss ds sv rv xs s nt nx pl br f t j)->qy w0 P ss ds sv rv xs s nt nx pl br (f+1) (.alts p l) i
def Va{w0:Aw}{P:Az}{ss:BA}{ds:Aq}{sv rv:Ax}{xs:Ay}{s:BA}{nt:Av}{nx:Ax}{br:Nat}(b:yg w0):Cj w0 P ss ds sv rv xs s nt nx true br:=
 λ_ _ _ i j _ hi c=>UX j b (λt b=>c t b i (λ_=>rfl) (λh=>by cases h) hi)
def Pk{w0:Aw}{P:Az}{ss:BA}{ds:Aq}{sv rv:Ax}{xs:Ay}{s:BA}{nt:Av}{nx:Ax}{pl:Ar}{br:Nat}(B:vb ds)(hB:brE pl ds)(C:yg w0)(D:yk w0)(y:PG w0 P ss ds sv rv xs s nt nx pl br)(E:Cj w0 P ss ds sv rv xs s nt nx pl br):∀(f:Nat) (t:PT) (i:Nat),okT (zx ds) t->brT pl t->i<=s.size->2*(s.size-i)+(if t.isAlts=true then 1 else 0)<f->qy w0 P ss ds sv rv xs s nt nx pl br f t i:=by
 intro f;induction f with
 |zero=>intro t i _ _ _ h;omega
 |succ f ih=>
  intro t i b m hi hm;have next:∀u,okT (zx ds) u->brT pl u->∀j,i<j->j<=s.size->qy w0 P ss ds sv rv xs s nt nx pl br f u j:=λu hu hb j h1 z=>ih u j hu hb z (by split<;>omega);cases t with
  |leaf c p=>
   unfold okT at b;rcases b with hb|⟨hn,pb,he⟩
   .simp only[zr,ax_,beq_iff_eq]at hb;rcases hb with(((rfl|rfl)|rfl)|rfl)|rfl
    .exact Pp
    .exact Pg
    .exact Pu y
    .exact Pb y
    .exact Pf
   .obtain⟨y,A⟩:=B c pb he;refine Qz hn he ?_;cases pb with
    |recd fs=>exact Qx (λk g hg=>by simp only[zD,he,aw_,as_,hg];rfl) y.2.1 y.1 B.sm A (λg hg=>next g.ty (A g hg) (hB c fs he g hg))
    |enum l o=>exact Qv (λn=>by simp only[fW,he]) y.2.1 y.1
    |bytes n=>exact YI
  |wrap c p t=>
   unfold okT at b;unfold brT at m;rcases b.1 with rfl|rfl
   .exact UY C (next t b.2 m)
   .exact Pw D (next t b.2 m)
  |alts p l=>
   unfold okT at b;unfold brT at m;have A:∀u∈l,okT (zx ds) u/\u.isAlts=false:=by
    have:=b.2;clear b hm m;induction l with
    |nil=>intro u hu;simp at hu
    |cons x r ihr=>
     unfold iu at this;intro u hu;rcases an_.1 hu with rfl|hu
     .exact⟨this.2.1,this.1⟩
     .exact ihr this.2.2 u hu
   refine E f p l i b.1 m.1 hi (λu hu j h1 z b=>?_);refine ih u j (A u hu).1 (Vp m.2 u hu) b ?_;have b:i<=j:=by
    cases pl with
    |true=>have:=h1 rfl;omega
    |false=>have:=z rfl;omega
   rw[(A u hu).2];simp only[PT.isAlts,if_true]at hm;simp only[be_,if_false];omega
def ec(env:Au)(t:PT)(w:Aw)(S:Az)(nt:Av)(nx:Ax)(r:Option DT)(e:Ak)(w':Aw):Prop:=
 ∃v ev,e=.returned (.tuple #[v,ev])/\Fr w w' S/\match r with|some d=>ev=.nilIface/\DaV env w' (λg=>w.heap.size<=g) d t v|none=>v=.nilIface/\jv w' w.heap.size nt nx ev
def Yy{w0 w:Aw}{P:Az}{ss:BA}{ds:Aq}{sv rv:Ax}{xs:Ay}{s:BA}{nt:Av}{nx:Ax}{pl:Ar}{br:Nat}(M:NC w0 P ss ds sv rv xs s nt nx pl br 0 w)(x:TyV w P t v)(u:qy w0 P ss ds sv rv xs s nt nx pl br (2*s.size+2) t 0):Calls prog 108 #[P_ br,v] w (ec (zx ds) t w (· = br) nt nx (yI (zx ds) pl t s)):=by
 refine hq_ λB l=>?_;have m:=zy (u w v M x);replace M:=zy M;cases hp:rdT s (zx ds) pl (2*s.size+2) t 0 with
 |none=>
  have hr:=zy (show yI (zx ds) pl t s=none by unfold yI;rw[hp]);replace hp:=zy hp;go_in;go_wp2_with (go_at_call 148;apply m.o.mono;rintro e w1 ⟨y,r,rfl,b,hm⟩;rw[hp.o]at hm;obtain⟨rfl,c,_⟩:=hm;obtain⟨h,h,rfl⟩:=c.iface;replace b:=zy b;replace c:=zy c);try go_ret
  rw[l.o,hr.o];exact⟨_,_,rfl,b,rfl,c⟩
 |some q=>
  obtain⟨d,j⟩:=q;have u:=(jR s (zx ds) pl _ t 0 d j hp).2;by_cases h:j=s.size
  .have hr:=zy (show yI (zx ds) pl t s=some d by unfold yI;rw[hp];simp only;rw[i_ h]);have A:¬((j:Int)<(s.size:Int)):=M_;replace hp:=zy hp;go_in;go_wp2_with (go_at_call 148;apply m.o.mono;rintro e w1 ⟨y,r,rfl,b,hm⟩;rw[hp.o]at hm;obtain⟨rfl,c,h1,_⟩:=hm;obtain⟨dT,dx,rfl⟩:=c.iface;replace c:=zy c;have c2:=h1.c2;have c3:=h1.c3;replace b:=zy b);go_quiet (fail);go_wp2;try go_ret
   rw[l.o,hr.o];exact⟨_,_,rfl,b.o.si (zq.drewN _ _),rfl,c.o.fr ((A_ w1 N_).si (zq.drewN _ _)) u_⟩
  .have hr:=zy (show yI (zx ds) pl t s=none by unfold yI;rw[hp];simp only;rw[n_ h]);have A:(j:Int)<(s.size:Int):=M_;replace hp:=zy hp;go_in;go_wp2_with (go_at_call 148;apply m.o.mono;rintro e w1 ⟨y,r,rfl,b,hm⟩;rw[hp.o]at hm;obtain⟨rfl,c,h1,z⟩:=hm;obtain⟨dT,dx,rfl⟩:=c.iface;have c2:=h1.c2;have c3:=h1.c3;have c:=(M.o.call h1 b z).e;replace b:=zy b);go_quiet (fail);go_wp2;go_quiet (fail);go_wp2;try go_ret
   rw[l.o,hr.o];exact⟨_,_,rfl,b.o.si ((zq.drewN _ _).trans (zq.drewN _ _)),rfl,.base⟩
def db(w0:Aw):Prop:=∀P ss ds sv rv xs s nt nx pl br,PG w0 P ss ds sv rv xs s nt nx pl br
def ox{w0 w:Aw}{P:Az}{ss:BA}{ds:Aq}{sv:Ax}{rT:Av}{rx:Ax}{xs:Ay}{s:BA}{nt:Av}{nx:Ax}(D:yC w P ss ds sv xs)(u:TyV w P t v)(m:yy w0 w)(hk:w0.heap.size<=w.heap.size)(E:∀g,P g->g<w.heap.size)(B:vw 3 w0 nt nx)(hs:s.size<=300)(H:okT (zx ds) t)(G:vb ds)(r:yg w0)(F:yk w0)(C:db w0):Calls prog 82 #[.agg #[sv,.iface rT rx],v,.string s] w (ec (zx ds) t w N_ nt nx (yI (zx ds) true t s)):=by
 refine hq_ λh y=>?_;obtain⟨b,c,rfl⟩:=zw D.row;have A:Fr w ((w.alloc (.cells #[.slice b ds.length c,.iface rT rx] 60)).alloc (.cells #[.slice b ds.length c,.iface rT rx,.string s,O_,.bool false] 256)) N_:=((A_ w _).alloc _).alloc _;have x:(w.alloc (.cells #[.slice b ds.length c,.iface rT rx] 60)).heap.size=w.heap.size+1:=x8_
 have h:=B_ (w.alloc (.cells #[.slice b ds.length c,.iface rT rx] 60)) #[.slice b ds.length c,.iface rT rx,.string s,O_,.bool false] 256;rw[x]at h;have l:NC w0 P ss ds (.slice b ds.length c) (.iface rT rx) xs s nt nx true (w.heap.size+1) 0 ((w.alloc (.cells #[.slice b ds.length c,.iface rT rx] 60)).alloc (.cells #[.slice b ds.length c,.iface rT rx,.string s,O_,.bool false] 256)):=
  ⟨h,D.fr A u_,m.fr A hk (λg f=>f.elim),B,λg hg=>by have:=E g hg;omega,M_,M_,al_ _⟩
 have b:=zy (Yy l (u.fr A u_) (Pk G (λ_ _ _ g _=>bE g.ty) r F (C _ _ _ _ _ _ _ _ _ _ _) (Va r) _ t 0 H (bE t) o_ (by split<;>omega)));replace A:=zy A;go_in;go_wp2_with (go_at_call 108;apply b.o.mono;rintro e w1 ⟨J,z,rfl,j,hm⟩;replace j:=zy j;replace hm:=zy hm);try go_ret
 rw[y.o];have I:=A.o.size;refine⟨J,z,rfl,A.o.trans j (λg hg e=>M_),?_⟩;have b:=hm.o;cases c:yI (zx ds) true t s with
 |none=>rw[c]at b;exact⟨b.1,b.2.ls I⟩
 |some d=>rw[c]at b;exact⟨b.1,b.2.mono (λg _ hg=>M_)⟩
section
variable {w:Aw} {P:Az} {s:BA} {g:Nat} {cs:Ay}
def fj(hb:Blk w g cs 199)(x:Ax){b:Nat}{xs:Ay}(ho:w.ownsRow b e k v n xs)(m:e≠199):(w.setCell ⟨g,2,none⟩ x).ownsRow b e k v n xs:=by
 refine zj ho (X_ w ⟨g,2,none⟩ x) (λg' c e'=>?_);have j:g'=g:=e';subst j;rcases ho.2 with⟨l,_⟩|⟨j,j,j,rfl,_,h,_⟩
 .rw[l]at c;simp[Value.ownBlock]at c
 .simp only[Value.ownBlock,af_]at c;subst c;unfold Blk at hb;rw[hb]at h;simp only[af_,Obj.cells.injEq]at h;exact m h.2.1.symm
def TyV.put(hb:Blk w g cs 199)(x:Ax)(h:TyV w P t v):TyV (w.setCell ⟨g,2,none⟩ x) P t v:=by
 induction h with
 |base c p h=>exact .base c p h
 |name c p h=>exact .name c p h
 |wrap c p h ih=>exact .wrap c p ih
 |alts p X ho hP h ih=>exact .alts p X (fj hb x ho D_) hP ih
def DfV.put(hb:Blk w g cs 199)(x:Ax)(hx:IfV x){d:Ax}(h:DfV w P s o d):DfV (w.setCell ⟨g,2,none⟩ x) P s o d:=by
 match o with
 |none=>exact h
 |some (a,e)=>
  obtain⟨g',l,h1,b,j,c⟩:=h;by_cases hg:g'=g
  .subst hg;exact⟨g',x,h1,b,hx,c.set 2 x⟩
  .exact⟨g',l,h1,b,j,c.ot (a:=⟨g,2,none⟩) x hg⟩
def xX.put(hb:Blk w g cs 199)(x:Ax)(hx:IfV x){ys:Ay}(h:xX w P s fs ys):xX (w.setCell ⟨g,2,none⟩ x) P s fs ys:=λi f e=>by
 obtain⟨a,b,c,d,h1,l,m,r,j⟩:=h i f e;exact⟨a,b,c,d,h1,l,m,r,j.1,j.2.1,j.2.2.1.put hb x,j.2.2.2.put hb x hx⟩
def xu.put(hb:Blk w g cs 199)(x:Ax)(hx:IfV x){fv:Ax}{ys:Ay}(h:xu w P s fs fv ys):xu (w.setCell ⟨g,2,none⟩ x) P s fs fv ys:=
 ⟨fj hb x h.row D_,h.off,h.V.put hb x hx⟩
def qu.put(hb:Blk w g cs 199)(x:Ax){d:Ax}(h:qu w P o d):qu (w.setCell ⟨g,2,none⟩ x) P o d:=by
 match o with
 |none=>exact h
 |some (a,e)=>
  obtain⟨g',h1,j,b⟩:=h;refine⟨g',h1,j,b.ot (a:=⟨g,2,none⟩) x (λe'=>?_)⟩;have c:g'=g:=e';subst c;unfold Blk at hb b;rw[hb]at b;simp only[af_,Obj.cells.injEq]at b;exact absurd b.2.1 D_
def yX.put(hb:Blk w g cs 199)(x:Ax)(hx:IfV x){b:PB}(h:yX w P s b v):yX (w.setCell ⟨g,2,none⟩ x) P s b v:=by
 cases h with
 |recd p ho hP h hp=>exact .recd p (fj hb x ho D_) hP (h.put hb x hx) hp
 |enum p ho hP h hp=>exact .enum p (fj hb x ho D_) hP (h.put hb x) hp
 |bytes p n hp=>exact .bytes p n hp
def yC.put(hb:Blk w g cs 199)(x:Ax)(hx:IfV x){ds:Aq}{sv:Ax}{xs:Ay}(h:yC w P s ds sv xs):yC (w.setCell ⟨g,2,none⟩ x) P s ds sv xs:=
 ⟨fj hb x h.row D_,h.off,λi d e=>by
  obtain⟨c,h1,b,j,l⟩:=h.V i d e
  exact⟨c,h1,b,j,l.put hb x hx⟩,h.len⟩
end
def yC.mono{w:Aw}{P Q:Az}{s:BA}{ds:Aq}{sv:Ax}{xs:Ay}(h:yC w P s ds sv xs)(b:∀g,g<w.heap.size->P g->Q g):yC w Q s ds sv xs:=
 ⟨h.row,λg e=>b g (h.row.lt g e).2 (h.off g e),h.V.mono b,h.len⟩
def WW{s:BA}{env:Au}{f:PF}(h:fs[q]?=some f):(fs.drop q).flatMap (dfB s env)=dfB s env f++(fs.drop (q+1)).flatMap (dfB s env):=by
 have hl:=(ai_.1 h).1;rw[bo_ hl,a7_,(ai_.1 h).2]
structure RDM(w0 w:Aw)(P:Az)(s:BA)(ds:Aq)(sv rv:Ax)(xs:Ay)(fv:Ax)(ys:Ay)(W:Aw):Prop where
 fr:Fr w W P
 D:yC W P s ds sv xs
 F:xu W (λg=>P g\/w.heap.size+1<=g) s (zk ds) fv ys
 B:Blk W w.heap.size [sv,rv] 60
 G:yy w0 W
 T:∀t x,TyV w P t x->TyV W P t x
section
variable {w0 w W W':Aw} {P:Az} {s:BA} {ds:Aq} {sv rv:Ax} {xs:Ay} {fv:Ax} {ys:Ay}
def RDM.new(M:RDM w0 w P s ds sv rv xs fv ys W)(hk:w0.heap.size<=w.heap.size)(hf:Fr W W' N_):RDM w0 w P s ds sv rv xs fv ys W':=
 ⟨M.fr.trans hf v_,M.D.fr hf u_,M.F.fr hf u_,hf.bl M.B id,M.G.fr hf (aj_ hk M.fr.size) (λ_ f=>f.elim),λt x h=>(M.T t x h).fr hf u_⟩
def RDM.put(M:RDM w0 w P s ds sv rv xs fv ys W)(hk:w0.heap.size<=w.heap.size)(b:∀g,P g->w0.heap.size<=g){g:Nat}{cs:Ay}(hb:Blk W g cs 199)(hg:P g\/w.heap.size+1<=g)(x:Ax)(hx:IfV x):RDM w0 w P s ds sv rv xs fv ys (W.setCell ⟨g,2,none⟩ x):=by
 have c:w0.heap.size<=g:=by
  rcases hg with h|h
  .exact b g h
  .omega
 refine⟨M.fr.setCell ⟨g,2,none⟩ x (λh=>?_),M.D.put hb x hx,M.F.put hb x hx,M.B.ot (a:=⟨g,2,none⟩) x (λe=>?_),M.G.fr (X_ W ⟨g,2,none⟩ x) (aj_ hk M.fr.size) (λg' e=>?_),λt y h=>(M.T t y h).put hb x⟩
 .rcases hg with b|b
  .exact b
  .have:g<w.heap.size:=h;omega
 .have e':w.heap.size=g:=e;have hB:=M.B;rw[e']at hB;unfold Blk at hb hB;rw[hb]at hB;simp only[af_,Obj.cells.injEq]at hB;exact absurd hB.2.1 D_
 .have e':g'=g:=e;omega
end
def sp(blk:En)(f:PF)(d:Ax):Prop:=∀a e,f.dflt=some (a,e)->d=.pointer (some ⟨blk a,0,none⟩)
structure Zp(P:Az)(ds:Aq)(blk:En):Prop where
 off:∀f∈zk ds,∀a e,f.dflt=some (a,e)->P (blk a)
 ne:∀(i j:Nat) (f g:PF) (a e a' e':Nat),(zk ds)[i]?=some f->(zk ds)[j]?=some g->f.dflt=some (a,e)->g.dflt=some (a',e')->i≠j->blk a≠blk a'
def mq(lo:Nat)(s:BA)(ds:Aq)(blk:En)(W:Aw)(f:PF):Prop:=
 ∀a e,f.dflt=some (a,e)->∃x d,yI (zx ds) true f.ty (s.extract a e)=some d/\Blk W (blk a) [I_ a,.string (s.extract a e),x] 199/\DaV (zx ds) W (λg=>lo<=g) d f.ty x
def mq.fr{s:BA}{ds:Aq}{W W':Aw}{f:PF}{S:Az}(h:mq lo s ds blk W f)(hf:Fr W W' S)(j:∀g,lo<=g->¬S g)(hb:∀a e,f.dflt=some (a,e)->¬S (blk a)):mq lo s ds blk W' f:=λa e he=>by
 obtain⟨x,d,h1,b,c⟩:=h a e he;exact⟨x,d,h1,hf.bl b (hb a e he),c.fr hf j⟩
def gC(w W:Aw):Prop:=∀(b:Nat) (e:TypeId) (k:Nat) (v:Value) (n:Nat) (ys:List Value),e≠199->w.ownsRow b e k v n ys->W.ownsRow b e k v n ys
def gC.new{w W W':Aw}(h:gC w W)(hf:Fr W W' N_):gC w W':=λb e k v n ys he ho=>zj (h b e k v n ys he ho) hf u_
def gC.put{w W:Aw}{g:Nat}{cs:Ay}{x:Ax}(h:gC w W)(hb:Blk W g cs 199):gC w (W.setCell ⟨g,2,none⟩ x):=λb e k v n ys he ho=>fj hb x (h b e k v n ys he ho) he
def Vu(w:Aw)(P:Az)(s:BA)(ds:Aq)(sv:Ax)(xs:Ay)(nt:Av)(nx:Ax)(blk:En)(L:Ao)(e:Ak)(w':Aw):Prop:=
 ∃v,e=.returned v/\Fr w w' P/\match L with | []=>v=.nilIface/\yC w' P s ds sv xs/\(∀t x,TyV w P t x->TyV w' P t x)/\(∀f∈zk ds,mq w.heap.size s ds blk w' f)/\gC w w'|y::_=>∃ev,zA w' w.heap.size v (y:Int) ev/\jv w' w.heap.size nt nx ev
def gL(lo:Nat)(s:BA)(ds:Aq)(blk:En)(q:Nat)(W:Aw):Prop:=∀i f,i<q->(zk ds)[i]?=some f->mq lo s ds blk W f
def gL.new{s:BA}{ds:Aq}{W W':Aw}(h:gL lo s ds blk q W)(hf:Fr W W' N_):gL lo s ds blk q W':=λi f hi hd=>(h i f hi hd).fr hf u_ (λ_ _ _ f=>f)
def gL.put{P:Az}{s:BA}{ds:Aq}{W:Aw}{f:PF}{x:Ax}{d:DT}(h:gL lo s ds blk q W)(K:Zp P ds blk)(hP:∀g,P g->g<lo)(hd:(zk ds)[q]?=some f)(he:f.dflt=some (a,e))(hr:yI (zx ds) true f.ty (s.extract a e)=some d)(hb:Blk W (blk a) [I_ a,.string (s.extract a e),x] 199)(hv:DaV (zx ds) W (λg=>lo<=g) d f.ty v):gL lo s ds blk (q+1) (W.setCell ⟨blk a,2,none⟩ v):=by
 have b:=ag_ hd;have c:=hP _ (K.off f b a e he);have hf:Fr W (W.setCell ⟨blk a,2,none⟩ v) (λg=>g=blk a):=X_ W ⟨blk a,2,none⟩ v;intro i g hi hg;by_cases j:i=q
 .subst j;rw[hd]at hg;cases hg;intro a' e' b;rw[he]at b;cases b;exact⟨v,d,hr,hb.set 2 v,hv.fr hf (λg h1 c=>M_)⟩
 .exact(h i g M_ hg).fr hf (λg h1 c=>M_) (λa' e' b c=>K.ne i q g f a' e' a e hg hd b he j c)
def cd{w0 w:Aw}{P:Az}{s:BA}{ds:Aq}{sv:Ax}{rT:Av}{rx:Ax}{xs:Ay}{nt:Av}{nx:Ax}(D:yC w P s ds sv xs)(hG:yy w0 w)(hk:w0.heap.size<=w.heap.size)(d8:∀g,P g->w0.heap.size<=g)(a3:∀g,P g->g<w.heap.size)(hE:vw 3 w0 nt nx)(hs:s.size<=300)(e3:(zk ds).length<=300)(e5:∀f∈zk ds,okT (zx ds) f.ty)(e0:vb ds)(hI:yg w0)(hQ:yk w0)(hN:db w0)(d9:Zq (sp blk) w ds sv)(KB:Zp P ds blk):Calls prog 44 #[.agg #[sv,.iface rT rx]] w (Vu w P s ds sv xs nt nx blk (qO s ds)):=by
 refine hq_ λr Q_=>?_;obtain⟨y,z,rfl⟩:=zw D.row;have r:Fr w (w.alloc (.cells #[.slice y ds.length z,.iface rT rx] 60)) N_:=(A_ w _).alloc _;have b8:(w.alloc (.cells #[.slice y ds.length z,.iface rT rx] 60)).heap.size=w.heap.size+1:=x8_
 have O:=tU (rv:=.iface rT rx) (D.fr r u_) e3 (λg hg=>bg_ (a3 g hg) r.size) (λW g q a4 m d p fs fv zs hW=>d9 W g q a4 m d p fs fv zs (r.trans hW u_));replace KB:=zy KB;rw[b8]at O;have a9:H_ (∀w1 fv ys,Fr (w.alloc (.cells #[.slice y ds.length z,.iface rT rx] 60)) w1 N_->xu w1 (λg=>P g\/w.heap.size+1<=g) s (zk ds) fv ys->RDM w0 w P s ds (.slice y ds.length z) (.iface rT rx) xs fv ys w1):=zy (λw1 fv ys hf S=>⟨(r.mono v_).trans hf v_,(D.fr r u_).fr hf u_,S,hf.bl (B_ w #[.slice y ds.length z,.iface rT rx] 60) id,(hG.fr r hk (λ_ f=>f.elim)).fr hf M_ (λ_ f=>f.elim),λt x h=>(h.fr r u_).fr hf u_⟩);have a7:=zy (λ(w1:World) (I:Fr (w.alloc (.cells #[.slice y ds.length z,.iface rT rx] 60)) w1 N_)=>(show gC w w1 from λb e k v n ys _ ho=>zj (zj ho r u_) I u_));replace O:=zy O;go_in;go_wp2_with (go_at_call 80;apply O.o.mono;rintro e w1 ⟨fv,ys,rfl,I,S,a2⟩;replace a2:=zy a2;have c:=a9.o w1 fv ys I S;obtain⟨fa,fc,rfl⟩:=zw S.row;replace c:=zy c;replace I:=zy I);have start:H_ (∃q:Nat,Value.int .i64 0=I_ q/\q<=(zk ds).length/\(zk ds).length+1-q<=(zk ds).length+1/\RDM w0 w P s ds (.slice y ds.length z) (.iface rT rx) xs (.slice fa (zk ds).length fc) ys w1/\qO s ds=((zk ds).drop q).flatMap (dfB s (zx ds))/\gL w.heap.size s ds blk q w1/\gC w w1):=zy ⟨0,rfl,al_ _,M_,c,rfl,(λi f h=>absurd h (Nat.not_lt_zero _)),a7.o w1 I⟩;go_loopg [10] ((zk ds).length+1) (λm v W=>∃q:Nat,v=I_ q/\q<=(zk ds).length/\(zk ds).length+1-q<=m/\RDM w0 w P s ds (.slice y ds.length z) (.iface rT rx) xs (.slice fa (zk ds).length fc) ys W/\qO s ds=((zk ds).drop q).flatMap (dfB s (zx ds))/\gL w.heap.size s ds blk q W/\gC w W);case atStart=>exact start
 case round=>
  obtain⟨q,rfl,r,hm,M,he,a0,a1⟩:=hrel;by_cases Y:q<(zk ds).length
  .have e4:(q:Int)<((zk ds).length:Int):=M_;have hd:(zk ds)[q]?=some (zk ds)[q]:=ak_ Y;have b6:(zk ds)[q]∈zk ds:=bj_ Y;generalize (zk ds)[q]=f at hd b6;obtain⟨g,a4,r⟩:=zp M.F.row M_;cases r;obtain⟨T,x,d,c0,c1,c2,c3,hT,R⟩:=M.F.cells hd;have a5:sp blk f (.pointer d):=by
    have r:ys.length=(zk ds).length*4:=M.F.row.1;obtain⟨u,hu⟩:∃u,ys[4*q+3]?=some u:=⟨_,ak_ M_⟩;have hc:=zt M.F.row rfl hu;rw[bi_]at hc;rw[hc]at c3;cases c3;exact a2.o q f _ hd hu
   rw[WW hd]at he;obtain⟨l,b5⟩:=x_ f.letter;obtain⟨pl,b7⟩:=x_ f.place;rw[b5]at c1;rw[b7]at c0;have e6:=e5 f b6;have A:=(A_ wr N_).alloc (.cells #[I_ pl,U_ l,.iface T x,.pointer d] 195);have C:=B_ wr #[I_ pl,U_ l,.iface T x,.pointer d] 195;have c:=M.new hk A;have a6:=zy (a0.new A);have a8:=zy (a1.new A);cases j:f.dflt with
   |none=>
    rw[j]at R;have E:d=none:=by
     have:Value.pointer d=.pointer none:=R;cases this;rfl
    subst E;have H:=zy (show qO s ds=((zk ds).drop (q+1)).flatMap (dfB s (zx ds)) by rw[he];unfold dfB;rw[j];rfl);replace c:=zy c;go_wp2;go_roundg ((zk ds).length+1-(q+1));case measure=>omega
    case rel=>exact⟨q+1,rfl,Y,l_,c,H,(λi g hi hg=>by
     by_cases J:i=q
     .subst J;rw[hd]at hg;cases hg;intro a e h;rw[j]at h;cases h
     .exact a6.o i g M_ hg),a8⟩
   |some ae=>
    obtain⟨a,J⟩:=ae;rw[j]at R;obtain⟨r,I,e2,I,O,O⟩:=R;cases I;obtain rfl:r=blk a:=by have:=a5 a J j;cases this;rfl
    replace j:=zy j;replace hd:=zy hd;have R:dfB s (zx ds) f=if (yI (zx ds) true f.ty (s.extract a J)).isSome=true then [] else [a]:=by unfold dfB;rw[j.o]
    rw[R]at he;have L:=A.bl O id;have r:=A.size;have I:=A.drew;have r:=M.new hk I;have N:=ox (s:=s.extract a J) (P:=λg=>(P g\/w.heap.size+1<=g)/\g<wr.heap.size) (rT:=rT) (rx:=rx) (r.D.mono (λg _ h=>⟨.inl h,by have:=a3 g h;have:=M.fr.size;omega⟩)) ((hT.mono (Q:=λg=>(P g\/w.heap.size+1<=g)/\g<wr.heap.size) (λg h1 S=>⟨S,h1⟩)).fr I u_) r.G (aj_ hk r.fr.size) (λg hg=>by have:=I.size;omega) hE z2_ e6 e0 hI hQ hN;have s0:=c.B.c0;have s1:=c.B.c1;have n2:=C.c2;have n3:=C.c3;have d1:=L.c1;have e8:=zy (r.fr.size:w.heap.size<=(wr.alloc (.cells #[I_ pl,U_ l,.iface T x,.pointer (some ⟨blk a,0,none⟩)] 195)).drew.heap.size);have b4:=zy (And.intro r (And.intro (I.bl O id) (And.intro C.drew N)));go_wp2;obtain⟨c,L,C,N⟩:=b4.o;have e1:=zy (show w.heap.size<=(wr.alloc (.cells #[I_ pl,U_ l,.iface T x,.pointer (some ⟨blk a,0,none⟩)] 195)).drew.heap.size from c.fr.size);refine tR_ (λW=>z_ W w.heap.size 0 (.slice y ds.length z)/\z_ W w.heap.size 1 (.iface rT rx)/\z_ W wr.heap.size 2 (.iface T x)/\z_ W wr.heap.size 3 (.pointer (some ⟨blk a,0,none⟩))/\z_ W (blk a) 1 (.string (s.extract a J))) ?_;refine tY_ 0 ?_;refine tY_ 1 ?_;refine tY_ 2 ?_;refine tY_ 3 ?_;refine tY_ 4 ?_;refine tY_ 5 ?_;refine tY_ 6 ?_;refine tY_ 7 ?_;refine zV 8 rfl K_ ⟨s0,s1,n2,n3,d1⟩ (λK hK=>?_);go_simp;apply N.mono;rintro e V ⟨r,r,rfl,r,Z⟩;refine hK _ _ ?_;have H:=c.new hk r;have b9:=zy ((a6.o.new ((A_ _ _).drew)).new r);have d6:=zy ((a8.o.new ((A_ _ _).drew)).new r);have y:=r.bl C id;have E:=r.bl L id;have A:=H.B.c0;have I:=H.B.c1;have z:=y.c2;have O:=y.c3;obtain⟨b0,b1,b2⟩:=E.d3;have bg:=E.th 2;refine tY_ 9 ?_;refine tY_ 10 ?_;refine tY_ 11 ?_;refine tY_ 12 ?_;refine tY_ 13 ?_;refine zO K_ ⟨A,I,z,O,b1⟩ ?_ _;revert r H E;refine h_ λr H E=>?_;cases U:yI (zx ds) true f.ty (s.extract a J) with
    |some dd=>
     rw[U]at Z he;simp only[Option.isSome_some,if_true]at he;rw[bm_]at he;obtain⟨rfl,X⟩:=Z;obtain⟨dT,dx,rfl⟩:=X.iface;have d7:=zy (d6.o.put (x:=.iface dT dx) E);have d2:=zy (b9.o.put KB a3 hd j U E (X.mono (λg _ hg=>aj_ e8 hg)));replace he:=zy he;go_wp2;go_roundg ((zk ds).length+1-(q+1));case measure=>omega
     case rel=>exact⟨q+1,rfl,Y,l_,H.o.put hk d8 E e2 (.iface dT dx) (.inr ⟨_,_,rfl⟩),he,d2,d7⟩
    |none=>
     rw[U]at Z he;simp only[Option.isSome_none,be_,if_false]at he;obtain⟨rfl,X⟩:=Z;obtain⟨eT,ex,rfl⟩:=X.iface;replace he:=zy he;replace X:=zy X;go_wp2_with (go_at_call 77;apply(xg (a:Int) _).mono;rintro e c ⟨rfl,c⟩;rw[c]);try go_ret
     rw[Q_.o];have e7:=H.o.fr.size;have A3:Fr V (V.alloc (.cells #[I_ a,.iface eT ex] 187)) N_:=(A_ V _).alloc _;refine⟨_,rfl,H.o.fr.trans A3 v_,?_⟩;rw[he.o];exact⟨.iface eT ex,⟨V.heap.size,e7,rfl,B_ V _ _⟩,(X.o.fr A3 u_).ls (by have:=e1.o;omega)⟩
  .have e4:¬((q:Int)<((zk ds).length:Int)):=M_;rw[b1_ M_,b7_]at he;replace he:=zy he;replace M:=zy M;go_wp2;try go_ret
   rw[Q_.o];refine⟨.nilIface,rfl,M.o.fr,?_⟩;rw[he.o];exact⟨rfl,M.o.D,M.o.T,(λf hf=>by
    obtain⟨i,hi⟩:=bp_ hf
    exact a0 i f (by have:=(ai_.1 hi).1;omega) hi),a1⟩
def fA{w:Aw}{b r:Nat}{e:Av}{xs xs':Ay}(h:w.ownsRow b e k v n xs)(l:w.ownsRow r e k v n xs'):xs=xs':=by
 have h1:xs.length=n*k:=h.1;have m:xs'.length=n*k:=l.1;rcases Nat.eq_zero_or_pos n with h0|h0
 .subst h0;rw[Nat.zero_mul]at h1 m;rw[ci_ h1,ci_ m]
 .obtain⟨g,m,rfl⟩:=zp h h0;apply List.ext_getElem?;intro j;by_cases m:j<n*k
  .obtain⟨x,hx⟩:∃x,xs[j]?=some x:=⟨_,ak_ M_⟩;obtain⟨y,hy⟩:∃y,xs'[j]?=some y:=⟨_,ak_ M_⟩;have a:=zt h rfl hx;have c:=zt l rfl hy;rw[a]at c;cases c;rw[hx,hy]
  .rw[bl_ M_,bl_ M_]
def bR{ds:Aq}{i:Nat}{f:PF}(hd:ds[k]?=some d)(hf:d.body.fs[i]?=some f):(zk ds)[(zk (ds.take k)).length+i]?=some f:=by
 have hk:=(ai_.1 hd).1;have h:zk ds=zk (ds.take (k+1))++zk (ds.drop (k+1)):=by
  unfold zk;rw[<- a9_,List.take_append_drop]
 have hi:=(ai_.1 hf).1;rw[h,ki hd,bt_,au_ M_,cg_,aq_ hi];exact hf
def bC{ds:Aq}{b:Nat}(hd:ds[k]?=some d)(hk:k<b):(zk (ds.take k)).length+d.body.fs.length<=(zk (ds.take b)).length:=by
 have h:=mC (ds:=ds.take b) (k+1);rw[List.take_take,Nat.min_eq_left M_,ki hd,ah_]at h;exact h
def eY(w:Aw)(P:Az)(s:BA)(ds:Aq)(xs:Ay)(a g:Nat):Prop:=
 ∃(k:Nat) (d:PD) (fs:List PF) (p:Nat) (fv:Value) (zs:List Value) (i:Nat) (f:PF) (e:Nat) (x:Value),ds[k]?=some d/\d.body=.recd fs/\xs[3*k+2]?=some (.iface 228 (.agg #[I_ p,fv]))/\w.ownsRow 0 195 4 fv fs.length zs/\fs[i]?=some f/\f.dflt=some (a,e)/\zs[4*i+3]?=some (P_ g)/\P g/\Blk w g [I_ a,.string (s.extract a e),x] 199
def eY.uniq{w:Aw}{P:Az}{s:BA}{ds:Aq}{xs:Ay}{g g':Nat}(hp:zi s=.ok (ds,t))(h:eY w P s ds xs a g)(B:eY w P s ds xs a g'):g=g':=by
 obtain⟨k,d,fs,p,fv,zs,i,f,e,x,h1,u,F,G,y,I,K,_,_⟩:=h;obtain⟨c,C,D,p',E,z,r,f',e',z,b,j,m,H,z,J,A,_,_⟩:=B;have hb:d.body.fs=fs:=by rw[u];rfl
 have B:C.body.fs=D:=by rw[j];rfl
 have C:=bR h1 (by rw[hb];exact y);have D:=bR b (by rw[B];exact z);have hi:=(ai_.1 y).1;have y:=(ai_.1 z).1;have y:(zk (ds.take k)).length+i=(zk (ds.take c)).length+r:=by
  by_cases hx:(zk (ds.take k)).length+i=(zk (ds.take c)).length+r
  .exact hx
  .exact absurd rfl (Bq hp _ _ f f' a e a e' C D I J hx)
 have M:k=c:=by
  rcases Nat.lt_trichotomy k c with hl|hl|hl
  .have:=bC h1 hl;rw[hb]at this;omega
  .exact hl
  .have:=bC b hl;rw[B]at this;omega
 subst M;rw[h1]at b;cases b;rw[u]at j;cases j;rw[F]at m;simp only[af_,Value.iface.injEq,Value.agg.injEq,true_and]at m;obtain rfl:fv=E:=by
  have:=congrArg (λl:Array Value=>l[1]?) m;simpa using this
 have hz:=fA G H;subst hz;have L:i=r:=M_;subst L;rw[K]at A;cases A;rfl
open Classical in
noncomputable def blkOf (w:World) (P:Nat->Prop) (s:BA) (ds:List PD) (xs:List Value) (a:Nat):Nat:=if h:∃g,eY w P s ds xs a g then h.choose else 0
def bA{w:Aw}{P:Az}{s:BA}{ds:Aq}{xs:Ay}{g:Nat}(hp:zi s=.ok (ds,t))(h:eY w P s ds xs a g):blkOf w P s ds xs a=g:=by
 unfold blkOf;have he:∃g,eY w P s ds xs a g:=⟨g,h⟩;rw[dif_pos he];exact eY.uniq hp he.choose_spec h
def Vk{w:Aw}{P:Az}{s:BA}{ds:Aq}{sv:Ax}{xs:Ay}(D:yC w P s ds sv xs){i:Nat}{f:PF}(hd:ds[k]?=some d)(hb:d.body=.recd fs)(hf:fs[i]?=some f)(he:f.dflt=some (a,e)):∃p fv zs g,xs[3*k+2]?=some (.iface 228 (.agg #[Z_ ((p:Nat):Int),fv]))/\w.ownsRow 0 195 4 fv fs.length zs/\(∀b,fv.ownBlock=some b->P b)/\zs[4*i+3]?=some (P_ g)/\eY w P s ds xs a g:=by
 obtain⟨c,_,_,j,l⟩:=D.V k d hd;rw[hb]at l;cases l with
 |recd p ho hP h hp=>
  rename_i fv zs;obtain⟨c0,c1,c2,c3,u,y,z,q3,r⟩:=h i f hf;have m:=r.2.2.2;rw[he]at m;obtain⟨g,x,hg,rfl,_,hB⟩:=m;exact⟨p,fv,zs,g,j,ho,hP,q3,k,d,fs,p,fv,zs,i,f,e,x,hd,hb,j,ho,hf,he,q3,hg,hB⟩
def Xy{w:Aw}{P:Az}{s:BA}{ds:Aq}{sv:Ax}{xs:Ay}(D:yC w P s ds sv xs)(hp:zi s=.ok (ds,t)):Zq (sp (blkOf w P s ds xs)) w ds sv/\Zp P ds (blkOf w P s ds xs):=by
 have mem:∀f∈zk ds,∀a e,f.dflt=some (a,e)->∃g,eY w P s ds xs a g:=λf hf a e he=>by
  unfold zk at hf;obtain⟨d,hd,r⟩:=cb_.1 hf;obtain⟨k,hk⟩:=bp_ hd;cases hb:d.body with
  |recd fs=>
   rw[hb]at r;obtain⟨i,hi⟩:=bp_ (show f∈fs from r);obtain⟨_,_,_,g,_,_,_,_,h⟩:=Vk D hk hb hi he;exact⟨g,h⟩
  |enum l o=>rw[hb]at r;exact absurd r a8_
  |bytes n=>rw[hb]at r;exact absurd r a8_
 refine⟨λW g q r m d p fs fv zs x H hd hb hc ho i f dd hf y a e he=>?_,⟨λf hf a e he=>?_,λi j f g a e a' e' hf hg A B G z=>?_⟩⟩
 .obtain⟨r,u,r,r,h1,C,r,E,F⟩:=Vk D hd hb hf he;subst H;have hm:=mY D.row;subst hm;have r:=zt (zj D.row x u_) rfl h1;rw[show 3*q+2=q*3+2 by omega,hc]at r;simp only[af_,Value.iface.injEq,Value.agg.injEq,true_and]at r;obtain rfl:fv=u:=by
   have:=congrArg (λl:Array Value=>l[1]?) r;simpa using this
  have hz:=fA ho (zj C x u_);subst hz;rw[E]at y;cases y;rw[bA hp F]
 .obtain⟨g,h⟩:=mem f hf a e he;rw[bA hp h];obtain⟨_,_,_,_,_,_,_,_,_,_,_,_,_,_,_,_,_,hP,_⟩:=h;exact hP
 .have r:=Bq hp i j f g a e a' e' hf hg A B G;obtain⟨b,h⟩:=mem f (ag_ hf) a e A;obtain⟨r,u⟩:=mem g (ag_ hg) a' e' B;rw[bA hp h,bA hp u]at z;subst z;obtain⟨_,_,_,_,_,_,_,_,_,_,_,_,_,_,_,_,_,_,hB⟩:=h;obtain⟨_,_,_,_,_,_,_,_,_,_,_,_,_,_,_,_,_,_,x⟩:=u;have c:=hB.cell 0;have r:=x.cell 0;rw[c]at r;simp only[aa_,af_,Value.int.injEq,true_and]at r;omega
def pK(X:Dp)(w:Aw)(ds:Aq)(xs:Ay):Prop:=
 ∀(q:Nat) (d:PD) (p:Nat) (fs:List PF) (fv:Value) (zs:List Value),ds[q]?=some d->d.body=.recd fs->xs[3*q+2]?=some (.iface 228 (.agg #[I_ p,fv]))->w.ownsRow 0 195 4 fv fs.length zs->ug X fs zs
def Zq.cells{X:Dp}{w:Aw}{P:Az}{s:BA}{ds:Aq}{sv:Ax}{xs:Ay}(h:Zq X w ds sv)(D:yC w P s ds sv xs):pK X w ds xs:=λq d p fs fv zs hd hb hx ho=>by
 have b:=(ai_.1 hd).1;obtain⟨g,c,b⟩:=zp D.row M_;have hc:=zt D.row b hx;rw[show 3*q+2=q*3+2 by omega]at hc;exact h w g q c ds.length d p fs fv zs (A_ _ _) b hd hb hc ho
def pK.to{X:Dp}{w:Aw}{P:Az}{s:BA}{ds:Aq}{sv:Ax}{xs:Ay}(h:pK X w ds xs)(D:yC w P s ds sv xs)(hk:∀fv n zs,(∀g,fv.ownBlock=some g->P g)->w.ownsRow 0 195 4 fv n zs->w'.ownsRow 0 195 4 fv n zs):pK X w' ds xs:=λq d p fs fv zs hd hb hx ho=>by
 obtain⟨c,_,_,r,j⟩:=D.V q d hd;rw[hb]at j;have b:=r;rw[hx]at b;cases j with
 |recd p0 ho0 hP h0 hp0=>
  simp only[af_,Value.iface.injEq,Value.agg.injEq,true_and]at b;rename_i m u;obtain rfl:fv=m:=by
   have:=congrArg (λl:Array Value=>l[1]?) b;simpa using this
  have hz:=fA ho (hk _ _ _ hP ho0);subst hz;exact h q d p fs fv zs hd hb hx ho0
def Dfs(lo:Nat)(P:Az)(w:Aw)(s:BA)(ds:Aq)(xs:Ay):Prop:=
 ∃blk,pK (sp blk) w ds xs/\Zp P ds blk/\∀f∈zk ds,mq lo s ds blk w f
def Dfs.fr{P S:Az}{w:Aw}{s:BA}{ds:Aq}{sv:Ax}{xs:Ay}(h:Dfs lo P w s ds xs)(D:yC w P s ds sv xs)(hf:Fr w w' S)(c:∀g,P g->¬S g)(l:∀g,lo<=g->¬S g):Dfs lo P w' s ds xs:=by
 obtain⟨blk,h1,b,j⟩:=h;exact⟨blk,h1.to D (λfv n zs hP ho=>zj ho hf (λg e=>c g (hP g e))),b,λf hm=>(j f hm).fr hf l (λa e he=>c _ (b.off f hm a e he))⟩
def Dfs.mono{b:Nat}{P Q:Az}{w:Aw}{s:BA}{ds:Aq}{xs:Ay}(h:Dfs lo P w s ds xs)(hl:b<=lo)(j:∀g,P g->Q g):Dfs b Q w s ds xs:=by
 obtain⟨blk,h1,b,c⟩:=h;refine⟨blk,h1,⟨λf hf a e he=>j _ (b.off f hf a e he),b.ne⟩,λf hm a e he=>?_⟩;obtain⟨x,d,r1,b,j⟩:=c f hm a e he;exact⟨x,d,r1,b,j.mono (λg _ hg=>aj_ hl hg)⟩
def Fr.ofBelow{w:Aw}(h:Below w.heap.size w w'):Fr w w' N_:=⟨h.os,h.tape,h.output,h.size,λk hk _=>h.block k hk⟩
def Fr.bytes(w:Aw)(e:Av)(t:BA):Fr w (Lib.bytesWorld w e t) N_:=
 ⟨rfl,rfl,rfl,by rw[Lib.bytesWorld_size];omega,λk hk _=>Lib.bytesWorld_at_old w e t k hk⟩
def xW(w0:Aw):Prop:=∀(W:World),yy w0 W->∀t:BA,t.size<=4000->Calls prog 226 #[.string t,Z_ 10,Z_ 64] W (Bs W t)
def aZ{w0:Aw}{b c:Av}{l m:Ax}(h1:w0.var? prog "strconv.ErrSyntax" = some #[.iface b l])(r:w0.var? prog "strconv.ErrRange" = some #[.iface c m]):xW w0:=by
 intro W j t u;cases hp:Lib.parseIntB 64 t.data.toList with
 |ok v=>
  apply(Tryz.strconv_ParseInt_10_at64_ok t M_ v hp W).mono;rintro e w' ⟨rfl,hw⟩;refine⟨?_,.inl ⟨v,hp,rfl⟩⟩;rcases hw with rfl|⟨t',rfl⟩
  .exact A_ _ _
  .exact Fr.bytes _ _ _
 |range=>
  apply(Tryz.strconv_ParseInt_10_at64_range_var t M_ hp c m W (j.var r)).mono;rintro e w' ⟨N,rfl,_,_,hb⟩;exact⟨Fr.ofBelow hb,.inr ⟨λv h=>(by rw[hp]at h;cases h),_,_,_,rfl⟩⟩
 | _=>
  apply(Tryz.strconv_ParseInt_10_at64_syntax_var t M_ hp b l W (j.var h1)).mono;rintro e w' ⟨N,rfl,_,_,hb⟩;exact⟨Fr.ofBelow hb,.inr ⟨λv h=>(by rw[hp]at h;cases h),_,_,_,rfl⟩⟩
def yy.cell{w0 w:Aw}(h:yy w0 w){a:Addr}(hc:w0.cell? a=some v):w.cell? a=some v:=
 (World.cell?_of_block (h a.block (World.block_lt_of_cell? w0 a hc))).trans hc
def yy.tab{w0 w:Aw}(h:yy w0 w){g:Nat}{k:IntKind}{t:Ao}(l:Lib.TabSlice g k t w0):Lib.TabSlice g k t w:=by
 obtain⟨R,o,c,h1,b⟩:=l;exact⟨R,o,c,h.cell h1,λj l=>h.cell (b j l)⟩
def Ke{w0:Aw}{T:Lib.PrintTabs}(h:Lib.PrintTabsAt 18 19 20 21 T w0)(j:Lib.Utf8Tabs 16 17 w0):yk w0:=by
 intro W b k hk;apply(Tryz.strconv_Quote T k W M_ ⟨b.tab h.1,b.tab h.2.1,b.tab h.2.2.1,b.tab h.2.2.2.1,h.2.2.2.2⟩ ⟨λc hc=>b.cell (j.1 c hc),λi hi=>⟨b.cell (j.2 i hi).1,b.cell (j.2 i hi).2⟩⟩).mono;rintro e w' ⟨rfl,hb⟩;refine⟨_,rfl,?_,Fr.ofBelow hb⟩;rw[strOfNums_size];have:=Lib.quoteZ_length_le T k;omega
section
variable {w0 w:Aw} {P:Az} {ss:BA} {ds:Aq} {sv rv:Ax} {xs:Ay} {s:BA} {nt:Av} {nx:Ax} {pl:Ar} {br i:Nat}
def Pj(hP:xW w0){kd:Nat}(M:NC w0 P ss ds sv rv xs s nt nx pl br i w):Calls prog 212 #[P_ br,Z_ (loV kd),Z_ (hiV kd)] w λe w'=>∃n b,e=.returned (.tuple #[Z_ n,.bool b])/\Fr w w' (· = br)/\yq w' br sv rv s (yo s i) (!pl)/\(b=true↔qE kd (xK s i) (zS s i))/\(b=true->n=lH (xK s i) (zS s i) (zS s i).size/\-9223372036854775808<=n/\n<=9223372036854775807):=by
 have hs:=M.hs;apply(ir M.R M_ M.il (λW hf=>hP W (M.G.fr hf (by have:=M.lt;have:=M.brG;omega) (λg e=>e▸M.brG)) _ z2_)).mono;rintro e w' ⟨n,b,rfl,hf,c,hb,hv⟩;refine⟨n,b,rfl,hf,c,hb.trans ?_,λe=>?_⟩
 rotate_left
 .obtain⟨h1,c⟩:=Jx (hb.1 e).1.1 (hv e);exact⟨h1.symm,c⟩
 constructor
 .rintro⟨⟨c,j⟩,hv⟩;exact(aS c j).2 hv
 .intro h;have c:=h;unfold qE at c;exact⟨⟨c.1,c.2.1⟩,(aS c.1 c.2.1).1 h⟩
def mV{tt:PT}{kd:Nat}{lo hi:Int}(hP:xW w0)(M:NC w0 P ss ds sv rv xs s nt nx pl br i w)(x:kd=105\/kd=108)(h1:loV kd=lo)(u:hiV kd=hi):Calls prog 192 #[P_ br,Z_ lo,Z_ hi] w (yw (zx ds) tt w sv rv s nt nx pl br ((vj s kd i).map (λq=>(.mk kd q.1 noB [] [],q.2)))):=by
 have l:=Pj (kd:=kd) hP M;rw[h1,u]at l;clear h1 u hP;refine hq_ λu r=>?_;replace l:=zy l;have m:=(Kj (s:=s) M.il).2.2.2;replace M:=zy M;by_cases j:qE kd (xK s i) (zS s i)
 .have hr:=zy (show(vj s kd i).map (λq=>(DT.mk kd q.1 noB [] [],q.2))=some (.mk kd (lH (xK s i) (zS s i) (zS s i).size) noB [] [],yo s i) by unfold vj;rw[i_ j];rfl);replace j:=zy j;go_in;go_wp2_with (go_at_call 212;apply l.o.mono;rintro e w1 ⟨n,b,rfl,h,c,hb,hv⟩;obtain rfl:=hb.2 j;replace hv:=zy (hv rfl);replace h:=zy h;replace c:=zy c;clear hb);try go_ret
  rw[r.o,hr.o];exact nok (by rw[<- hv.o.1];exact W_ (.num kd n x hv.o.2.1 hv.o.2.2) D_) h c m
 .have hr:=zy (show(vj s kd i).map (λq=>(DT.mk kd q.1 noB [] [],q.2))=none by unfold vj;rw[n_ j];rfl);replace j:=zy j;go_in;go_wp2_with (go_at_call 212;apply l.o.mono;rintro e w1 ⟨n,b,rfl,h,c,hb,hv⟩;clear hv;obtain rfl:b=false:=(by cases b;rfl;exact absurd (hb.1 rfl) j);have j:=(M.o.call c h m).e;replace h:=zy h;replace c:=zy c;clear hb);go_quiet (fail);go_wp2;try go_ret
  rw[r.o,hr.o];exact oz (h.o.si (zq.drewN _ _)) (c.o.si (zq.drewN _ _)) m
end
def XF{w0:Aw}(hP:xW w0):db w0:=λ_ _ _ _ _ _ _ _ _ _ _ _ _ _ M=>⟨mV (kd:=105) hP M (.inl rfl) rfl rfl,mV (kd:=108) hP M (.inr rfl) rfl rfl⟩
section
variable {w0 w:Aw} {P:Az} {ss:BA} {ds:Aq} {sv rv:Ax} {xs:Ay} {s:BA} {nt:Av} {nx:Ax} {br i:Nat}
end
section
variable {w0:Aw} {P:Az} {ss:BA} {ds:Aq} {sv rv:Ax} {xs:Ay} {s:BA} {nt:Av} {nx:Ax} {br:Nat}
end
end Go.Proofs.YtamhgejdkclmdaaGreatDoor
