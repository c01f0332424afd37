import Derived.Test.YtlmebjdmdogmfaaGreatDoorW19
import Derived.Test.YtlmebjdmdogmfaaGreatDoorW18
import Derived.LaidEql
import Derived.Stop.Asserts
set_option linter.unusedVariables false
set_option maxHeartbeats 16000000
set_option maxRecDepth 100000
set_option linter.defProp false
set_option linter.unusedSimpArgs false
open Go.Proofs.Tryz
namespace Go.Proofs.YtlmebjdmdogmfaaGreatDoor
open Go.RowKit
variable {c lo j:Nat}{ev rx v:Ax}{W:Aw}{a:Int×Int}{rT:Av}{x:BA}
def cK(s:BA)(env:Au)(f:Nat)(t:PT)(i n:Nat):Except Nat (DT×Nat×Nat):=
 match t with
 | .leaf c _=>jO (rdB s env f) s env c i n
 | .wrap c _ t=>uz (rdB s env f t) s c i n
 | .alts _ ts=>fZ (rdB s env f) s ts i n
def Kt(s:BA)(env:Au)(f:Nat)(t:PT)(i n:Nat):rdB s env (f+1) t i n=if 300<=n then .error 7 else cK s env f t i (n+1):=by
 cases t<;>(rw[rdB];rfl)
def Pn(s:BA)(i:Nat):wt s (-9223372036854775808) 9223372036854775807 i=bL s i:=by
 unfold wt;cases h:bL s i with
 |none=>rfl
 |some q=>
  obtain⟨z,j⟩:=q;have:=ep h;simp only;rw[i_ ⟨this.2.2.1,this.2.2.2⟩]
def tY(P:Az)(ss:BA)(ds:Ar)(sv rv:Ax)(xs:Ay)(s:BA)(br f:Nat)(t:PT)(i n:Nat):Prop:=
 ∀(w:World) (v:Value) (q:DT×Nat×Nat),YC P ss ds sv rv xs s br i n w->n<=300->TyV w P t v->cK s (zx ds) f t i n=.ok q->
  Calls prog 84 #[P_ br,v] w (yk (zx ds) t w sv rv s br q)
def PK(P:Az)(ss:BA)(ds:Ar)(sv rv:Ax)(xs:Ay)(s:BA)(br f c p:Nat)(b:PB)(i n:Nat):Prop:=
 ∀(w:World) (v:Value) (q:DT×Nat×Nat),YC P ss ds sv rv xs s br i n w->n<=300->yV w P ss b v->kZ (rdB s (zx ds) f) s b i n=.ok q->
  Calls prog 84 #[P_ br,v] w (yk (zx ds) (.leaf c p) w sv rv s br q)
section
variable {P:Az} {ss:BA} {ds:Ar} {sv rv:Ax} {xs:Ay} {s:BA} {br i n:Nat} {f p:Nat}
def Pr:tY P ss ds sv rv xs s br f (.leaf 110 p) i n:=by
 intro w v q M hn e b;obtain rfl:v=.iface 215 (.agg #[I_ p]):=by
  cases e with
  |base _ _ h=>rfl
  |name _ _ h=>exact absurd h D_
 refine hq_ λd g=>?_;unfold cK at b;simp only at b;unfold jO at b;have A:Fr w (w.alloc (.cells #[I_ p] 215)) N_:=(A_ w _).alloc _;have d:=M.new A;rw[i_ rfl]at b;cases b;replace d:=zy d;replace A:=zy A;go_in;go_wp2;try go_ret
 rw[g.o];exact yok (W_ .nothing D_) (A.o.mono v_) d.o.R d.o.il
def Pl:tY P ss ds sv rv xs s br f (.leaf 116 p) i n:=by
 intro w v q M hn k b;obtain rfl:v=.iface 217 (.agg #[I_ p]):=by
  cases k with
  |base _ _ h=>rfl
  |name _ _ h=>exact absurd h D_
 refine hq_ λg l=>?_;unfold cK at b;simp only at b;unfold jO at b;have A:Fr w (w.alloc (.cells #[I_ p] 217)) N_:=(A_ w _).alloc _;have g:=M.new A;rw[n_ D_,i_ rfl]at b;have m:=zy (Zm (env:=zx ds) (t:=.leaf 116 p) g b);replace A:=zy A;go_in;go_wp2_with (go_at_call 130;apply m.o.mono;intro e b r;obtain⟨u,rfl,d⟩:=r;replace d:=zy d);try go_ret
 rw[l.o];exact yk.pre A ⟨u,rfl,d⟩
def Pt:tY P ss ds sv rv xs s br f (.leaf 105 p) i n:=by
 intro w v q M hn k b;obtain rfl:v=.iface 218 (.agg #[I_ p]):=by
  cases k with
  |base _ _ h=>rfl
  |name _ _ h=>exact absurd h D_
 refine hq_ λg l=>?_;unfold cK at b;simp only at b;unfold jO at b;have A:Fr w (w.alloc (.cells #[I_ p] 218)) N_:=(A_ w _).alloc _;have g:=M.new A;rw[n_ D_,n_ D_,i_ rfl]at b;have m:=zy (pG (env:=zx ds) (t:=.leaf 105 p) (c:=105) (lo:=-2147483648) (up:=2147483647) (.inl rfl) g b);replace A:=zy A;go_in;go_wp2_with (go_at_call 131;apply m.o.mono;intro e b r;obtain⟨u,rfl,d⟩:=r;replace d:=zy d);try go_ret
 rw[l.o];exact yk.pre A ⟨u,rfl,d⟩
def Pd:tY P ss ds sv rv xs s br f (.leaf 108 p) i n:=by
 intro w v q M hn k b;obtain rfl:v=.iface 219 (.agg #[I_ p]):=by
  cases k with
  |base _ _ h=>rfl
  |name _ _ h=>exact absurd h D_
 refine hq_ λg l=>?_;unfold cK at b;simp only at b;unfold jO at b;have A:Fr w (w.alloc (.cells #[I_ p] 219)) N_:=(A_ w _).alloc _;have g:=M.new A;rw[n_ D_,n_ D_,n_ D_,i_ rfl]at b;rw[<- Pn]at b;have m:=zy (pG (env:=zx ds) (t:=.leaf 108 p) (c:=108) (lo:=-9223372036854775808) (up:=9223372036854775807) (.inr rfl) g b);replace A:=zy A;go_in;go_wp2_with (go_at_call 131;apply m.o.mono;intro e b r;obtain⟨u,rfl,d⟩:=r;replace d:=zy d);try go_ret
 rw[l.o];exact yk.pre A ⟨u,rfl,d⟩
def Ph:tY P ss ds sv rv xs s br f (.leaf 115 p) i n:=by
 intro w v q M hn k b;obtain rfl:v=.iface 220 (.agg #[I_ p]):=by
  cases k with
  |base _ _ h=>rfl
  |name _ _ h=>exact absurd h D_
 refine hq_ λg l=>?_;unfold cK at b;simp only at b;unfold jO at b;have A:Fr w (w.alloc (.cells #[I_ p] 220)) N_:=(A_ w _).alloc _;have g:=M.new A;rw[n_ D_,n_ D_,n_ D_,n_ D_,i_ rfl]at b;have m:=zy (Vu (env:=zx ds) (t:=.leaf 115 p) g b);replace A:=zy A;go_in;go_wp2_with (go_at_call 132;apply m.o.mono;intro e b r;obtain⟨u,rfl,d⟩:=r;replace d:=zy d);try go_ret
 rw[l.o];exact yk.pre A ⟨u,rfl,d⟩
def UU{t:PT}(hI:∀j nn,n<=nn->nn<=300->j<=s.size->db P ss ds sv rv xs s br f t j nn):tY P ss ds sv rv xs s br f (.wrap 91 p t) i n:=by
 have cc1:=Nat
 exact cq17_
def Pc{t:PT}(hI:∀j nn,n<=nn->nn<=300->j<=s.size->db P ss ds sv rv xs s br f t j nn):tY P ss ds sv rv xs s br f (.wrap 123 p t) i n:=by
 have cc1:=Nat
 exact cq16_
def UC{l:Af}(hl:l.length<=4000)(m:∀t∈l,∀j,j<=s.size->db P ss ds sv rv xs s br f t j n):tY P ss ds sv rv xs s br f (.alts p l) i n:=by
 intro w v q M hn r k;obtain⟨X,b,ho,hP,hX,rfl⟩:∃(X:Nat->Value) (b:Value),w.ownsRow 0 46 1 b l.length ((List.range l.length).map X)/\(∀g,b.ownBlock=some g->P g)/\(∀i t,l[i]?=some t->TyV w P t (X i))/\v=.iface 226 (.agg #[I_ p,b]):=by
  cases r with
  |alts _ X ho hP h=>exact⟨X,_,ho,hP,h,rfl⟩
 obtain⟨y,z,rfl⟩:=zw ho;refine hq_ λb u=>?_;unfold cK at k;simp only at k;have A:Fr w (w.alloc (.cells #[I_ p,.slice y l.length z] 226)) N_:=(A_ w _).alloc _;have b:=M.new A;have r:=zy (Zu (p:=p) (pt:=(p:Int)) b hn hl (zj ho A u_) hP (λi t e=>(hX i t e).fr A u_) m k);replace A:=zy A;go_in;go_wp2_with (go_at_call 135;apply r.o.mono;intro e b B;obtain⟨C,rfl,d⟩:=B;replace d:=zy d);try go_ret
 rw[u.o];exact yk.pre A ⟨C,rfl,d⟩
def WG{fs:An}(hb:zx ds c=some (.recd fs))(G:fs.length<=300)(y:∀g∈fs,∀j nn,n<=nn->nn<=300->j<=s.size->db P ss ds sv rv xs s br f g.ty j nn):PK P ss ds sv rv xs s br f c p (.recd fs) i n:=by
 intro w v q M hn z b;obtain⟨B,d,zs,ho,hP,h,rfl⟩:∃(p:Nat) (d:Value) (zs:List Value),w.ownsRow 0 194 4 d fs.length zs/\(∀g,d.ownBlock=some g->P g)/\xG w P ss fs zs/\v=.iface 231 (.agg #[I_ p,d]):=by
  cases z with
  |recd p ho hP h=>exact⟨p,_,_,ho,hP,h,rfl⟩
 obtain⟨m,u,rfl⟩:=zw ho;refine hq_ λd C=>?_;unfold kZ at b;simp only at b;obtain⟨LL,F,rfl⟩:∃r,xU (rdB s (zx ds) f) (fs.map PF.ty) i n=.ok r/\q=(.mk 114 0 noB [] r.1,r.2):=by
  cases hx:xU (rdB s (zx ds) f) (fs.map PF.ty) i n with
  |error e=>rw[hx]at b;cases b
  |ok r=>rw[hx]at b;cases b;exact⟨r,rfl,rfl⟩
 have A:Fr w (w.alloc (.cells #[I_ B,.slice m fs.length u] 231)) N_:=(A_ w _).alloc _;have d:=M.new A;have b:xh w P ss fs (.slice m fs.length u) zs:=⟨ho,hP,h⟩;have m:=zy (eW (t:=.leaf c p) (pt:=(B:Int)) d hn (b.fr A u_) G (λk g e=>by simp[yg,hb,au_,e]) y F);replace A:=zy A;go_in;go_wp2_with (go_at_call 136;apply m.o.mono;intro e b D;obtain⟨H,rfl,l⟩:=D;replace l:=zy l);try go_ret
 rw[C.o];exact yk.pre A ⟨H,rfl,l⟩
def WP{l:As}{o:Ac}(hb:zx ds c=some (.enum l o))(z:∀q∈l,zl q.1=true)(H:l.length<=300):PK P ss ds sv rv xs s br f c p (.enum l o) i n:=by
 intro w v q M hn y r;obtain⟨B,b,u,ho,hP,hu,rfl⟩:∃(p:Nat) (b u:Value),w.ownsRow 0 191 2 b l.length (zE l)/\(∀g,b.ownBlock=some g->P g)/\qb w P o u/\v=.iface 236 (.agg #[I_ p,b,u]):=by
  cases y with
  |enum p ho hP h=>exact⟨p,_,_,ho,hP,h,rfl⟩
 obtain⟨D,F,rfl⟩:=zw ho;obtain⟨dd,rfl⟩:∃d,u=.pointer d:=by
  unfold qb at hu;split at hu
  .exact⟨_,hu⟩
  .obtain⟨g',_,e,_⟩:=hu;exact⟨_,e⟩
 refine hq_ λb C=>?_;unfold kZ at r;simp only at r;have A:Fr w (w.alloc (.cells #[I_ B,.slice D l.length F,.pointer dd] 236)) N_:=(A_ w _).alloc _;have b:=M.new A;have y:=zy (eK (t:=.leaf c p) (pt:=(B:Int)) (dd:=dd) b H z (zj ho A u_) hP (λk=>by simp[fU,hb]) r);replace A:=zy A;go_in;go_wp2_with (go_at_call 137;apply y.o.mono;intro e b G;obtain⟨I,rfl,m⟩:=G;replace m:=zy m);try go_ret
 rw[C.o];exact yk.pre A ⟨I,rfl,m⟩
def JT{k:Nat}(hk:k<=9):PK P ss ds sv rv xs s br f c p (.bytes k) i n:=by
 intro w v q M hn g d;obtain⟨h,rfl⟩:∃p:Nat,v=.iface 238 (.agg #[I_ p,I_ k]):=by
  cases g with
  |bytes p n=>exact⟨p,rfl⟩
 refine hq_ λm l=>?_;unfold kZ at d;simp only at d;have A:Fr w (w.alloc (.cells #[I_ h,I_ k] 238)) N_:=(A_ w _).alloc _;have g:=M.new A;have m:=zy (Zc (t:=.leaf c p) (pt:=(h:Int)) g hk d);replace A:=zy A;go_in;go_wp2_with (go_at_call 138;apply m.o.mono;intro e d r;obtain⟨u,rfl,b⟩:=r;replace b:=zy b);try go_ret
 rw[l.o];exact yk.pre A ⟨u,rfl,b⟩
def Gx(hc:zY c=true){b:PB}(hb:zx ds c=some b)(T:PK P ss ds sv rv xs s br f c p b i n):tY P ss ds sv rv xs s br f (.leaf c p) i n:=by
 intro w v q M hn G I;have X:65<=c/\c<=70:=z6_
 obtain rfl:v=.iface 229 (.agg #[I_ p,U_ c]):=by
  cases G with
  |base _ _ h=>
   simp only[zi,ax_,beq_iff_eq]at h;omega
  |name _ _ h=>rfl
 have hr:cK s (zx ds) f (.leaf c p) i n=kZ (rdB s (zx ds) f) s b i n:=by
  unfold cK;simp only;unfold jO;rw[n_ M_,n_ M_,n_ M_,n_ M_,n_ M_,hb]
 rw[hr]at I;refine hq_ λX S=>?_;have A:Fr w (w.alloc (.cells #[I_ p,U_ c] 229)) N_:=(A_ w _).alloc _;have d:=M.new A;have g:=B_ w #[I_ p,U_ c] 229;have X:=M.lt;have H:=zy (And.intro d (And.intro g A));clear hr G M d g A;go_in;go_wp2;obtain⟨d,g,A⟩:=H.o;have y:=d.si (zq.drew _);have u0:=d.R.c0;have J:=d.R.c1;have u2:=g.c1;have F:=jp (rv:=rv) c y.D;refine tR_ (λW=>z_ W br 0 sv/\z_ W br 1 rv/\z_ W w.heap.size 1 (U_ c)) ?_;refine tY_ 0 ?_;refine tY_ 1 ?_;refine tY_ 2 ?_;refine tY_ 3 ?_;refine tY_ 4 ?_;refine tY_ 5 ?_;refine tY_ 6 ?_;refine zJ 7 rfl K_ ⟨u0,J,u2⟩ (λK k=>?_);go_simp;apply F.mono;rintro e V ⟨U,rfl,l,B⟩;refine k _ _ ?_;clear k K;rw[hb]at B;have m:=y.new l;have C:=T V U q m hn B I;have z:=l.bl (((A_ _ N_).si (zq.drew (w.alloc (.cells #[I_ p,U_ c] 229)))).bl g id) id;have N:=m.R.c0;have O:=m.R.c1;have Q:=z.c1;refine zJ 8 rfl K_ ⟨N,O,Q⟩ (λK k=>?_);go_simp;apply C.mono;rintro e G ⟨L,rfl,r,u⟩;refine k _ _ ?_;clear k K;have k:=u.2.1;have G:=k.c0;have I:=k.c1;have T:=(r.bl z M_).c1;replace u:=zy u;replace r:=zy r;replace l:=zy l;replace A:=zy A;clear F C d y m g z B H u0 J u2 N O Q k;refine tY_ 9 ?_;refine tY_ 10 ?_;refine tY_ 11 ?_;refine tY_ 12 ?_;refine yq K_ ⟨G,I,T⟩ ?_ _;go_wp2;refine bodyPost_ret (v:=.tuple #[L,.nilIface]) (by simp[results,results84,go_sem]) rfl ?_;rw[S.o];exact yk.pre (A.o.trans (((A_ _ N_).si (zq.drew _)).trans l u_) u_) ⟨L,rfl,r,u⟩
end
section
variable {P:Az} {ss:BA} {ds:Ar} {sv rv:Ax} {xs:Ay} {s:BA} {br i n:Nat} {f p:Nat} {t:PT}
def Pj(m:n<300->tY P ss ds sv rv xs s br f t i (n+1)):db P ss ds sv rv xs s br (f+1) t i n:=by
 intro w v q M hn k d;refine hq_ λl r=>?_;rw[Kt]at d;have c4:=M.R.c4;have f4:=M.R.th 4;obtain⟨l,l,rfl⟩:=k.iface;by_cases l:n=300;case pos=>rw[i_ M_]at d;cases d
 rw[n_ M_]at d;have l:((n:Int)==300)=false:=x1_
 have b:Fr w (w.setCell ⟨br,4,none⟩ (Z_ ((n:Int)+1))) (· = br):=(A_ w (· = br)).setCell _ _ (λ_=>rfl);have l:=M.call M.R.node b M.il;have u:=zy (m M_ _ _ q l M_ (k.fr b (λg hg e=>M.brP (e▸hg))) d);replace b:=zy b;have d:(n:Int)<=300:=M_;go_in;go_wp2_with (go_at_call 84;apply u.o.mono;intro e d y;obtain⟨z,rfl,h⟩:=y;replace h:=zy h);try go_ret
 rw[r.o];exact yk.pre2 b ⟨z,rfl,h⟩
def MY(m:vj ds)(q:JB (zx ds)):∀(f:Nat) (t:PT) (i n:Nat),okT (zx ds) t->vq t->n<=300->301<=f+n->db P ss ds sv rv xs s br f t i n:=by
 intro f;induction f with
 |zero=>intro t i n _ _ h1 d;omega
 |succ f ih=>
  intro t i n b hw hn hm;refine Pj (λe=>?_);have next:∀u,okT (zx ds) u->vq u->∀j nn,n+1<=nn->nn<=300->j<=s.size->db P ss ds sv rv xs s br f u j nn:=λu hu hv j nn h1 d e=>ih u j nn hu hv d M_;cases t with
  |leaf c p=>
   unfold okT at b;rcases b with hb|⟨r,pb,he⟩
   .simp only[zi,ax_,beq_iff_eq]at hb;rcases hb with(((rfl|rfl)|rfl)|rfl)|rfl
    .exact Pr
    .exact Pl
    .exact Pt
    .exact Pd
    .exact Ph
   .obtain⟨d,e⟩:=m c pb he;refine Gx r he ?_;cases pb with
    |recd fs=>exact WG he d.1 (λg hg=>next g.ty (e g hg) ((q c fs he).2 g hg))
    |enum l o=>exact WP he d.2.1 d.1
    |bytes k=>exact JT e
  |wrap c p t=>
   unfold okT at b;unfold vq at hw;rcases b.1 with rfl|rfl
   .exact UU (next t b.2 hw)
   .exact Pc (next t b.2 hw)
  |alts p l=>
   unfold okT at b;unfold vq at hw;exact UC (o1_ hw.1) (λt h j d=>next t (vI b.2 t h).2 (kU hw.2 t h) j (n+1) l_ M_ d)
end
def Xl(env:Au)(t:PT)(w:Aw)(d:DT)(j:Nat)(e:Ak)(w':Aw):Prop:=
 ∃v,e=.returned (.tuple #[v,I_ j,.nilIface])/\Fr w w' N_/\DaV env w' (λg=>w.heap.size<=g) d t v
def Vh{w:Aw}{P:Az}{ss:BA}{ds:Ar}{sv:Ax}{xs:Ay}{s:BA}{t:PT}(D:yR w P ss ds sv xs)(y:TyV w P t (.iface rT rx))(G:∀g,P g->g<w.heap.size)(hs:s.size<=4000)(K:okT (zx ds) t)(J:vq t)(I:vj ds)(H:JB (zx ds)){d:DT}{m:Nat}(z:rdB s (zx ds) 301 t 0 0=.ok (d,j,m)):Calls prog 27 #[.agg #[sv,.iface rT rx],.string s] w (Xl (zx ds) t w d j):=by
 refine hq_ λl C=>?_;obtain⟨b,h,rfl⟩:=zw D.row;have A:Fr w ((w.alloc (.cells #[.slice b ds.length h,.iface rT rx] 48)).alloc (.cells #[.slice b ds.length h,.iface rT rx,.string s,O_,O_] 123)) N_:=((A_ w _).alloc _).alloc _;have B:(w.alloc (.cells #[.slice b ds.length h,.iface rT rx] 48)).heap.size=w.heap.size+1:=x7_
 have l:=B_ (w.alloc (.cells #[.slice b ds.length h,.iface rT rx] 48)) #[.slice b ds.length h,.iface rT rx,.string s,O_,O_] 123;rw[B]at l;have u:YC P ss ds (.slice b ds.length h) (.iface rT rx) xs s (w.heap.size+1) 0 0 ((w.alloc (.cells #[.slice b ds.length h,.iface rT rx] 48)).alloc (.cells #[.slice b ds.length h,.iface rT rx,.string s,O_,O_] 123)):=
  ⟨l,D.fr A u_,λg hg=>o1_ (G g hg),M_,al_ _⟩
 have G:=zy (MY I H 301 t 0 0 K J M_ M_ _ _ _ u M_ (y.fr A u_) z);have H:¬(4000:Int)<(s.size:Int):=M_;have hz:=zy (by simp:((w.alloc (.cells #[.slice b ds.length h,.iface rT rx] 48)).alloc (.cells #[.slice b ds.length h,.iface rT rx,.string s,O_,O_] 123)).heap.size=w.heap.size+2);replace A:=zy A;go_in;go_wp2_with (go_at_call 47;apply G.o.mono;rintro e w1 ⟨b,rfl,r,k,q,b⟩;obtain⟨dT,F,rfl⟩:=k.iface;have c3:=q.c3;replace r:=zy r;replace k:=zy k;replace q:=zy q);go_quiet (fail);go_wp2;refine bodyPost_ret (v:=.tuple #[.iface dT F,I_ j,.nilIface]) (by simp[results,results27,go_sem]) rfl ?_;rw[C.o];exact⟨_,rfl,(A.o.trans r (λg hg e=>M_)).si (zq.drewN _ _),(k.o.mono (λg _ hg=>by have:=hz.o;omega)).fr ((A_ _ N_).si (zq.drewN _ _)) u_⟩
open Go.Extern.Stop Go.Stop Go.Extern
def Wd(v:Ax)(w:Aw):(Extern.ReflectliteType.typeOf #[.iface 412 v]).run prog w=.ok (.iface 157 (.agg #[.pointer (some ⟨23,412,none⟩)])) w:=by kernel_rfl
def iP:∃M:Array Value->Sem Value,(∀(b:Array Value) (w:World),(callFunc 289 b).run prog w=((M b).run prog w).andThen λv w'=>.ok (.value v) w')/\∀w,(M #[.agg #[.pointer (some ⟨23,412,none⟩)]]).run prog w=.ok (.bool true) w:=
 ⟨Extern.ReflectliteType.method λt=>do Go.Extern.Rtype.noPackHeld "Comparable" t;pure (.bool (<- typeInfo t).comparable),@run_callFunc_extern prog 289 _ (Extern.ReflectliteType.method λt=>do Go.Extern.Rtype.noPackHeld "Comparable" t;pure (.bool (<- typeInfo t).comparable)) func289 K_ K_ K_ K_,λw=>K_⟩
def fA(v:Ax)(w:Aw):(Go.method 554 157 v "Comparable").run prog w=.ok (289,v) w:=by kernel_rfl
def Ui:(Tryz.prog.info? 412).map (·.comparable)=some true:=K_
def Us:(Tryz.prog.info? 414).map (·.size)=some 1:=K_
def MD(v:Ax)(b:Av)(w:Aw):(Instr.typeAssert (.iface 412 v) b 159 true).run prog w=.ok (.tuple #[.nilIface,.bool false]) w:=run_typeAssert_lacksB underlying159 K_ K_ v b w
def Jy(v:Ax)(b:Av)(w:Aw):(Instr.typeAssert (.iface 412 v) b 161 true).run prog w=.ok (.tuple #[.nilIface,.bool false]) w:=run_typeAssert_lacksB underlying161 K_ K_ v b w
def Yq(v:Ax)(b:Av)(w:Aw):(Instr.typeAssert (.iface 412 v) b 163 true).run prog w=.ok (.tuple #[.nilIface,.bool false]) w:=run_typeAssert_lacksB underlying163 K_ K_ v b w
def MR(v:Ax)(b:Av)(w:Aw):(Instr.typeAssert (.iface 184 v) b 159 true).run prog w=.ok (.tuple #[.nilIface,.bool false]) w:=run_typeAssert_lacksB underlying159 K_ K_ v b w
def YH(v:Ax)(b:Av)(w:Aw):(Instr.typeAssert (.iface 184 v) b 161 true).run prog w=.ok (.tuple #[.iface 184 v,.bool true]) w:=run_typeAssert_hasB underlying161 K_ v b w
def dH(v:Ax)(w:Aw):(Go.method 554 184 v "Unwrap").run prog w=.ok (299,v) w:=by kernel_rfl
def MH(v:Ax)(b:Av)(w:Aw):(Instr.typeAssert (.iface 367 v) b 159 true).run prog w=.ok (.tuple #[.nilIface,.bool false]) w:=run_typeAssert_lacksB underlying159 K_ K_ v b w
def YU(v:Ax)(b:Av)(w:Aw):(Instr.typeAssert (.iface 367 v) b 161 true).run prog w=.ok (.tuple #[.iface 367 v,.bool true]) w:=run_typeAssert_hasB underlying161 K_ v b w
def dC(v:Ax)(w:Aw):(Go.method 554 367 v "Unwrap").run prog w=.ok (321,v) w:=by kernel_rfl
inductive vF (W:Aw) (a:Addr):Nat->Value->Prop
 |leaf:vF W a 0 (.iface 412 (.pointer (some a)))
 |fault (g:Nat) (p:Int) (v:Value) (n:Nat) (hb:Blk W g [.int .i64 p,v] 186) (h:vF W a n v):vF W a (n+1) (.iface 184 (P_ g))
 |within (g:Nat) (tx:BA) (v:Value) (n:Nat) (hb:Blk W g [.string tx,v] 369) (h:vF W a n v):vF W a (n+1) (.iface 367 (P_ g))
def vF.iface{a:Addr}{n:Nat}(h:vF W a n v):∃T x,v=.iface T x:=by
 cases h<;>exact⟨_,_,rfl⟩
def FN{a b:Addr}{l u:Dy}{B tb:Av}(ha:W.heap[a.block]?=some (.cells l B (0,0)))(hb:W.heap[b.block]?=some (.cells u tb (0,0))){n:Nat}{E:Ax}(l:vF W a n E):Calls prog 33 #[E,.iface 412 (.pointer (some b)),.bool true] W λe w'=>e=.returned (.bool (decide (a=b)))/\w'=W:=by
 refine hq_ λu h=>?_;obtain⟨i,hi,q⟩:=b4_.1 Ui;obtain⟨j,r,z⟩:=b4_.1 Us;have u:=MD;have u:=Jy;have u:=Yq;have u:=MR;have u:=YH;have u:=dH;have u:=MH;have u:=YU;have u:=dC;have start:H_ (∃k,k<n+1/\vF W a k E):=zy ⟨n,M_,l⟩;go_in;go_wp2;go_loopg [0] (n+1) (λm v l=>∃k,k<m/\vF W a k v/\l=W);case atStart=>(obtain⟨k,h1,l⟩:=start.o;exact⟨k,h1,l,rfl⟩)
 case round=>
  obtain⟨k,hk,hc,rfl⟩:=hrel;cases hc with
  |leaf=>
   by_cases d:a=b
   .subst d;have y:=run_eql_iface_ptr_same (P:=prog) wr a underlying36 underlying412 hi q r;go_wp2;rw[h.o];exact⟨by simp,rfl⟩
   .have y:=run_eql_iface_ptr_other (P:=prog) wr underlying36 underlying412 hi q r (by rw[z];decide) d ha hb;go_wp2;rw[h.o];exact⟨by simp[d],rfl⟩
  |fault g p v k' hB h1=>
   have y:=run_eql_iface_types (P:=prog) 184 412 (P_ g) (.pointer (some b)) underlying36 D_ wr;obtain⟨d,C,rfl⟩:=h1.iface;have c1:=hB.c1;replace h1:=zy h1;go_wp2;go_roundg (k'+1);case measure=>omega
   case rel=>exact⟨k',M_,h1,rfl⟩
  |within g tx v k' hB h1=>
   have y:=run_eql_iface_types (P:=prog) 367 412 (P_ g) (.pointer (some b)) underlying36 D_ wr;obtain⟨d,C,rfl⟩:=h1.iface;have c1:=hB.c1;replace h1:=zy h1;go_wp2;go_roundg (k'+1);case measure=>omega
   case rel=>exact⟨k',M_,h1,rfl⟩
def FE{a b:Addr}{g h:Dy}{l tb:Av}(ha:W.heap[a.block]?=some (.cells g l (0,0)))(hb:W.heap[b.block]?=some (.cells h tb (0,0))){n:Nat}{E:Ax}(d:vF W a n E):Calls prog 19 #[E,.iface 412 (.pointer (some b))] W λe w'=>e=.returned (.bool (decide (a=b)))/\w'=W:=by
 have k:=zy (FN ha hb d);obtain⟨g,g,rfl⟩:=d.iface;have d:=@run_callFunc_extern prog 32 _ Extern.ReflectliteType.typeOf func32 K_ K_ K_ K_;have d:=Wd;obtain⟨d,d,d⟩:=iP;have d:=fA;go_in;go_wp2_with (go_at_call 33;apply k.o.mono;rintro e w' ⟨rfl,rfl⟩);go_ret;exact⟨rfl,rfl⟩
def XO(b:Addr)(w:Aw):Calls prog 19 #[.nilIface,.iface 412 (.pointer (some b))] w λe w'=>e=.returned (.bool false)/\w'=w:=by
 have hn:=run_eql_iface_nil_left (P:=prog) w 412 (.pointer (some b)) underlying36;go_in;go_wp2;go_ret;exact⟨rfl,rfl⟩
def pH:List Nat:=[7,0,1,2,3,4,5,6,8,9]
structure xl(A:Bb)(w:Aw):Prop where
 var:∀g∈pH,vN g w 412 (.pointer (some (A g)))
 row:∀g∈pH,∃c t,w.heap[(A g).block]?=some (.cells c t (0,0))
 ne:∀g∈pH,∀g'∈pH,g≠g'->A g≠A g'
def xl.fr{A:Bb}{w w':Aw}(h:xl A w)(hf:Fr w w' N_):xl A w':=by
 refine⟨λg hg=>(h.var g hg).fr hf id,λg hg=>?_,h.ne⟩;obtain⟨c,t,hr⟩:=h.row g hg;have hl:(A g).block<w.heap.size:=by
  by_cases b:(A g).block<w.heap.size
  .exact b
  .rw[Array.getElem?_eq_none M_]at hr;cases hr
 exact⟨c,t,(hf.block _ hl id).trans hr⟩
def WJ{A:Bb}{w:Aw}(S:xl A w){g b n:Nat}{E:Ax}(d:b∈pH)(hg:g∈pH)(h:vF w (A b) n E):Calls prog 19 #[E,.iface 412 (.pointer (some (A g)))] w λe w'=>e=.returned (.bool (decide (b=g)))/\w'=w:=by
 obtain⟨c,t,ha⟩:=S.row b d;obtain⟨k,t',hb⟩:=S.row g hg;apply(FE ha hb h).mono;rintro e w' ⟨rfl,rfl⟩;refine⟨?_,rfl⟩;by_cases e:b=g
 .subst e;simp
 .simp[e,S.ne b d g hg e]
def PL:List (Nat×Int):=[(7,1),(0,2),(1,3),(2,4),(3,5),(4,6),(5,7),(6,8),(8,1),(9,1)]
def jx{A:Bb}{w:Aw}(S:xl A w){b n:Nat}{k:Int}{E:Ax}(hp:(b,k)∈PL)(d:b∈pH)(h:vF w (A b) n E):Calls prog 11 #[E] w λe w'=>e=.returned (Z_ k)/\w'=w:=by
 have l:=zy (λg (hg:g∈pH)=>WJ S d hg h);have V:=zy S.var;have b:=V.o 7 D_;have d:=V.o 0 D_;have m:=V.o 1 D_;have q:=V.o 2 D_;have r:=V.o 3 D_;have u:=V.o 4 D_;have y:=V.o 5 D_;have z:=V.o 6 D_;have B:=V.o 8 D_;have C:=V.o 9 D_;unfold vN at b d m q r u y z B C;obtain⟨b,b,rfl⟩:=h.iface;simp only[PL,ao_,ad_,a9_,or_false]at hp;rcases hp with⟨rfl,rfl⟩|⟨rfl,rfl⟩|⟨rfl,rfl⟩|⟨rfl,rfl⟩|⟨rfl,rfl⟩|⟨rfl,rfl⟩|⟨rfl,rfl⟩|⟨rfl,rfl⟩|⟨rfl,rfl⟩|⟨rfl,rfl⟩;all_goals
  go_in;go_wp2_with (first
   |(go_at_call 19;apply(l.o _ D_).mono;rintro e w' ⟨rfl,rfl⟩)
   |go_in)
  go_ret;exact⟨rfl,rfl⟩
section
variable {A:Bb} {w:Aw} {n:Nat} {E:Ax}
def wG(S:xl A w)(h:vF w (A 7) n E):Calls prog 11 #[E] w λe w'=>e=.returned (Z_ 1)/\w'=w:=jx S D_ D_ h
def kq(S:xl A w)(h:vF w (A 0) n E):Calls prog 11 #[E] w λe w'=>e=.returned (Z_ 2)/\w'=w:=jx S D_ D_ h
def wW(S:xl A w)(h:vF w (A 1) n E):Calls prog 11 #[E] w λe w'=>e=.returned (Z_ 3)/\w'=w:=jx S D_ D_ h
def wj(S:xl A w)(h:vF w (A 2) n E):Calls prog 11 #[E] w λe w'=>e=.returned (Z_ 4)/\w'=w:=jx S D_ D_ h
def jf(S:xl A w)(h:vF w (A 3) n E):Calls prog 11 #[E] w λe w'=>e=.returned (Z_ 5)/\w'=w:=jx S D_ D_ h
def jd(S:xl A w)(h:vF w (A 5) n E):Calls prog 11 #[E] w λe w'=>e=.returned (Z_ 7)/\w'=w:=jx S D_ D_ h
def wq(S:xl A w)(h:vF w (A 8) n E):Calls prog 11 #[E] w λe w'=>e=.returned (Z_ 1)/\w'=w:=jx S D_ D_ h
end
def ji{w:Aw}{P:Az}{d:DT}{bt:Av}{bx:Ax}(hv:xW w P d v)(hn:ndT d<=1000000000)(m:vN 5 w bt bx):Calls prog 25 #[v] w λe w'=>e=.returned (if ndT d > 300 then .iface bt bx else .nilIface)/\Fr w w' N_:=by
 refine hq_ λq g=>?_;have k:=zy (Yj (ndT d) d l_ hn w P v hv);obtain⟨T,x,rfl⟩:=hv.iface;by_cases h:ndT d > 300
 .have l:(ndT d:Int) > 300:=M_;rw[i_ h]at g;go_in;go_wp2_with (go_at_call 45;apply k.o.mono;rintro e r ⟨rfl,b⟩;have q:=m.fr b id;unfold vN at q;replace b:=zy b);try go_ret
  rw[g.o];exact⟨rfl,b⟩
 .have l:¬(ndT d:Int) > 300:=M_;rw[n_ h]at g;go_in;go_wp2_with (go_at_call 45;apply k.o.mono;rintro e r ⟨rfl,b⟩;replace b:=zy b);try go_ret
  rw[g.o];exact⟨rfl,b⟩
def YP{A:Bb}{w:Aw}(S:xl A w):Calls prog 18 #[.nilIface] w λe w'=>e=.returned (.bool false)/\w'=w:=by
 have d:=S.var 7 D_;have g:=S.var 8 D_;have h:=S.var 9 D_;unfold vN at d g h;have b:=XO;clear S;go_in;go_wp2_with (go_at_call 19;apply(b _ _).mono;rintro e w' ⟨rfl,rfl⟩);try go_ret
 exact⟨rfl,rfl⟩
def Yy{A:Bb}{w:Aw}(S:xl A w):Calls prog 11 #[.nilIface] w λe w'=>e=.returned (O_)/\w'=w:=by
 have d:=S.var 0 D_;have g:=S.var 1 D_;have h:=S.var 2 D_;have k:=S.var 3 D_;have l:=S.var 4 D_;have m:=S.var 5 D_;have q:=S.var 6 D_;unfold vN at d g h k l m q;have b:=XO;have d:=zy (YP S);go_in;go_wp2_with (first
  |(go_at_call 18;apply d.o.mono;rintro e w' ⟨rfl,rfl⟩)
  |(go_at_call 19;apply(b _ _).mono;rintro e w' ⟨rfl,rfl⟩))
 try go_ret
 exact⟨rfl,rfl⟩
def Yf{w:Aw}{sa:Am}{sn sc:Nat}{s:BA}{lt:Av}{lx:Ax}(b:vN 8 w lt lx)(hs:4000<s.size):Calls prog 24 #[.agg #[.slice sa sn sc,.iface rT rx],.string s] w λe w'=>e=.returned (.tuple #[.nilIface,.iface lt lx])/\Fr w w' N_:=by
 refine hq_ λd d=>?_;have hs':(s.size:Int) > 4000:=M_;have A:Fr w (w.alloc (.cells #[.slice sa sn sc,.iface rT rx] 48)) N_:=(A_ w _).alloc _;have g:=b.fr A id;unfold vN at g;replace A:=zy A;go_in;go_wp2;go_quiet (fail);go_wp2;try go_ret
 rw[d.o];exact⟨rfl,A.o.si (zq.drewN _ _)⟩
def Jk{w0 w:Aw}{P:Az}{ss:BA}{ds:Ar}{sv:Ax}{xs:Ay}{s:BA}{nt:Av}{nx:Ax}{t:PT}(D:yR w P ss ds sv xs)(y:TyV w P t (.iface rT rx))(r:yu w0 w)(hk:w0.heap.size<=w.heap.size)(I:∀g,P g->g<w.heap.size)(F:vN 3 w0 nt nx)(hs:s.size<=4000)(N:okT (zx ds) t)(M:vj ds)(K:brE false ds)(L:brT false t)(u:yM w0)(J:yH w0)(G:mg w0)(H:xe w0):Calls prog 24 #[.agg #[sv,.iface rT rx],.string s] w (pY (zx ds) t w N_ nt nx (ym (zx ds) false t s)):=by
 refine hq_ λl B=>?_;obtain⟨b,k,rfl⟩:=zw D.row;have hs':¬(s.size:Int) > 4000:=M_;have A:Fr w ((w.alloc (.cells #[.slice b ds.length k,.iface rT rx] 48)).alloc (.cells #[.slice b ds.length k,.iface rT rx,.string s,O_,.bool true] 119)) N_:=((A_ w _).alloc _).alloc _;have z:(w.alloc (.cells #[.slice b ds.length k,.iface rT rx] 48)).heap.size=w.heap.size+1:=x7_
 have l:=B_ (w.alloc (.cells #[.slice b ds.length k,.iface rT rx] 48)) #[.slice b ds.length k,.iface rT rx,.string s,O_,.bool true] 119;rw[z]at l;have q:NC w0 P ss ds (.slice b ds.length k) (.iface rT rx) xs s nt nx false (w.heap.size+1) 0 ((w.alloc (.cells #[.slice b ds.length k,.iface rT rx] 48)).alloc (.cells #[.slice b ds.length k,.iface rT rx,.string s,O_,.bool true] 119)):=
  ⟨l,D.fr A u_,r.fr A hk (λg f=>f.elim),F,λg hg=>o1_ (I g hg),M_,M_,al_ _⟩
 have b:=zy (lU q (y.fr A u_) (Vv M K u J (G _ _ _ _ _ _ _ _ _ _ _) (GD u H) _ t 0 N L o_ (by split<;>omega)));replace A:=zy A;go_in;go_wp2_with (go_at_call 44;apply b.o.mono;rintro e w1 ⟨Q,C,rfl,m,hm⟩;replace m:=zy m;replace hm:=zy hm);try go_ret
 rw[B.o];have O:=A.o.size;refine⟨Q,C,rfl,A.o.trans m (λg hg e=>M_),?_⟩;have b:=hm.o;cases k:ym (zx ds) false t s with
 |none=>rw[k]at b;exact⟨b.1,b.2.ls O⟩
 |some d=>rw[k]at b;exact⟨b.1,b.2.mono (λg _ h=>M_)⟩
def ki(A:Bb):cB:=
 ⟨412,.pointer (some (A 7)),412,.pointer (some (A 0)),412,.pointer (some (A 1)),412,.pointer (some (A 2)),412,.pointer (some (A 3))⟩
def xl.errs{A:Bb}{w:Aw}(S:xl A w):(ki A).At w:=
 ⟨S.var _ D_,S.var _ D_,S.var _ D_,S.var _ D_,S.var _ D_⟩
def qC.chain{A:Bb}{w:Aw}(h:qC w lo (ki A).nt (ki A).nx v):∃n,vF w (A 3) n v:=by
 induction h with
 |base=>exact⟨0,.leaf⟩
 |within g hg tx hb h b=>
  obtain⟨n,b⟩:=b;exact⟨n+1,.within g tx _ n hb b⟩
def jk.fr{E:cB}{w w':Aw}(h:jk E w lo ev a)(hf:Fr w w' N_):jk E w' lo ev a:=by
 rcases h with h|h|⟨h1,b⟩|⟨h1,b⟩|⟨h1,b⟩|⟨h1,d,b,e⟩
 .exact .inl h
 .exact .inr (.inl h)
 .exact .inr (.inr (.inl ⟨h1,b.fr hf u_⟩))
 .exact .inr (.inr (.inr (.inl ⟨h1,b.fr hf u_⟩)))
 .exact .inr (.inr (.inr (.inr (.inl ⟨h1,b.fr hf u_⟩))))
 .exact .inr (.inr (.inr (.inr (.inr ⟨h1,d,b.fr hf u_,e.fr hf u_⟩))))
def jk.zero{E:cB}{w:Aw}(h:jk E w lo ev a)(h0:a.1=0):a.2=0/\ev=.nilIface:=by
 rcases h with⟨_,b,d⟩|⟨h1,_⟩|⟨h1,_⟩|⟨h1,_⟩|⟨h1,_⟩|⟨h1,_⟩
 .exact⟨b,d⟩
 all_goals (rw[h1]at h0;exact absurd h0 D_)
def jk.num{A:Bb}{w:Aw}(S:xl A w)(h:jk (ki A) w lo ev a)(h0:a.1≠0):∃T x,ev=.iface T x/\Calls prog 11 #[ev] w λe w'=>e=.returned (Z_ a.1)/\w'=w:=by
 have key:∀(v:Value) (p:Int) (k:Value),zO w lo v p k->∃T x,v=.iface T x:=λv p k ⟨g,_,h,_⟩=>⟨_,_,h⟩;have l:∀(v:Value) (p:Int) (k:Value) (b:Addr) (n:Nat),zO w lo v p k->vF w b n k->vF w b (n+1) v:=λv p k b n ⟨g,_,h,hb⟩ hc=>h▸.fault g p k n hb hc;rcases h with⟨h1,_⟩|⟨h1,d,m⟩|⟨h1,d⟩|⟨h1,d⟩|⟨h1,d⟩|⟨h1,k,d,m⟩
 .exact absurd h1 h0
 .refine⟨_,_,m,?_⟩;rw[h1,m];exact wG S .leaf
 .obtain⟨T,x,hv⟩:=key _ _ _ d;refine⟨T,x,hv,?_⟩;rw[h1];exact kq S (l _ _ _ _ _ d .leaf)
 .obtain⟨T,x,hv⟩:=key _ _ _ d;refine⟨T,x,hv,?_⟩;rw[h1];exact wW S (l _ _ _ _ _ d .leaf)
 .obtain⟨T,x,hv⟩:=key _ _ _ d;refine⟨T,x,hv,?_⟩;rw[h1];exact wj S (l _ _ _ _ _ d .leaf)
 .obtain⟨T,x,hv⟩:=key _ _ _ d;obtain⟨n,hc⟩:=m.chain;refine⟨T,x,hv,?_⟩;rw[h1];exact jf S (l _ _ _ _ _ d hc)
mutual
def cA:∀t:PT,xS t->brT false t
 | .leaf _ _,_=>by unfold brT;trivial
 | .wrap _ _ t,h=>by unfold brT;unfold xS at h;exact cA t h
 | .alts _ l,h=>by unfold brT;unfold xS at h;exact⟨.inr h.1,oA l h.2⟩
def oA:∀l:List PT,(∀t∈l,xS t)->tg false l
 | [],_=>by unfold tg;trivial
 |t::r,h=>by unfold tg;exact⟨cA t (h t (bo_ ..)),oA r (λu hu=>h u (cd_ _ hu))⟩
end
def vZ{s:BA}(hs:s.size<=300){ds:Ar}{t:PT}(h:ze s=.ok (ds,t))(hn:xL ds t=[])(hu:vz ds t=[]):vj ds/\brE false ds/\brT false t/\okT (zx ds) t/\qW (zx ds):=by
 obtain⟨b,d,_,_,_⟩:=jT h;rw[hn]at b;rw[hu]at d;have hw:wrU (zx ds) (jm ds++zZ t) (qy [] ds (-1))<0:=by rw[b];decide
 have hm:mix t (qp ds (-1))<0:=by rw[d];decide
 obtain⟨b,d,_,_⟩:=uo hs h hw hm;have hg:=(mZ hs h hn hu).1;refine⟨hg,λc fs e f hf=>cA _ ((hg c _ e).1.2.2 f hf),cA t (xA hs h).2.1,d,b⟩
def wQ(w:Aw)(ev:Ax)(n:Int):Prop:=∀W,Fr w W N_->Calls prog 11 #[ev] W λe w'=>e=.returned (Z_ n)/\w'=W
def wQ.fr{w:Aw}{n:Int}(h:wQ w ev n)(hf:Fr w W N_):wQ W ev n:=λV b=>h V (hf.trans b u_)
def jk.numIs{A:Bb}{w:Aw}(S:xl A w)(h:jk (ki A) w lo ev a)(h0:a.1≠0):wQ w ev a.1:=λW b=>by
 obtain⟨_,_,_,h⟩:=(h.fr b).num (S.fr b) h0;exact h
def qC.numIs{A:Bb}{w:Aw}(S:xl A w)(h:qC w lo (ki A).nt (ki A).nx ev):wQ w ev 5:=λW b=>by
 obtain⟨n,hc⟩:=(h.fr b u_).chain;exact jf (S.fr b) hc
def gI{A:Bb}{w:Aw}(S:xl A w):wQ w .nilIface 0:=λ_ b=>Yy (S.fr b)
mutual
def jI:∀t:PT,xS t->vq t
 | .leaf _ _,_=>by unfold vq;trivial
 | .wrap _ _ t,h=>by unfold vq;unfold xS at h;exact jI t h
 | .alts _ l,h=>by unfold vq;unfold xS at h;exact⟨h.1,nX l h.2⟩
def nX:∀l:List PT,(∀t∈l,xS t)->fW l
 | [],_=>by unfold fW;trivial
 |t::r,h=>by unfold fW;exact⟨jI t (h t (bo_ ..)),nX r (λu hu=>h u (cd_ _ hu))⟩
end
def cI{ds:Ar}(hg:vj ds):JB (zx ds):=λc _ e=>⟨(hg c _ e).1.1,λg b=>jI _ ((hg c _ e).1.2.2 g b)⟩
def gV(s:BA)(i:Nat):bt s i=(s.data.toList.getD i 0).toNat:=by
 unfold bt;rw[au_];split
 .rename_i h;have b:i<s.data.toList.length:=by rw[Array.length_toList];exact h
  rw[ai_ b];rfl
 .rename_i h;rw[bj_ (by rw[Array.length_toList];exact Nat.le_of_not_lt h)];rfl
def Xx(a b:BA)(k:Nat):bt (a++b) k=if k<a.size then bt a k else bt b (k-a.size):=by
 have e:(a++b).data.toList=a.data.toList++b.data.toList:=x7_
 have hl:a.data.toList.length=a.size:=Array.length_toList;rw[gV,e];split
 .rw[gV,au_,au_,ar_ M_]
 .rw[gV,au_,au_,as_ M_,hl]
def At(s:BA)(i:Nat)(b:BA):Prop:=i+b.size<=s.size/\∀k,k<b.size->bt s (i+k)=bt b k
def At.app{s a b:BA}{i:Nat}:At s i (a++b)↔At s i a/\At s (i+a.size) b:=by
 unfold At;rw[aq_];constructor
 .rintro⟨h1,d⟩;refine⟨⟨M_,λk hk=>?_⟩,M_,λk hk=>?_⟩
  .rw[d k M_,Xx,i_ hk]
  .rw[bl_,d (a.size+k) M_,Xx,n_ M_,cf_]
 .rintro⟨⟨h1,d⟩,e,e⟩;refine⟨M_,λk hk=>?_⟩;rw[Xx];split
  .exact d k zh_
  .rw[<- e (k-a.size) M_]
   congr 1
   omega
def rF{s:BA}{i k:Nat}(h:i+k<j)(b:j<=s.size):bt (s.extract i j) k=bt s (i+k):=by
 have hs:(s.extract i j).size=j-i:=y1_
 rw[gV,gV]
 congr 1
 rw[au_,au_]
 congr 1
 rw[ByteArray.data_extract,Array.toList_extract,List.extract_eq_take_drop,List.getElem?_take_of_lt M_,List.getElem?_drop]
def At.eq{s a b:BA}{i:Nat}(h:At s i a)(c:At s i b)(hs:a.size=b.size):a=b:=by
 apply ByteArray.ext;apply Array.ext
 .exact hs
 .intro k d e;have t:=h.2 k d;rw[c.2 k e,xO b k e,xO a k d]at t;exact (UInt8.toNat_inj.1 t).symm
def At.ext{s:BA}{i:Nat}(h:i<=j)(b:j<=s.size):At s i (s.extract i j):=by
 have hs:(s.extract i j).size=j-i:=y1_
 exact⟨M_,λk hk=>(rF M_ b).symm⟩
def KD:noB.size=0:=rfl
def At.nil{s:BA}{i:Nat}(h:i<=s.size):At s i noB:=⟨h,λk hk=>absurd hk (by rw[KD];omega)⟩
def WO:∀(l:List Nat) (k:Nat),bt (bts l) k=l.getD k 0 % 256:=by
 intro l k;rw[gV];show(((l.map UInt8.ofNat)).getD k 0).toNat=_;rw[au_,au_,av_];cases l[k]?<;>simp
def At.cons{s:BA}{i:Nat}{l:Ao}(hc:c<256):At s i (bts (c::l))↔i<s.size/\bt s i=c/\At s (i+1) (bts l):=by
 have e:bts (c::l)=bts [c]++bts l:=rW [c] l;have h1:(bts [c]).size=1:=yP [c];rw[e,At.app,h1];constructor
 .rintro⟨⟨a,b⟩,d⟩;have:=b 0 M_;rw[WO]at this;refine⟨M_,?_,d⟩;simpa[Nat.mod_eq_of_lt hc] using this
 .rintro⟨a,b,d⟩;refine⟨⟨M_,λk hk=>?_⟩,d⟩;obtain rfl:k=0:=M_;rw[WO];simpa[Nat.mod_eq_of_lt hc] using b
def At.one{s:BA}{i:Nat}(hc:c<256):At s i (bts [c])↔i<s.size/\bt s i=c:=by
 rw[At.cons hc];constructor
 .rintro⟨a,b,_⟩;exact⟨a,b⟩
 .rintro⟨a,b⟩;exact⟨a,b,At.nil a⟩
def cF(x:BA):Prop:=∀k,k<x.size->97<=bt x k/\bt x k<=122
def tW{hi:Nat}{s:BA}:∀(m i:Nat),i+m<=s.size->(∀k,k<m->lo<=bt s (i+k)/\bt s (i+k)<=hi)->zt lo hi s i=zt lo hi s (i+m)
 | 0,i,_,_=>rfl
 |m+1,i,h1,h2=>by
  rw[kX M_ (by simpa using h2 0 M_),tW m (i+1) M_ (λk hk=>by have:=h2 (k+1) M_;rw[show i+1+k=i+(k+1) by omega];exact this)]
  congr 1
  omega
def Yc{s:BA}{i:Nat}(h:At s i x)(hx:cF x):zo s i=zo s (i+x.size):=by
 unfold zo;exact tW x.size i h.1 (λk hk=>by rw[h.2 k hk];exact hx k hk)
def Gc:Option BA->List BA->Prop
 | _,[]=>True
 |last,k::r=>kV last k=true/\cF k/\k.size<=9223372036854775807/\Gc (some k) r
inductive Dat (env:Au):DT->PT->Prop
 |null {p:Nat}:Dat env (.mk 110 0 noB [] []) (.leaf 110 p)
 |bool {p n:Nat} (h:n<=1):Dat env (.mk 116 (n:Int) noB [] []) (.leaf 116 p)
 |num {p:Nat} {n:Int} (h0 : -2147483648<=n) (h1:n<=2147483647):Dat env (.mk 105 n noB [] []) (.leaf 105 p)
 |long {p:Nat} {n:Int} (h0 : -9223372036854775808<=n) (h1:n<=9223372036854775807):Dat env (.mk 108 n noB [] []) (.leaf 108 p)
 |text {p:Nat} {x:BA} (h:cF x) (h1:x.size<=9223372036854775807):Dat env (.mk 115 0 x [] []) (.leaf 115 p)
 |bytes {c p:Nat} {x:BA} (he:env c=some (.bytes x.size)) (hb:zi c=false) (h:cF x):Dat env (.mk 102 0 x [] []) (.leaf c p)
 |sym {c p n:Nat} {l:List (Nat×Nat)} {o:Option (Nat×Nat)} (he:env c=some (.enum l o)) (hb:zi c=false) (hn:n<l.length):Dat env (.mk 101 (n:Int) noB [] []) (.leaf c p)
 |recd {c p:Nat} {fs:List PF} {ds:List DT} (he:env c=some (.recd fs)) (hb:zi c=false) (hl:ds.length=fs.length) (h:∀(i:Nat) (d:DT) (t:PT),ds[i]?=some d->(fs.map PF.ty)[i]?=some t->Dat env d t):Dat env (.mk 114 0 noB [] ds) (.leaf c p)
 |list {p:Nat} {u:PT} {ds:List DT} (hl:ds.length<=9223372036854775807) (h:∀d∈ds,Dat env d u):Dat env (.mk 91 0 noB [] ds) (.wrap 91 p u)
 |map {p:Nat} {u:PT} {ks:List BA} {ds:List DT} (hl:ds.length<=9223372036854775807) (hk:ks.length=ds.length) (hr:Gc none ks) (h:∀d∈ds,Dat env d u):Dat env (.mk 123 0 noB ks ds) (.wrap 123 p u)
 |alts {n p:Nat} {l:List PT} {u:PT} {d:DT} (hn:n<=9223372036854775807) (hl:l[n]?=some u) (h:Dat env d u):Dat env (.mk 40 (n:Int) noB [] [d]) (.alts p l)
def XH{s:BA}:∀(f i z g:Nat),z<128 ^ (f+1)->f<=g->At s i (bts (wF g z))->gn s (f+1) i=some (z,i+(bts (wF g z)).size)
 |f,i,z,g,hz,hg,h=>by
  by_cases hb:z<128
  .have e:wF g z=[z]:=by cases g<;>simp[wF,hb]
   rw[e]at h⊢;obtain⟨h1,b⟩:=(At.one M_).1 h;unfold gn;rw[i_ h1,b,i_ hb,yP];rfl
  .cases f with
   |zero=>simp at hz;omega
   |succ f=>
    obtain⟨g',rfl⟩:∃g',g=g'+1:=⟨g-1,M_⟩;have e:wF (g'+1) z=(z % 128+128)::wF g' (z / 128):=by rw[wF,n_ hb]
    rw[e]at h⊢;obtain⟨h1,b,d⟩:=(At.cons M_).1 h;have:=XH f (i+1) (z / 128) g' (by rw[Nat.pow_succ]at hz;exact Nat.div_lt_of_lt_mul (by rw[bg_];exact hz)) M_ d;unfold gn;rw[i_ h1,b,n_ M_,this];simp only;rw[n_ M_];simp only[af_,ad_];rw[yP,yP,a3_];omega
def QU(n:Int):pL (kB n)=n:=by
 unfold kB pL;split<;>split<;>omega
def Bk{s:BA}{i:Nat}{n:Int}(h0 : -9223372036854775808<=n)(h1:n<=9223372036854775807)(h:At s i (zH n)):bL s i=some (n,i+(zH n).size):=by
 have hz:kB n<18446744073709551616:=by unfold kB;split<;>omega
 unfold bL;rw[XH 9 i (kB n) 10 M_ M_ h];simp only;rw[i_ hz,QU];rfl
def fo{s:BA}{lo hi:Int}{i:Nat}{n:Int}(h0 : -9223372036854775808<=n)(h1:n<=9223372036854775807)(hl:lo<=n)(b:n<=hi)(h:At s i (zH n)):wt s lo hi i=some (n,i+(zH n).size):=by
 unfold wt;rw[Bk h0 h1 h];simp only;rw[i_ ⟨hl,b⟩]
def Zz{s:BA}{i:Nat}(hx:cF x)(h:At s i x):gJ s i x.size=some (x,i+x.size):=by
 have h1:=Yc h hx;have b:=(yh 97 122 s _ (i+x.size) l_).1;unfold gJ;rw[i_ (by rw[h1];exact b)];have hs:=h.1;have e:s.extract i (i+x.size)=x:=(At.ext M_ hs).eq h y1_;rw[e]
def nL{s:BA}{i:Nat}(hx:cF x)(h1:x.size<=9223372036854775807)(h:At s i (zH x.size++x)):qU s i=some (x,i+(zH x.size++x).size):=by
 obtain⟨a,b⟩:=At.app.1 h;unfold qU gQ;rw[fo M_ M_ M_ M_ a];simp only[bx_];rw[Zz hx b,aq_,bl_]
def rK:∀(ds:List DT) (ks b:List BA),yS false ks ds=yS false b ds
 | [],_,_=>by simp[yS]
 |d::r,ks,b=>by
  simp only[yS];rw[rK r ks.tail b.tail];simp
def Wl(keyed:Aq)(k:BA):BA:=if keyed=true then zH k.size++k else noB
def Qj(keyed:Aq)(k:BA)(ks:Dq)(d:DT)(ds:Ae):yS keyed (k::ks) (d::ds)=(Wl keyed k++byT d)++yS keyed ks ds:=by
 rw[yS];rfl
def Ps{s:BA}{keyed:Aq}{last:Ew}{i:Nat}{k:BA}(h:At s i (Wl keyed k))(hk:keyed=true->kV last k=true/\cF k/\k.size<=9223372036854775807):pe s keyed last i=some (if keyed=true then k else noB,i+(Wl keyed k).size):=by
 unfold pe;unfold Wl at h⊢;cases keyed with
 |false=>simp only[bh_,if_false];rfl
 |true=>
  simp only[if_true]at h⊢;obtain⟨a,b,c⟩:=hk rfl;rw[nL b c h];simp only;rw[i_ a]
def mz{s:BA}{R:Nat->Nat->Except Nat (DT×Nat×Nat)}{keyed:Aq}{N n0:Nat}:∀(ks:List BA) (ds:List DT) (last:Option BA) (i n:Nat),ks.length=ds.length->(keyed=true->Gc last ks)->
 (∀d∈ds,∀i n,n0<=n->At s i (byT d)->n+ndT d<=N->R i n=.ok (d,i+(byT d).size,n+ndT d))->n0<=n->At s i (yS keyed ks ds)->n+za ds<=N->
 ∃l,xP R s keyed ds.length last i n=.ok (l,i+(yS keyed ks ds).size,n+za ds)/\l.map Prod.snd=ds/\(keyed=true->l.map Prod.fst=ks)
 | [],[],last,i,n,_,_,_,_,h,_=>by
  refine⟨[],?_,rfl,λ_=>rfl⟩;simp only[a4_,xP,yS,za];rfl
 |k::ks,d::ds,last,i,n,hl,hr,hR,hn,h,hN=>by
  rw[Qj]at h⊢;obtain⟨e,b⟩:=At.app.1 h;obtain⟨h1,q⟩:=At.app.1 e;rw[za]at hN;have hd:=hR d (bo_ ..) (i+(Wl keyed k).size) n hn q M_;rw[aq_,<- bl_]at b;obtain⟨l,g,m,o⟩:=mz ks ds (some (if keyed=true then k else noB)) _ (n+ndT d) z8_ (λhk=>by subst hk;exact(hr rfl).2.2.2) (λe q=>hR e (cd_ _ q)) M_ b M_;refine⟨(if keyed=true then k else noB,d)::l,?_,by simp[m],λhk=>by subst hk;simp[o]⟩;rw[a3_];unfold xP;rw[Ps h1 (λhk=>⟨(hr hk).1,(hr hk).2.1,(hr hk).2.2.1⟩)];simp only;rw[hd];simp only;rw[g];simp only[ae_,ad_,true_and,za,aq_];omega
 | [],_::_,_,_,_,hl,_,_,_,_,_=>by simp at hl
 | _::_,[],_,_,_,hl,_,_,_,_,_=>by simp at hl
def rL{s:BA}{R:PT->Nat->Nat->Except Nat (DT×Nat×Nat)}{N n0:Nat}:∀(ts:List PT) (ds:List DT) (i n:Nat),ds.length=ts.length->
 (∀(q:Nat) (d:DT) (t:PT),ds[q]?=some d->ts[q]?=some t->∀i n,n0<=n->At s i (byT d)->n+ndT d<=N->R t i n=.ok (d,i+(byT d).size,n+ndT d))->n0<=n->At s i (yS false [] ds)->n+za ds<=N->
 xU R ts i n=.ok (ds,i+(yS false [] ds).size,n+za ds)
 | [],[],i,n,_,_,_,h,_=>by
  simp only[xU,yS,za];rfl
 |t::ts,d::ds,i,n,hl,hR,hn,h,hN=>by
  have e:yS false [] (d::ds)=byT d++yS false [] ds:=by simp only[yS,List.tail_nil];simp[jH]
  rw[e]at h⊢;obtain⟨b,k⟩:=At.app.1 h;rw[za]at hN;have hd:=hR 0 d t rfl rfl i n hn b M_;have g:=rL ts ds _ (n+ndT d) z8_ (λq b t' l m=>hR (q+1) b t' (by simpa using l) (by simpa using m)) M_ k M_;unfold xU;rw[hd];simp only;rw[g];simp only[ae_,ad_,true_and,za,aq_];omega
 | [],_::_,_,_,hl,_,_,_,_=>by simp at hl
 | _::_,[],_,_,hl,_,_,_,_=>by simp at hl
def yN(k:Nat)(n:Int)(x:BA)(ks:Dq)(ds:Ae):ndT (.mk k n x ks ds)=1+za ds:=by rw[ndT]
def xg(h:zi c=false):c≠110/\c≠116/\c≠105/\c≠108/\c≠115:=by
 simp[zi]at h;omega
def BI{env:Au}(J:qW env)(s:BA):∀(f:Nat) (d:DT) (t:PT) (i n:Nat),Dat env d t->At s i (byT d)->n+ndT d<=300->301<=f+n->rdB s env f t i n=.ok (d,i+(byT d).size,n+ndT d):=by
 intro f;induction f with
 |zero=>intro d t i n _ _ h1 I;cases d;rw[ndT]at h1;omega
 |succ f ih=>
  intro d t i n hd b h1 I;have hn:¬300<=n:=by cases d;rw[ndT]at h1;omega
  unfold rdB;rw[n_ hn];cases hd with
  |null=>
   have e:byT (.mk 110 0 noB [] [])=noB:=by simp[byT,yS,jH]
   simp only[jO,if_true,e,yN,za];rfl
  |bool hb=>
   rename_i p q;have e:byT (.mk 116 (q:Int) noB [] [])=bts [q]:=zg_
   rw[e]at b⊢;obtain⟨g,k⟩:=(At.one M_).1 b;simp only[jO];rw[n_ D_,i_ trivial,i_ ⟨g,M_⟩,k];simp only[yP,yN,za];rfl
  |num h0 h1'=>
   rename_i p q;have e:byT (.mk 105 q noB [] [])=zH q:=zg_
   rw[e]at b⊢;simp only[jO];rw[n_ D_,n_ D_,i_ trivial,fo M_ M_ h0 h1' b];simp only[yN,za]
  |long h0 h1'=>
   rename_i p q;have e:byT (.mk 108 q noB [] [])=zH q:=zg_
   rw[e]at b⊢;simp only[jO];rw[n_ D_,n_ D_,n_ D_,i_ trivial,Bk h0 h1' b];simp only[yN,za]
  |text hx h1'=>
   rename_i p x;have e:byT (.mk 115 0 x [] [])=zH x.size++x:=zg_
   rw[e]at b⊢;simp only[jO];rw[n_ D_,n_ D_,n_ D_,n_ D_,i_ trivial,nL hx h1' b];simp only[yN,za]
  |bytes he hb hx=>
   rename_i c p x;obtain⟨b1,b2,b3,m,r⟩:=xg hb;have e:byT (.mk 102 0 x [] [])=x:=zg_
   rw[e]at b⊢;simp only[jO];rw[n_ b1,n_ b2,n_ b3,n_ m,n_ r,he];simp only[kZ];rw[Zz hx b];simp only[yN,za]
  |sym he hb D=>
   rename_i c p q l o;obtain⟨b1,b2,b3,m,r⟩:=xg hb;have L:=(J c _ he).2;have e:byT (.mk 101 (q:Int) noB [] [])=zH q:=zg_
   rw[e]at b⊢;simp only[jO];rw[n_ b1,n_ b2,n_ b3,n_ m,n_ r,he];simp only[kZ];rw[fo M_ M_ M_ M_ b];simp only[yN,za]
  |recd he hb hl h=>
   rename_i c p fs ds;obtain⟨b1,b2,b3,m,r⟩:=xg hb;have e:byT (.mk 114 0 noB [] ds)=yS false [] ds:=by simp[byT,jH]
   rw[e]at b⊢;rw[yN]at h1⊢;simp only[jO];rw[n_ b1,n_ b2,n_ b3,n_ m,n_ r,he];simp only[kZ];rw[rL (N:=300) (n0:=n+1) (fs.map PF.ty) ds i (n+1) z8_ (λq d t hd K B C D y z=>ih d t B C (h q d t hd K) y z M_) l_ b M_];simp only[bl_]
  |list hl h=>
   rename_i p u ds;have e:byT (.mk 91 0 noB [] ds)=zH ds.length++yS false (ds.map λ_=>noB) ds:=by
    rw[rK ds _ []];simp[byT]
   rw[e]at b⊢;obtain⟨g,k⟩:=At.app.1 b;rw[yN]at h1⊢;simp only[uz,gQ];rw[fo M_ M_ M_ M_ g];simp only[bx_,show((91:Nat)==123)=false from rfl];obtain⟨l,F,G,H⟩:=mz (R:=rdB s env f u) (s:=s) (keyed:=false) (N:=300) (n0:=n+1) (ds.map λ_=>noB) ds none _ (n+1) x7_ (λhk=>by cases hk) (λd hd B C D y z=>ih d u B C (h d hd) y z M_) l_ k M_;rw[F];simp only[bh_,if_false,G,aq_,bl_]
  |map hl hk hr h=>
   rename_i p u ks ds;have e:byT (.mk 123 0 noB ks ds)=zH ds.length++yS true ks ds:=zg_
   rw[e]at b⊢;obtain⟨g,k⟩:=At.app.1 b;rw[yN]at h1⊢;simp only[uz,gQ];rw[fo M_ M_ M_ M_ g];simp only[bx_,show((123:Nat)==123)=true from rfl];obtain⟨l,F,G,H⟩:=mz (R:=rdB s env f u) (s:=s) (keyed:=true) (N:=300) (n0:=n+1) ks ds none _ (n+1) hk (λ_=>hr) (λd hd B C D y z=>ih d u B C (h d hd) y z M_) l_ k M_;rw[F];simp only[if_true,G,H,aq_,bl_]
  |alts D hl h=>
   rename_i q p l u d;have M:q<l.length:=(aj_.1 hl).1;have e:byT (.mk 40 (q:Int) noB [] [d])=zH q++byT d:=by simp[byT,yS,jH,wn]
   rw[e]at b⊢;obtain⟨g,k⟩:=At.app.1 b;rw[yN]at h1⊢;simp only[za,bz_]at h1⊢;simp only[fZ];rw[fo M_ M_ M_ M_ g];simp only[bx_,hl];rw[ih d u _ (n+1) h k M_ M_];simp only[aq_,bl_]
def iC{s:BA}{ds:Ar}{t:PT}(h0:(zu s).1=0)(hp:ze s=.ok (ds,t)):s.size<=300/\xL ds t=[]/\vz ds t=[]:=by
 have hs:s.size<=300:=by
  by_cases h:300<s.size
  .unfold zu at h0;rw[i_ h]at h0;exact absurd h0 D_
  .omega
 rw[qK hs hp]at h0;refine⟨hs,?_⟩;split at h0
 .simp at h0
 .simp at h0
 .simp at h0
 .rename_i h1 b _;exact⟨h1,b⟩
end Go.Proofs.YtlmebjdmdogmfaaGreatDoor
