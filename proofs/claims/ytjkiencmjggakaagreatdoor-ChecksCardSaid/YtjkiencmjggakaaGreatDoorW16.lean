import Derived.Test.YtjkiencmjggakaaGreatDoorW15
set_option maxHeartbeats 16000000
set_option maxRecDepth 100000
set_option linter.defProp false
set_option linter.unusedSimpArgs false
open Go.Proofs.Tryz
namespace Go.Proofs.YtjkiencmjggakaaGreatDoor
open Go.RowKit
variable {v rx:Value}{fs:List PF}{o:Option (Nat×Nat)}{b:PB}{rT:TypeId}
def WR(tt:PT)(w0:World)(P:Nat->Prop)(ss:BA)(ds:List PD)(sv rv:Value)(xs:List Value)(s:BA)(nt:TypeId)(nx:Value)(pl:Bool)(br f:Nat)(b:PB)(i:Nat):Prop:=
 ∀(w:World) (v:Value),NC w0 P ss ds sv rv xs s nt nx pl br i w->ye w P ss b v->
  Calls prog 135 #[P_ br,v] w (zO (zx ds) tt w sv rv s nt nx pl br (yf (rdT s (zx ds) pl f) s b i))
section
variable {tt:PT} {w0:World} {P:Nat->Prop} {ss:BA} {ds:List PD} {sv rv:Value} {xs:List Value} {s:BA} {nt:TypeId} {nx:Value} {pl:Bool} {br i:Nat} {f p:Nat}
def XI(x:∀k g,fs[k]?=some g->xQ (zx ds) tt 0 k=g.ty)(m:∀g∈fs,zh g.letter=true)(r:fs.length<=300)(u:sp (zx ds))(l:∀g∈fs,okT (zx ds) g.ty)(c:∀g∈fs,∀j,i<j->j<=s.size->jW w0 P ss ds sv rv xs s nt nx pl br f g.ty j):WR tt w0 P ss ds sv rv xs s nt nx pl br f (.recd fs) i:=by
 intro w v M d;obtain⟨p,a,zs,ho,hP,h,rfl⟩:∃(p:Nat) (a:Value) (zs:List Value),w.ownsRow 0 189 4 a fs.length zs/\(∀g,a.ownBlock=some g->P g)/\xo w P ss fs zs/\v=.iface 215 (.agg #[I_ p,a]):=by
  cases d with
  |recd p ho hP h=>exact⟨p,_,_,ho,hP,h,rfl⟩
 obtain⟨fa,fc,rfl⟩:=zl ho;refine hq_ λa n=>?_;have A:Fr w (w.alloc (.cells #[I_ p,.slice fa fs.length fc] 215)) N_:=(A_ w _).alloc _;have a:=M.new A;have d:=zy (ic (p:=(p:Int)) x a ((⟨ho,hP,h⟩:xB w P ss fs _ _).fr A u_) m r u l c);replace A:=zy A;go_in;go_wp2_with (go_at_call 171;apply d.o.mono;intro e a d;obtain⟨l,c,rfl,a⟩:=d;replace a:=zy a);try go_ret
 rw[n.o];exact zO.pre A ⟨l,c,rfl,a⟩
def XE{l:List (Nat×Nat)}(y:∀n,sk (zx ds) tt n=(l.map Prod.fst).getD n 0)(j:∀q∈l,zh q.1=true)(x:l.length<=300):WR tt w0 P ss ds sv rv xs s nt nx pl br f (.enum l o) i:=by
 intro w v M m;obtain⟨p,a,u,ho,hP,hu,rfl⟩:∃(p:Nat) (a u:Value),w.ownsRow 0 186 2 a l.length (zE l)/\(∀g,a.ownBlock=some g->P g)/\qh w P o u/\v=.iface 220 (.agg #[I_ p,a,u]):=by
  cases m with
  |enum p ho hP h=>exact⟨p,_,_,ho,hP,h,rfl⟩
 obtain⟨fa,fc,rfl⟩:=zl ho;obtain⟨dd,rfl⟩:∃d,u=.pointer d:=by
  unfold qh at hu;split at hu
  .exact⟨_,hu⟩
  .obtain⟨g',_,e,_⟩:=hu;exact⟨_,e⟩
 have hr:yf (rdT s (zx ds) pl f) s (.enum l o) i=nj s l i:=by
  unfold yf nj;simp only;by_cases a:i<s.size
  .rw[i_ a];cases (l.map Prod.fst).findIdx? (λc=>c==bt s i)<;>rfl
  .rw[n_ a,kK M_,wD (λh=>by
    obtain⟨q,a,e⟩:=ay_.1 h
    obtain⟨k,hk,_⟩:=wF (j q a)
    omega)]
 rw[hr];refine hq_ λa r=>?_;have A:Fr w (w.alloc (.cells #[I_ p,.slice fa l.length fc,.pointer dd] 220)) N_:=(A_ w _).alloc _;have a:=M.new A;have m:=zy (iu (t:=tt) (p:=(p:Int)) (u:=.pointer dd) a y (zj ho A u_) hP x j);replace A:=zy A;go_in;go_wp2_with (go_at_call 172;apply m.o.mono;intro e a m;obtain⟨x,j,rfl,a⟩:=m;replace a:=zy a);try go_ret
 rw[r.o];exact zO.pre A ⟨x,j,rfl,a⟩
def oA{n:Nat}:WR tt w0 P ss ds sv rv xs s nt nx pl br f (.bytes n) i:=by
 intro w v M a;obtain⟨p,rfl⟩:∃p:Nat,v=.iface 222 (.agg #[I_ p,I_ n]):=by
  cases a with
  |bytes p n=>exact⟨p,rfl⟩
 have hr:yf (rdT s (zx ds) pl f) s (.bytes n) i=mA s n i:=by
  unfold yf mA;rfl
 rw[hr];refine hq_ λc c=>?_;have A:Fr w (w.alloc (.cells #[I_ p,I_ n] 222)) N_:=(A_ w _).alloc _;have a:=M.new A;have d:=zy (aR (t:=tt) (p:=(p:Int)) (n:=n) a);replace A:=zy A;go_in;go_wp2_with (go_at_call 173;apply d.o.mono;intro e a h;obtain⟨j,d,rfl,a⟩:=h;replace a:=zy a);try go_ret
 rw[c.o];exact zO.pre A ⟨j,d,rfl,a⟩
def XN{c:Nat}(hc:zp c=true)(hb:zx ds c=some b)(u:WR (.leaf c p) w0 P ss ds sv rv xs s nt nx pl br f b i):jW w0 P ss ds sv rv xs s nt nx pl br (f+1) (.leaf c p) i:=by
 intro w v M k;have a:65<=c/\c<=70:=by simpa[zp] using hc
 obtain rfl:v=.iface 213 (.agg #[I_ p,U_ c]):=by
  cases k with
  |base _ _ h=>
   simp only[zu,au_,beq_iff_eq]at h;omega
  |name _ _ h=>rfl
 have hr:rdT s (zx ds) pl (f+1) (.leaf c p) i=yf (rdT s (zx ds) pl f) s b i:=by
  rw[rdT];unfold xj;rw[n_ M_,n_ M_,n_ M_,n_ M_,hb]
 rw[hr];obtain⟨O,m⟩:=e_ (yf (rdT s (zx ds) pl f) s b i);rw[<- m];refine hq_ λa N=>?_;have A:Fr w (w.alloc (.cells #[I_ p,U_ c] 213)) N_:=(A_ w _).alloc _;have a:=M.new A;have d:=B_ w #[I_ p,U_ c] 213;have l:=M.lt;have F:=zy (And.intro a (And.intro d A));clear hr k M a d A;go_in;go_wp2;obtain⟨a,d,A⟩:=F.o;have x:=a.si (zq.drew _);have u0:=a.R.c0;have G:=a.R.c1;have u2:=d.c1;have E:=jV (rv:=rv) c x.D;refine tR_ (λW=>f_ W br 0 sv/\f_ W br 1 rv/\f_ W w.heap.size 1 (U_ c)) ?_;refine tY_ 0 ?_;refine tY_ 1 ?_;refine tY_ 2 ?_;refine tY_ 3 ?_;refine tY_ 4 ?_;refine tY_ 5 ?_;refine tY_ 6 ?_;refine zL 7 rfl K_ ⟨u0,G,u2⟩ (λK k=>?_);go_simp;apply E.mono;rintro e C ⟨z,rfl,l,B⟩;refine k _ _ ?_;clear k K;rw[hb]at B;have n:=x.new l;have y:=u C z n B;have z:=l.bl (((A_ _ N_).si (zq.drew (w.alloc (.cells #[I_ p,U_ c] 213)))).bl d id) id;have I:=n.R.c0;have J:=n.R.c1;have L:=z.c1;rw[<- m]at y;refine zL 8 rfl K_ ⟨I,J,L⟩ (λK k=>?_);go_simp;apply y.mono;rintro e Q ⟨H,C,rfl,u,m⟩;refine k _ _ ?_;clear k K;obtain⟨k,k⟩:∃j,zA Q br sv rv s j (!pl):=by
  cases O with
  |none=>exact⟨_,m.2.2.choose_spec.1⟩
  |some q=>exact⟨_,m.2.2.1⟩
 have O:=k.c0;have Q:=k.c1;have S:=(u.bl z M_).c1;replace m:=zy m;replace u:=zy u;replace l:=zy l;replace A:=zy A;clear E y a x n d z B F u0 G u2 I J L k;refine tY_ 9 ?_;refine tY_ 10 ?_;refine tY_ 11 ?_;refine tY_ 12 ?_;refine yh K_ ⟨O,Q,S⟩ ?_ _;go_wp2;refine bodyPost_ret (v:=.tuple #[H,C]) (by simp[results,results135,go_sem]) rfl ?_;rw[N.o];exact zO.pre (A.o.trans (((A_ _ N_).si (zq.drew _)).trans l u_) u_) ⟨H,C,rfl,u,m⟩
end
def jy(ds:List PD):Prop:=∀c b,zx ds c=some b->plB b/\okB (zx ds) b
def jy.sm{ds:List PD}(h:jy ds):sp (zx ds):=λc _ _ e=>(h c _ e).1.2.1
def brL(pl:Bool)(l:List PT):Prop:=pl=true\/l.length<=300
mutual
def brT(pl:Bool):PT->Prop
 | .leaf _ _=>True
 | .wrap _ _ t=>brT pl t
 | .alts _ l=>brL pl l/\lJ pl l
def lJ(pl:Bool):List PT->Prop
 | []=>True
 |t::r=>brT pl t/\lJ pl r
end
def brE(pl:Bool)(ds:List PD):Prop:=∀c fs,zx ds c=some (.recd fs)->∀g∈fs,brT pl g.ty
mutual
def fA:∀t:PT,brT true t
 | .leaf _ _=>by unfold brT;trivial
 | .wrap _ _ t=>by unfold brT;exact fA t
 | .alts _ l=>by unfold brT;exact⟨.inl rfl,rP l⟩
def rP:∀l:List PT,lJ true l
 | []=>by unfold lJ;trivial
 |t::r=>by unfold lJ;exact⟨fA t,rP r⟩
end
def Yq{pl:Bool}:∀{l:List PT},lJ pl l->∀t∈l,brT pl t
 | [],_,t,h=>by cases h
 |a::r,h,t,c=>by
  unfold lJ at h;rcases ao_.1 c with rfl|c
  .exact h.1
  .exact Yq h.2 t c
def Bz(w0:World)(P:Nat->Prop)(ss:BA)(ds:List PD)(sv rv:Value)(xs:List Value)(s:BA)(nt:TypeId)(nx:Value)(pl:Bool)(br:Nat):Prop:=
 ∀(f p:Nat) (l:List PT) (i:Nat),l≠[]->brL pl l->i<=s.size->(∀t∈l,∀j,(pl=true->j=i)->(pl=false->i<j)->j<=s.size->jW w0 P ss ds sv rv xs s nt nx pl br f t j)->jW w0 P ss ds sv rv xs s nt nx pl br (f+1) (.alts p l) i
def Yr{w0:World}{P:Nat->Prop}{ss:BA}{ds:List PD}{sv rv:Value}{xs:List Value}{s:BA}{nt:TypeId}{nx:Value}{br:Nat}(a:yO w0):Bz w0 P ss ds sv rv xs s nt nx true br:=
 λ_ _ _ i d _ hi c=>Fa d a (λt a=>c t a i (λ_=>rfl) (λh=>by cases h) hi)
def We{w0:World}{P:Nat->Prop}{ss:BA}{ds:List PD}{sv rv:Value}{xs:List Value}{s:BA}{nt:TypeId}{nx:Value}{pl:Bool}{br:Nat}(z:jy ds)(hB:brE pl ds)(A:yO w0)(hQ:yA w0)(e:WC w0 P ss ds sv rv xs s nt nx pl br)(B:Bz w0 P ss ds sv rv xs s nt nx pl br):∀(f:Nat) (t:PT) (i:Nat),okT (zx ds) t->brT pl t->i<=s.size->2*(s.size-i)+(if t.isAlts=true then 1 else 0)<f->jW w0 P ss ds sv rv xs s nt nx pl br f t i:=by
 intro f;induction f with
 |zero=>intro t i _ _ _ h;omega
 |succ f ih=>
  intro t i a d hi hm;have next:∀u,okT (zx ds) u->brT pl u->∀j,i<j->j<=s.size->jW w0 P ss ds sv rv xs s nt nx pl br f u j:=λu hu hb j h1 m=>ih u j hu hb m (by split<;>omega);cases t with
  |leaf c p=>
   unfold okT at a;rcases a with hb|⟨hn,pb,he⟩
   .simp only[zu,au_,beq_iff_eq]at hb;rcases hb with(((rfl|rfl)|rfl)|rfl)|rfl
    .exact WY
    .exact Wo
    .exact WV e
    .exact WX e
    .exact WZ
   .obtain⟨e,y⟩:=z c pb he;refine XN hn he ?_;cases pb with
    |recd fs=>exact XI (λk g hg=>by simp only[xQ,he,ap_,aq_,hg];rfl) e.2.1 e.1 z.sm y (λg hg=>next g.ty (y g hg) (hB c fs he g hg))
    |enum l o=>exact XE (λn=>by simp only[sk,he]) e.2.1 e.1
    |bytes n=>exact oA
  |wrap c p t=>
   unfold okT at a;unfold brT at d;rcases a.1 with rfl|rfl
   .exact Fe A (next t a.2 d)
   .exact Wa hQ (next t a.2 d)
  |alts p l=>
   unfold okT at a;unfold brT at d;have e:∀u∈l,okT (zx ds) u/\u.isAlts=false:=by
    have:=a.2;clear a hm d;induction l with
    |nil=>intro u hu;simp at hu
    |cons x r ihr=>
     unfold tm at this;intro u hu;rcases ao_.1 hu with rfl|hu
     .exact⟨this.2.1,this.1⟩
     .exact ihr this.2.2 u hu
   refine B f p l i a.1 d.1 hi (λu hu j h1 m a=>?_);refine ih u j (e u hu).1 (Yq d.2 u hu) a ?_;have a:i<=j:=by
    cases pl with
    |true=>have:=h1 rfl;omega
    |false=>have:=m rfl;omega
   rw[(e u hu).2];simp only[PT.isAlts,if_true]at hm;simp only[bs_,if_false];omega
def FN(w:World)(S:Nat->Prop)(nt:TypeId)(nx:Value)(ok:Bool)(e:Ending)(w':World):Prop:=
 ∃v ev,e=.returned (.tuple #[v,ev])/\Fr w w' S/\if ok=true then ev=.nilIface/\(∃T x,v=.iface T x) else v=.nilIface/\jN w' w.heap.size nt nx ev
def nV(env:Nat->Option PB)(t:PT)(w:World)(S:Nat->Prop)(nt:TypeId)(nx:Value)(r:Option DT)(e:Ending)(w':World):Prop:=
 ∃v ev,e=.returned (.tuple #[v,ev])/\Fr w w' S/\match r with|some d=>ev=.nilIface/\DaV env w' (λg=>w.heap.size<=g) d t v|none=>v=.nilIface/\jN w' w.heap.size nt nx ev
def aP{w0 w:World}{P:Nat->Prop}{ss:BA}{ds:List PD}{sv rv:Value}{xs:List Value}{s:BA}{nt:TypeId}{nx:Value}{pl:Bool}{br:Nat}{t:PT}(M:NC w0 P ss ds sv rv xs s nt nx pl br 0 w)(c:TyV w P t v)(a:jW w0 P ss ds sv rv xs s nt nx pl br (2*s.size+2) t 0):Calls prog 108 #[P_ br,v] w (nV (zx ds) t w (· = br) nt nx (xu (zx ds) pl t s)):=by
 refine hq_ λh k=>?_;have l:=zy (a w v M c);replace M:=zy M;cases hp:rdT s (zx ds) pl (2*s.size+2) t 0 with
 |none=>
  have hr:=zy (show xu (zx ds) pl t s=none by unfold xu;rw[hp]);replace hp:=zy hp;go_in;go_wp2_with (go_at_call 135;apply l.o.mono;rintro e w1 ⟨n,m,rfl,a,hm⟩;rw[hp.o]at hm;obtain⟨rfl,c,_⟩:=hm;obtain⟨eT,h,rfl⟩:=c.iface;replace a:=zy a;replace c:=zy c);try go_ret
  rw[k.o,hr.o];exact⟨_,_,rfl,a,rfl,c⟩
 |some q=>
  obtain⟨d,j⟩:=q;have c:=(qx s (zx ds) pl _ t 0 d j hp).2;by_cases h:j=s.size
  .have hr:=zy (show xu (zx ds) pl t s=some d by unfold xu;rw[hp];simp only;rw[i_ h]);have r:¬((j:Int)<(s.size:Int)):=M_;replace hp:=zy hp;go_in;go_wp2_with (go_at_call 135;apply l.o.mono;rintro e w1 ⟨n,m,rfl,a,hm⟩;rw[hp.o]at hm;obtain⟨rfl,c,h1,_⟩:=hm;obtain⟨dT,dx,rfl⟩:=c.iface;replace c:=zy c;have c2:=h1.c2;have c3:=h1.c3;replace a:=zy a);go_quiet (fail);go_wp2;try go_ret
   rw[k.o,hr.o];exact⟨_,_,rfl,a.o.si (zq.drewN _ _),rfl,c.o.fr ((A_ w1 N_).si (zq.drewN _ _)) u_⟩
  .have hr:=zy (show xu (zx ds) pl t s=none by unfold xu;rw[hp];simp only;rw[n_ h]);have r:(j:Int)<(s.size:Int):=M_;replace hp:=zy hp;go_in;go_wp2_with (go_at_call 135;apply l.o.mono;rintro e w1 ⟨n,m,rfl,a,hm⟩;rw[hp.o]at hm;obtain⟨rfl,c,h1,h⟩:=hm;obtain⟨dT,dx,rfl⟩:=c.iface;have c2:=h1.c2;have c3:=h1.c3;have c:=(M.o.call h1 a h).e;replace a:=zy a);go_quiet (fail);go_wp2;go_quiet (fail);go_wp2;try go_ret
   rw[k.o,hr.o];exact⟨_,_,rfl,a.o.si ((zq.drewN _ _).trans (zq.drewN _ _)),rfl,.base⟩
def cJ(w0:World):Prop:=∀P ss ds sv rv xs s nt nx pl br,WC w0 P ss ds sv rv xs s nt nx pl br
def ia{w0 w:World}{P:Nat->Prop}{ss:BA}{ds:List PD}{sv:Value}{xs:List Value}{s:BA}{nt:TypeId}{nx:Value}{t:PT}(D:xf w P ss ds sv xs)(m:TyV w P t v)(k:yg w0 w)(hk:w0.heap.size<=w.heap.size)(y:∀g,P g->g<w.heap.size)(u:ji 3 w0 nt nx)(hs:s.size<=300)(B:okT (zx ds) t)(z:jy ds)(l:yO w0)(hQ:yA w0)(x:cJ w0):Calls prog 75 #[.agg #[sv,.iface rT rx],v,.string s] w (nV (zx ds) t w N_ nt nx (xu (zx ds) true t s)):=by
 refine hq_ λa r=>?_;obtain⟨a,c,rfl⟩:=zl D.row;have A:Fr w ((w.alloc (.cells #[.slice a ds.length c,.iface rT rx] 55)).alloc (.cells #[.slice a ds.length c,.iface rT rx,.string s,O_,.bool false] 253)) N_:=((A_ w _).alloc _).alloc _;have n:(w.alloc (.cells #[.slice a ds.length c,.iface rT rx] 55)).heap.size=w.heap.size+1:=by simp
 have h:=B_ (w.alloc (.cells #[.slice a ds.length c,.iface rT rx] 55)) #[.slice a ds.length c,.iface rT rx,.string s,O_,.bool false] 253;rw[n]at h;have j:NC w0 P ss ds (.slice a ds.length c) (.iface rT rx) xs s nt nx true (w.heap.size+1) 0 ((w.alloc (.cells #[.slice a ds.length c,.iface rT rx] 55)).alloc (.cells #[.slice a ds.length c,.iface rT rx,.string s,O_,.bool false] 253)):=
  ⟨h,D.fr A u_,k.fr A hk (λg f=>f.elim),u,λg hg=>by have:=y g hg;omega,M_,M_,al_ _⟩
 have a:=zy (aP j (m.fr A u_) (We z (λ_ _ _ g _=>fA g.ty) l hQ (x _ _ _ _ _ _ _ _ _ _ _) (Yr l) _ t 0 B (fA t) o_ (by split<;>omega)));replace A:=zy A;go_in;go_wp2_with (go_at_call 108;apply a.o.mono;rintro e w1 ⟨j,c,rfl,a,hm⟩;replace a:=zy a;replace hm:=zy hm);try go_ret
 rw[r.o];have h:=A.o.size;refine⟨j,c,rfl,A.o.trans a (λg hg e=>M_),?_⟩;have a:=hm.o;cases c:xu (zx ds) true t s with
 |none=>rw[c]at a;exact⟨a.1,a.2.ls h⟩
 |some d=>rw[c]at a;exact⟨a.1,a.2.mono (λg _ hg=>M_)⟩
def tX{w0 w:World}{P:Nat->Prop}{ss:BA}{ds:List PD}{sv:Value}{xs:List Value}{s:BA}{nt:TypeId}{nx:Value}{t:PT}(D:xf w P ss ds sv xs)(l:TyV w P t v)(c:yg w0 w)(hk:w0.heap.size<=w.heap.size)(k:∀g,P g->g<w.heap.size)(a:ji 3 w0 nt nx)(hs:s.size<=300)(n:okT (zx ds) t)(m:jy ds)(h:yO w0)(hQ:yA w0)(j:cJ w0):Calls prog 75 #[.agg #[sv,.iface rT rx],v,.string s] w (FN w N_ nt nx (xu (zx ds) true t s).isSome):=by
 apply(ia D l c hk k a hs n m h hQ j).mono;rintro e w' ⟨c,a,he,hf,hm⟩;refine⟨c,a,he,hf,?_⟩;cases a:xu (zx ds) true t s with
 |none=>rw[a]at hm;exact⟨hm.1,hm.2⟩
 |some d=>rw[a]at hm;exact⟨hm.1,hm.2.iface⟩
section
variable {w:World} {P:Nat->Prop} {s:BA} {g:Nat} {cs:List Value}
def fo(hb:Blk w g cs 193)(x:Value){b e k n:Nat}{xs:List Value}(ho:w.ownsRow b e k v n xs)(h:e≠193):(w.setCell ⟨g,2,none⟩ x).ownsRow b e k v n xs:=by
 refine zj ho (Y_ w ⟨g,2,none⟩ x) (λg' a e'=>?_);have c:g'=g:=e';subst c;rcases ho.2 with⟨d,_⟩|⟨c,cap,c,rfl,_,c,_⟩
 .rw[d]at a;simp[Value.ownBlock]at a
 .simp only[Value.ownBlock,ah_]at a;subst a;unfold Blk at hb;rw[hb]at c;simp only[ah_,Obj.cells.injEq]at c;exact h c.2.1.symm
def TyV.put(hb:Blk w g cs 193)(x:Value){t:PT}(h:TyV w P t v):TyV (w.setCell ⟨g,2,none⟩ x) P t v:=by
 induction h with
 |base c p h=>exact .base c p h
 |name c p h=>exact .name c p h
 |wrap c p h ih=>exact .wrap c p ih
 |alts p X ho hP h ih=>exact .alts p X (fo hb x ho D_) hP ih
def DfV.put(hb:Blk w g cs 193)(x:Value)(hx:IfV x){d:Value}(h:DfV w P s o d):DfV (w.setCell ⟨g,2,none⟩ x) P s o d:=by
 match o with
 |none=>exact h
 |some (a,e)=>
  obtain⟨g',l,h1,c,k,j⟩:=h;by_cases hg:g'=g
  .subst hg;exact⟨g',x,h1,c,hx,j.set 2 x⟩
  .exact⟨g',l,h1,c,k,j.other (a:=⟨g,2,none⟩) x hg⟩
def xo.put(hb:Blk w g cs 193)(x:Value)(hx:IfV x){ys:List Value}(h:xo w P s fs ys):xo (w.setCell ⟨g,2,none⟩ x) P s fs ys:=λi f e=>by
 obtain⟨a,b,c,d,h1,k,l,m,j⟩:=h i f e;exact⟨a,b,c,d,h1,k,l,m,j.1,j.2.1,j.2.2.1.put hb x,j.2.2.2.put hb x hx⟩
def xB.put(hb:Blk w g cs 193)(x:Value)(hx:IfV x){fv:Value}{ys:List Value}(h:xB w P s fs fv ys):xB (w.setCell ⟨g,2,none⟩ x) P s fs fv ys:=
 ⟨fo hb x h.row D_,h.off,h.V.put hb x hx⟩
def qh.put(hb:Blk w g cs 193)(x:Value){d:Value}(h:qh w P o d):qh (w.setCell ⟨g,2,none⟩ x) P o d:=by
 match o with
 |none=>exact h
 |some (a,e)=>
  obtain⟨g',h1,j,c⟩:=h;refine⟨g',h1,j,c.other (a:=⟨g,2,none⟩) x (λe'=>?_)⟩;have j:g'=g:=e';subst j;unfold Blk at hb c;rw[hb]at c;simp only[ah_,Obj.cells.injEq]at c;exact absurd c.2.1 D_
def ye.put(hb:Blk w g cs 193)(x:Value)(hx:IfV x)(h:ye w P s b v):ye (w.setCell ⟨g,2,none⟩ x) P s b v:=by
 cases h with
 |recd p ho hP h hp=>exact .recd p (fo hb x ho D_) hP (h.put hb x hx) hp
 |enum p ho hP h hp=>exact .enum p (fo hb x ho D_) hP (h.put hb x) hp
 |bytes p n hp=>exact .bytes p n hp
def xf.put(hb:Blk w g cs 193)(x:Value)(hx:IfV x){ds:List PD}{sv:Value}{xs:List Value}(h:xf w P s ds sv xs):xf (w.setCell ⟨g,2,none⟩ x) P s ds sv xs:=
 ⟨fo hb x h.row D_,h.off,λi d e=>by
  obtain⟨c,h1,a,j,k⟩:=h.V i d e
  exact⟨c,h1,a,j,k.put hb x hx⟩,h.len⟩
end
def xf.mono{w:World}{P Q:Nat->Prop}{s:BA}{ds:List PD}{sv:Value}{xs:List Value}(h:xf w P s ds sv xs)(hQ:∀g,g<w.heap.size->P g->Q g):xf w Q s ds sv xs:=
 ⟨h.row,λg e=>hQ g (h.row.lt g e).2 (h.off g e),h.V.mono hQ,h.len⟩
def Qd{s:BA}{env:Nat->Option PB}{q:Nat}{f:PF}(h:fs[q]?=some f):(fs.drop q).flatMap (dfB s env)=dfB s env f++(fs.drop (q+1)).flatMap (dfB s env):=by
 have hl:=(ae_.1 h).1;rw[ba_ hl,bm_,(ae_.1 h).2]
def QH(w:World)(P:Nat->Prop)(s:BA)(ds:List PD)(sv:Value)(xs:List Value)(nt:TypeId)(nx:Value)(L:List Nat)(e:Ending)(w':World):Prop:=
 ∃v,e=.returned v/\Fr w w' P/\match L with | []=>v=.nilIface/\xf w' P s ds sv xs/\(∀t x,TyV w P t x->TyV w' P t x)|y::_=>∃ev,zT w' w.heap.size v (y:Int) ev/\jN w' w.heap.size nt nx ev
structure RDM(w0 w:World)(P:Nat->Prop)(s:BA)(ds:List PD)(sv rv:Value)(xs:List Value)(fv:Value)(ys:List Value)(W:World):Prop where
 fr:Fr w W P
 D:xf W P s ds sv xs
 F:xB W (λg=>P g\/w.heap.size+1<=g) s (zk ds) fv ys
 B:Blk W w.heap.size [sv,rv] 55
 G:yg w0 W
 T:∀t x,TyV w P t x->TyV W P t x
section
variable {w0 w W W':World} {P:Nat->Prop} {s:BA} {ds:List PD} {sv rv:Value} {xs:List Value} {fv:Value} {ys:List Value}
def RDM.new(M:RDM w0 w P s ds sv rv xs fv ys W)(hk:w0.heap.size<=w.heap.size)(hf:Fr W W' N_):RDM w0 w P s ds sv rv xs fv ys W':=
 ⟨M.fr.trans hf v_,M.D.fr hf u_,M.F.fr hf u_,hf.bl M.B id,M.G.fr hf (ak_ hk M.fr.size) (λ_ f=>f.elim),λt x h=>(M.T t x h).fr hf u_⟩
def RDM.put(M:RDM w0 w P s ds sv rv xs fv ys W)(hk:w0.heap.size<=w.heap.size)(c:∀g,P g->w0.heap.size<=g){g:Nat}{cs:List Value}(hb:Blk W g cs 193)(hg:P g\/w.heap.size+1<=g)(x:Value)(hx:IfV x):RDM w0 w P s ds sv rv xs fv ys (W.setCell ⟨g,2,none⟩ x):=by
 have d:w0.heap.size<=g:=by
  rcases hg with h|h
  .exact c g h
  .omega
 refine⟨M.fr.setCell ⟨g,2,none⟩ x (λh=>?_),M.D.put hb x hx,M.F.put hb x hx,M.B.other (a:=⟨g,2,none⟩) x (λe=>?_),M.G.fr (Y_ W ⟨g,2,none⟩ x) (ak_ hk M.fr.size) (λg' e=>?_),λt y h=>(M.T t y h).put hb x⟩
 .rcases hg with c|c
  .exact c
  .have:g<w.heap.size:=h;omega
 .have e':w.heap.size=g:=e;have hB:=M.B;rw[e']at hB;unfold Blk at hb hB;rw[hb]at hB;simp only[ah_,Obj.cells.injEq]at hB;exact absurd hB.2.1 D_
 .have e':g'=g:=e;omega
end
def fj{w0 w:World}{P:Nat->Prop}{s:BA}{ds:List PD}{sv:Value}{xs:List Value}{nt:TypeId}{nx:Value}(D:xf w P s ds sv xs)(u:yg w0 w)(hk:w0.heap.size<=w.heap.size)(X:∀g,P g->w0.heap.size<=g)(N:∀g,P g->g<w.heap.size)(R:ji 3 w0 nt nx)(hs:s.size<=300)(r:(zk ds).length<=300)(A:∀f∈zk ds,okT (zx ds) f.ty)(V:jy ds)(S:yO w0)(hQ:yA w0)(U:cJ w0):Calls prog 46 #[.agg #[sv,.iface rT rx]] w (QH w P s ds sv xs nt nx (kB s ds)):=by
 refine hq_ λc L=>?_;obtain⟨k,n,rfl⟩:=zl D.row;have c:Fr w (w.alloc (.cells #[.slice k ds.length n,.iface rT rx] 55)) N_:=(A_ w _).alloc _;have z:(w.alloc (.cells #[.slice k ds.length n,.iface rT rx] 55)).heap.size=w.heap.size+1:=by simp
 have j:=bG (rv:=.iface rT rx) (D.fr c u_) r (λg hg=>bb_ (N g hg) c.size);rw[z]at j;have y:H_ (∀w1 fv ys,Fr (w.alloc (.cells #[.slice k ds.length n,.iface rT rx] 55)) w1 N_->xB w1 (λg=>P g\/w.heap.size+1<=g) s (zk ds) fv ys->RDM w0 w P s ds (.slice k ds.length n) (.iface rT rx) xs fv ys w1):=zy (λw1 fv ys hf r=>⟨(c.mono v_).trans hf v_,(D.fr c u_).fr hf u_,r,hf.bl (B_ w #[.slice k ds.length n,.iface rT rx] 55) id,(u.fr c hk (λ_ f=>f.elim)).fr hf M_ (λ_ f=>f.elim),λt x h=>(h.fr c u_).fr hf u_⟩);replace j:=zy j;go_in;go_wp2_with (go_at_call 73;apply j.o.mono;rintro e w1 ⟨fv,ys,rfl,u,r⟩;have c:=y.o w1 fv ys u r;obtain⟨fa,fc,rfl⟩:=zl r.row;replace c:=zy c);have start:H_ (∃q:Nat,Value.int .i64 0=I_ q/\q<=(zk ds).length/\(zk ds).length+1-q<=(zk ds).length+1/\RDM w0 w P s ds (.slice k ds.length n) (.iface rT rx) xs (.slice fa (zk ds).length fc) ys w1/\kB s ds=((zk ds).drop q).flatMap (dfB s (zx ds))):=zy ⟨0,rfl,al_ _,M_,c,rfl⟩;go_loopg [10] ((zk ds).length+1) (λm v W=>∃q:Nat,v=I_ q/\q<=(zk ds).length/\(zk ds).length+1-q<=m/\RDM w0 w P s ds (.slice k ds.length n) (.iface rT rx) xs (.slice fa (zk ds).length fc) ys W/\kB s ds=((zk ds).drop q).flatMap (dfB s (zx ds)));case atStart=>exact start
 case round=>
  obtain⟨q,rfl,j,hm,M,he⟩:=hrel;by_cases E:q<(zk ds).length
  .have a0:(q:Int)<((zk ds).length:Int):=M_;have hd:(zk ds)[q]?=some (zk ds)[q]:=af_ E;have j:(zk ds)[q]∈zk ds:=a0_ E;generalize (zk ds)[q]=f at hd j;obtain⟨g,cap,r⟩:=zm M.F.row M_;cases r;obtain⟨T,x,d,c0,c1,c2,c3,J,u⟩:=M.F.cells hd;rw[Qd hd]at he;obtain⟨l,y⟩:=x_ f.letter;obtain⟨pl,z⟩:=x_ f.place;rw[y]at c1;rw[z]at c0;have Y:=A f j;have r:=(A_ wr N_).alloc (.cells #[I_ pl,U_ l,.iface T x,.pointer d] 189);have j:=B_ wr #[I_ pl,U_ l,.iface T x,.pointer d] 189;have c:=M.new hk r;cases y:f.dflt with
   |none=>
    rw[y]at u;have z:d=none:=by
     have:Value.pointer d=.pointer none:=u;cases this;rfl
    subst z;have z:=zy (show kB s ds=((zk ds).drop (q+1)).flatMap (dfB s (zx ds)) by rw[he];unfold dfB;rw[y];rfl);replace c:=zy c;go_wp2;go_roundg ((zk ds).length+1-(q+1));case measure=>omega
    case rel=>exact⟨q+1,rfl,E,l_,c,z⟩
   |some ae=>
    obtain⟨a,C⟩:=ae;rw[y]at u;obtain⟨H,z,Z,z,A,I⟩:=u;cases z;have O:dfB s (zx ds) f=if (xu (zx ds) true f.ty (s.extract a C)).isSome=true then [] else [a]:=by unfold dfB;rw[y]
    rw[O]at he;have z:=r.bl I id;have u:=r.size;have u:=r.drew;have y:=M.new hk u;have A:=tX (s:=s.extract a C) (P:=λg=>(P g\/w.heap.size+1<=g)/\g<wr.heap.size) (rT:=rT) (rx:=rx) (y.D.mono (λg _ h=>⟨.inl h,by have:=N g h;have:=M.fr.size;omega⟩)) ((J.mono (Q:=λg=>(P g\/w.heap.size+1<=g)/\g<wr.heap.size) (λg h1 N=>⟨N,h1⟩)).fr u u_) y.G (ak_ hk y.fr.size) (λg hg=>by have:=u.size;omega) R (by rw[bl_];omega) Y V S hQ U;have S:=c.B.c0;have U:=c.B.c1;have R:=j.c2;have n3:=j.c3;have d1:=z.c1;have N:=zy (And.intro y (And.intro (u.bl I id) (And.intro j.drew A)));go_wp2;obtain⟨c,z,j,A⟩:=N.o;have Y:=zy (show w.heap.size<=(wr.alloc (.cells #[I_ pl,U_ l,.iface T x,P_ H] 189)).drew.heap.size from c.fr.size);refine tR_ (λW=>f_ W w.heap.size 0 (.slice k ds.length n)/\f_ W w.heap.size 1 (.iface rT rx)/\f_ W wr.heap.size 2 (.iface T x)/\f_ W wr.heap.size 3 (P_ H)/\f_ W H 1 (.string (s.extract a C))) ?_;refine tY_ 0 ?_;refine tY_ 1 ?_;refine tY_ 2 ?_;refine tY_ 3 ?_;refine tY_ 4 ?_;refine tY_ 5 ?_;refine tY_ 6 ?_;refine tY_ 7 ?_;refine zL 8 rfl K_ ⟨S,U,R,n3,d1⟩ (λK k=>?_);go_simp;apply A.mono;rintro e u ⟨n,n,rfl,r,y⟩;refine k _ _ ?_;have k:=c.new hk r;have H:=r.bl j id;have n:=r.bl z id;have J:=k.B.c0;have O:=k.B.c1;have I:=H.c2;have m3:=H.c3;obtain⟨b0,b1,b2⟩:=n.d3;have V:=n.th 2;refine tY_ 9 ?_;refine tY_ 10 ?_;refine tY_ 11 ?_;refine tY_ 12 ?_;refine tY_ 13 ?_;refine yh K_ ⟨J,O,I,m3,b1⟩ ?_ _;revert r k n;refine h_ λr k n=>?_;by_cases j:(xu (zx ds) true f.ty (s.extract a C)).isSome=true
    .rw[i_ j]at y he;rw[bk_]at he;obtain⟨rfl,dT,dx,rfl⟩:=y;replace he:=zy he;go_wp2;go_roundg ((zk ds).length+1-(q+1));case measure=>omega
     case rel=>exact⟨q+1,rfl,E,l_,k.o.put hk X n Z (.iface dT dx) (.inr ⟨_,_,rfl⟩),he⟩
    .rw[n_ j]at y he;obtain⟨rfl,c⟩:=y;obtain⟨eT,n,rfl⟩:=c.iface;replace he:=zy he;replace c:=zy c;go_wp2_with (go_at_call 70;apply(yR (a:Int) _).mono;rintro e j ⟨rfl,j⟩;rw[j]);try go_ret
     rw[L.o];have r:=k.o.fr.size;have j:Fr u (u.alloc (.cells #[I_ a,.iface eT n] 181)) N_:=(A_ u _).alloc _;refine⟨_,rfl,k.o.fr.trans j v_,?_⟩;rw[he.o];exact⟨.iface eT n,⟨u.heap.size,r,rfl,B_ u _ _⟩,(c.o.fr j u_).ls (by have:=Y.o;omega)⟩
  .have a0:¬((q:Int)<((zk ds).length:Int)):=M_;rw[bx_ M_,List.flatMap_nil]at he;replace he:=zy he;replace M:=zy M;go_wp2;try go_ret
   rw[L.o];refine⟨.nilIface,rfl,M.o.fr,?_⟩;rw[he.o];exact⟨rfl,M.o.D,M.o.T⟩
def Fr.ofBelow{w w':World}(h:Below w.heap.size w w'):Fr w w' N_:=⟨h.os,h.tape,h.output,h.size,λk hk _=>h.block k hk⟩
def Fr.bytes(w:World)(e:TypeId)(t:BA):Fr w (Lib.bytesWorld w e t) N_:=
 ⟨rfl,rfl,rfl,by rw[Lib.bytesWorld_size];omega,λk hk _=>Lib.bytesWorld_at_old w e t k hk⟩
def vh(w0:World):Prop:=∀(W:World),yg w0 W->∀t:BA,t.size<=4000->Calls prog 198 #[.string t,z_ 10,z_ 64] W (Gs W t)
def sC{w0:World}{a c:TypeId}{j k:Value}(h1:w0.var? prog "strconv.ErrSyntax" = some #[.iface a j])(l:w0.var? prog "strconv.ErrRange" = some #[.iface c k]):vh w0:=by
 intro W d t m;cases hp:Lib.parseIntB 64 t.data.toList with
 |ok v=>
  apply(Tryz.strconv_ParseInt_10_at64_ok t M_ v hp W).mono;rintro e w' ⟨rfl,hw⟩;refine⟨?_,.inl ⟨v,hp,rfl⟩⟩;rcases hw with rfl|⟨t',rfl⟩
  .exact A_ _ _
  .exact Fr.bytes _ _ _
 |range=>
  apply(Tryz.strconv_ParseInt_10_at64_range_var t M_ hp c k W (d.var l)).mono;rintro e w' ⟨N,rfl,_,_,hb⟩;exact⟨Fr.ofBelow hb,.inr ⟨λv h=>(by rw[hp]at h;cases h),_,_,_,rfl⟩⟩
 | _=>
  apply(Tryz.strconv_ParseInt_10_at64_syntax_var t M_ hp a j W (d.var h1)).mono;rintro e w' ⟨N,rfl,_,_,hb⟩;exact⟨Fr.ofBelow hb,.inr ⟨λv h=>(by rw[hp]at h;cases h),_,_,_,rfl⟩⟩
def yg.cell{w0 w:World}(h:yg w0 w){a:Addr}(hc:w0.cell? a=some v):w.cell? a=some v:=
 (World.cell?_of_block (h a.block (World.block_lt_of_cell? w0 a hc))).trans hc
def yg.tab{w0 w:World}(h:yg w0 w){g:Nat}{k:IntKind}{t:List Nat}(d:Lib.TabSlice g k t w0):Lib.TabSlice g k t w:=by
 obtain⟨R,o,c,h1,a⟩:=d;exact⟨R,o,c,h.cell h1,λj d=>h.cell (a j d)⟩
def Jv{w0:World}{T:Lib.PrintTabs}(d:Lib.PrintTabsAt 18 19 20 21 T w0)(h:Lib.Utf8Tabs 16 17 w0):yA w0:=by
 intro W a k hk;apply(Tryz.strconv_Quote T k W M_ ⟨a.tab d.1,a.tab d.2.1,a.tab d.2.2.1,a.tab d.2.2.2.1,d.2.2.2.2⟩ ⟨λc hc=>a.cell (h.1 c hc),λi hi=>⟨a.cell (h.2 i hi).1,a.cell (h.2 i hi).2⟩⟩).mono;rintro e w' ⟨rfl,hb⟩;refine⟨_,rfl,?_,Fr.ofBelow hb⟩;rw[strOfNums_size];have:=Lib.quoteZ_length_le T k;omega
section
variable {w0 w:World} {P:Nat->Prop} {ss:BA} {ds:List PD} {sv rv:Value} {xs:List Value} {s:BA} {nt:TypeId} {nx:Value} {pl:Bool} {br i:Nat}
def Wi(hP:vh w0){kd:Nat}(M:NC w0 P ss ds sv rv xs s nt nx pl br i w):Calls prog 183 #[P_ br,z_ (loV kd),z_ (hiV kd)] w λe w'=>∃n b,e=.returned (.tuple #[z_ n,.bool b])/\Fr w w' (· = br)/\zA w' br sv rv s (yQ s i) (!pl)/\(b=true↔qo kd (xL s i) (yw s i))/\(b=true->n=mn (xL s i) (yw s i) (yw s i).size/\-9223372036854775808<=n/\n<=9223372036854775807):=by
 have hs:=M.hs;apply(tZ M.R M_ M.il (λW hf=>hP W (M.G.fr hf (by have:=M.lt;have:=M.brG;omega) (λg e=>e▸M.brG)) _ (by rw[bl_];omega))).mono;rintro e w' ⟨n,b,rfl,hf,a,hb,hv⟩;refine⟨n,b,rfl,hf,a,hb.trans ?_,λe=>?_⟩
 rotate_left
 .obtain⟨h1,a⟩:=YR (hb.1 e).1.1 (hv e);exact⟨h1.symm,a⟩
 constructor
 .rintro⟨⟨a,c⟩,hv⟩;exact(ip a c).2 hv
 .intro h;have a:=h;unfold qo at a;exact⟨⟨a.1,a.2.1⟩,(ip a.1 a.2.1).1 h⟩
def bP{tt:PT}{kd:Nat}{lo hi:Int}(hP:vh w0)(M:NC w0 P ss ds sv rv xs s nt nx pl br i w)(l:kd=105\/kd=108)(h1:loV kd=lo)(a:hiV kd=hi):Calls prog 166 #[P_ br,z_ lo,z_ hi] w (zO (zx ds) tt w sv rv s nt nx pl br ((xE s kd i).map (λq=>(.mk kd q.1 noB [] [],q.2)))):=by
 have h:=Wi (kd:=kd) hP M;rw[h1,a]at h;clear h1 a hP;refine hq_ λa k=>?_;replace h:=zy h;have j:=(VN (s:=s) M.il).2.2.2;replace M:=zy M;by_cases d:qo kd (xL s i) (yw s i)
 .have hr:=zy (show(xE s kd i).map (λq=>(DT.mk kd q.1 noB [] [],q.2))=some (.mk kd (mn (xL s i) (yw s i) (yw s i).size) noB [] [],yQ s i) by unfold xE;rw[i_ d];rfl);replace d:=zy d;go_in;go_wp2_with (go_at_call 183;apply h.o.mono;rintro e w1 ⟨n,b,rfl,c,a,hb,hv⟩;obtain rfl:=hb.2 d;replace hv:=zy (hv rfl);replace c:=zy c;replace a:=zy a;clear hb);try go_ret
  rw[k.o,hr.o];exact nok (by rw[<- hv.o.1];exact DaV.plain (.num kd n l hv.o.2.1 hv.o.2.2) D_) c a j
 .have hr:=zy (show(xE s kd i).map (λq=>(DT.mk kd q.1 noB [] [],q.2))=none by unfold xE;rw[n_ d];rfl);replace d:=zy d;go_in;go_wp2_with (go_at_call 183;apply h.o.mono;rintro e w1 ⟨n,b,rfl,c,a,hb,hv⟩;clear hv;obtain rfl:b=false:=(by cases b;rfl;exact absurd (hb.1 rfl) d);have d:=(M.o.call a c j).e;replace c:=zy c;replace a:=zy a;clear hb);go_quiet (fail);go_wp2;try go_ret
  rw[k.o,hr.o];exact ii (c.o.si (zq.drewN _ _)) (a.o.si (zq.drewN _ _)) j
end
def KH{w0:World}(hP:vh w0):cJ w0:=λ_ _ _ _ _ _ _ _ _ _ _ _ _ _ M=>⟨bP (kd:=105) hP M (.inl rfl) rfl rfl,bP (kd:=108) hP M (.inr rfl) rfl rfl⟩
section
variable {w0 w:World} {P:Nat->Prop} {ss:BA} {ds:List PD} {sv rv:Value} {xs:List Value} {s:BA} {nt:TypeId} {nx:Value} {br i:Nat}
end
section
variable {w0:World} {P:Nat->Prop} {ss:BA} {ds:List PD} {sv rv:Value} {xs:List Value} {s:BA} {nt:TypeId} {nx:Value} {br:Nat}
end
def ao{s:BA}(hs:s.size<=300){i:Nat}{f:PF}{j:Nat}(h:zH s i=.ok (f,j)):xJ f.ty/\i<j:=by
 unfold zH at h;split at h
 .split at h
  .rename_i a;have hl:=zc (s:=s) (i:=i+1) M_;split at h
   .cases h
   .rename_i t k hp;have:=Jh hs (i:=i+2) M_ hp;have hb:=(xx (s:=s) (i:=i+2) M_).1 t k hp;split at h
    .split at h
     .cases h
     .rename_i e hd;have:=lD hd;simp only[ag_,ad_]at h;obtain⟨rfl,rfl⟩:=h;exact⟨by assumption,M_⟩
    .simp only[ag_,ad_]at h;obtain⟨rfl,rfl⟩:=h;exact⟨by assumption,M_⟩
  .cases h
 .cases h
def dO(s:BA)(hs:s.size<=300):∀(n i:Nat) (l:List PF) (j:Nat),yK s n i=.ok (l,j)->(∀f∈l,xJ f.ty)/\i+l.length<=j:=by
 have cc1:=trivial
 exact cq18_
def YP{s:BA}(hs:s.size<=300){i:Nat}{j:Nat}(h:yZ s i=.ok (b,j)):(∀f∈b.fs,xJ f.ty)/\i+b.fs.length<=j:=by
 unfold yZ at h;split at h
 .split at h
  .cases h
  .rename_i ds k hr;simp only[ag_,ad_]at h;obtain⟨rfl,rfl⟩:=h;unfold yp at hr;split at hr
   .split at hr
    .simp only[ag_,ad_]at hr;obtain⟨rfl,rfl⟩:=hr;exact⟨λf hf=>by simp[PB.fs]at hf,by simp[PB.fs];omega⟩
    .obtain⟨a,c⟩:=dO s hs _ _ _ _ hr;exact⟨a,by show i+ds.length<=k;omega⟩
   .cases hr
 .split at h
  .split at h
   .cases h
   .rename_i l o k hr;simp only[ag_,ad_]at h;obtain⟨rfl,rfl⟩:=h;have:=(lL hr).2.2.2;exact⟨λf hf=>by simp[PB.fs]at hf,by simp[PB.fs];omega⟩
  .split at h
   .split at h
    .simp only[ag_,ad_]at h;obtain⟨rfl,rfl⟩:=h;exact⟨λf hf=>by simp[PB.fs]at hf,by simp[PB.fs]⟩
    .cases h
   .cases h
def aX(s:BA)(hs:s.size<=300):∀(n i:Nat) (ds:List PD) (j:Nat),i<=s.size->yb s n i=.ok (ds,j)->(∀f∈zk ds,xJ f.ty)/\i+(zk ds).length<=j/\j<=s.size:=by
 intro n;induction n with
 |zero=>
  intro i ds j hi h;simp only[yb,ag_,ad_]at h;obtain⟨rfl,rfl⟩:=h;exact⟨λf hf=>by simp[zk]at hf,by simp[zk],hi⟩
 |succ n ih=>
  intro i ds j hi h;unfold yb at h;split at h
  .split at h
   .split at h
    .cases h
    .rename_i b k hb;obtain⟨b1,b2⟩:=YP hs hb;split at h
     .rename_i d;have a:=zc (s:=s) (i:=k) M_;split at h
      .cases h
      .rename_i r e hr;obtain⟨r1,l,c⟩:=ih _ _ _ a hr;simp only[ag_,ad_]at h;obtain⟨rfl,rfl⟩:=h;rw[li];refine⟨λf hf=>?_,by rw[ai_];show i+(b.fs.length+_)<=_;omega,c⟩;rcases a2_.1 hf with hf|hf
       .exact b1 f hf
       .exact r1 f hf
     .cases h
   .cases h
  .simp only[ag_,ad_]at h;obtain⟨rfl,rfl⟩:=h;exact⟨λf hf=>by simp[zk]at hf,by simp[zk],hi⟩
def tK{ds:List PD}{d:PD}(hd:d∈ds){f:PF}(hf:f∈d.body.fs):f∈zk ds:=by
 unfold zk;exact List.mem_flatMap.2 ⟨d,hd,hf⟩
def fR{ds:List PD}{f:PF}(hf:f∈zk ds):∃d∈ds,f∈d.body.fs:=by
 unfold zk at hf;exact List.mem_flatMap.1 hf
def xO{s:BA}(hs:s.size<=300){ds:List PD}{t:PT}(h:ze s=.ok (ds,t)):(∀d∈ds,plB d.body)/\xJ t/\shT t/\(zk ds).length<=300/\(∀f∈zk ds,xJ f.ty/\shT f.ty)/\ds.length<=6:=by
 obtain⟨_,_,_,u,x⟩:=xA h;obtain⟨r,A⟩:=vZ h;have h0:=h;unfold ze at h0;split at h0
 .cases h0
 .rename_i ds' i hd;obtain⟨k,B,y⟩:=aX s hs _ _ _ _ o_ hd;split at h0
  .cases h0
  .rename_i t' j z;have ft:=Jh hs y z;split at h0
   .cases h0
   .simp only[ag_,ad_]at h0;obtain⟨rfl,rfl⟩:=h0;refine⟨λd e=>?_,ft,A,M_,λf hf=>⟨k f hf,?_⟩,x⟩
    .have h1:=(u d e).2;have a:=r d e;have m:∀f∈d.body.fs,xJ f.ty:=λf hf=>k f (tK e hf);cases hb:d.body with
     |recd fs=>rw[hb]at h1 a m;exact⟨by have:=a.2;omega,h1,m⟩
     |enum l o=>rw[hb]at h1 a;exact⟨by have:=a.2;omega,h1.1,h1.2⟩
     |bytes n=>trivial
    .obtain⟨d,e,c⟩:=fR hf;have a:=r d e;cases hb:d.body with
     |recd fs=>rw[hb]at a c;exact a.1 f c
     |enum l o=>rw[hb]at c;simp[PB.fs]at c
     |bytes n=>rw[hb]at c;simp[PB.fs]at c
def bQ{s:BA}(hs:s.size<=300){ds:List PD}{t:PT}(h:ze s=.ok (ds,t))(hn:xY ds t=[])(hu:xZ ds t=[]):jy ds/\∀f∈zk ds,okT (zx ds) f.ty:=by
 have a:=(xA h).1 hn;have e:=(xA h).2.1 hu;have hw:wrU (zx ds) (vS ds++zZ t) (jK [] ds (-1))<0:=by rw[a];decide
 have hm:mix t (jP ds (-1))<0:=by rw[e];decide
 obtain⟨e,a,_,_⟩:=pX hs h hw hm;obtain⟨m,_⟩:=xO hs h;obtain⟨r,k⟩:=vZ h;obtain⟨_,a⟩:=Zm hw;have j:=ml (zx ds) t _ k hm (λu hu=>a u (b1_ _ hu));have k:=(eF (env:=zx ds) r (λu hu=>a u (bu_ _ hu)) j.1).2;refine⟨λc b he=>⟨?_,e c b he⟩,λf hf=>?_⟩
 .unfold zx at he;cases hl:xR 0 c ds with
  |none=>rw[hl]at he;cases he
  |some q=>
   obtain⟨a,a⟩:=q;rw[hl]at he;simp only[bz_,ah_]at he;subst he;obtain⟨d,hd,rfl⟩:=qH hl;exact m d hd
 .obtain⟨d,hd,a⟩:=fR hf;cases hb:d.body with
  |recd fs=>rw[hb]at a;exact k d hd fs hb f a
  |enum l o=>rw[hb]at a;simp[PB.fs]at a
  |bytes n=>rw[hb]at a;simp[PB.fs]at a
structure lG where
 lt:TypeId
 lx:Value
 gt:TypeId
 gx:Value
 mt:TypeId
 mx:Value
 ut:TypeId
 ux:Value
 nt:TypeId
 nx:Value
structure lG.At(E:lG)(w:World):Prop where
 l:ji 7 w E.lt E.lx
 g:ji 0 w E.gt E.gx
 m:ji 1 w E.mt E.mx
 u:ji 2 w E.ut E.ux
 n:ji 3 w E.nt E.nx
def jj(E:lG)(w:World)(lo:Nat)(ev:Value)(a:Int×Int):Prop:=
 (a.1=0/\a.2=0/\ev=.nilIface)\/(a.1=1/\a.2=0/\ev=.iface E.lt E.lx)\/(a.1=2/\zT w lo ev a.2 (.iface E.gt E.gx))\/(a.1=3/\zT w lo ev a.2 (.iface E.mt E.mx))\/(a.1=4/\zT w lo ev a.2 (.iface E.ut E.ux))\/(a.1=5/\∃cv,zT w lo ev a.2 cv/\jN w lo E.nt E.nx cv)
def ce(lo:Nat)(w:World)(s:BA)(sv rv:Value):Prop:=
 ∃ds t xs,s.size<=300/\ze s=.ok (ds,t)/\xY ds t=[]/\xZ ds t=[]/\xf w (λg=>lo<=g/\g<w.heap.size) s ds sv xs/\TyV w (λg=>lo<=g/\g<w.heap.size) t rv
def wI(w:World)(s:BA)(E:lG)(e:Ending)(w':World):Prop:=
 ∃sv rv ev,e=.returned (.tuple #[.agg #[sv,rv],ev])/\(∃a n c,sv=.slice a n c)/\IfV rv/\Fr w w' N_/\(∃p,jj E w' w.heap.size ev ((zg s).1,p))/\((zg s).1=0->ce w.heap.size w' s sv rv)
def kI{w W W':World}{s:BA}{E:lG}{a:Value}(hf:Fr w W N_)(c:Fr W W' (λg=>g=w.heap.size))(h0:(zg s).1≠0){p:Int}(h:jj E W' w.heap.size a ((zg s).1,p)):wI w s E (.returned (.tuple #[.agg #[L_,.nilIface],a])) W':=
 ⟨_,_,a,rfl,⟨_,_,_,rfl⟩,.inl rfl,hf.trans c (λx hx e=>M_),⟨p,h⟩,λe=>absurd e h0⟩
structure RSt(w w1:World)(s:BA)(ds:List PD)(t:PT)(sv rv:Value)(xs:List Value)(q:Nat)(W:World):Prop where
 z:w1.heap.size+2<=W.heap.size
 z0:w.heap.size+2<=w1.heap.size
 al:Fr w W N_
 q3:q<=3
 d:xf W (λg=>w.heap.size+2<=g/\g<w1.heap.size) s ds sv xs/\TyV W (λg=>w.heap.size+2<=g/\g<w1.heap.size) t rv
 n:1<=q->xY ds t=[]
 u:2<=q->xZ ds t=[]
 e:3<=q->kB s ds=[]
 R:Blk W w.heap.size [L_,.nilIface] 55
 B:Blk W w1.heap.size [sv,rv] 55
 L:∃ty,Blk W (w1.heap.size+1) [.func (.func 44) #[] #[],.func (.func 45) #[] #[],.func (.func 46) #[] #[]] ty
section
variable {w w1 W W':World} {s:BA} {ds:List PD} {t:PT} {sv rv:Value} {xs:List Value} {q:Nat}
def RSt.chk(M:RSt w w1 s ds t sv rv xs q W)(hf:Fr W W' N_):RSt w w1 s ds t sv rv xs q W':=
 ⟨ak_ M.z hf.size,M.z0,M.al.trans hf v_,M.q3,⟨M.d.1.fr hf u_,M.d.2.fr hf u_⟩,M.n,M.u,M.e,hf.bl M.R id,hf.bl M.B id,M.L.imp λ_ h=>hf.bl h id⟩
def RSt.next0(M:RSt w w1 s ds t sv rv xs 0 W)(h:xY ds t=[]):RSt w w1 s ds t sv rv xs 1 W:=
 ⟨M.z,M.z0,M.al,M_,M.d,λ_=>h,λh=>M_,λh=>M_,M.R,M.B,M.L⟩
def RSt.next1(M:RSt w w1 s ds t sv rv xs 1 W)(h:xZ ds t=[]):RSt w w1 s ds t sv rv xs 2 W:=
 ⟨M.z,M.z0,M.al,M_,M.d,λ_=>M.n M_,λ_=>h,λh=>M_,M.R,M.B,M.L⟩
def RSt.dft(M:RSt w w1 s ds t sv rv xs 2 W)(hf:Fr W W' (λg=>w.heap.size+2<=g/\g<w1.heap.size)):Fr w W' N_/\Blk W' w.heap.size [L_,.nilIface] 55:=
 ⟨M.al.trans hf (λx hx e=>M_),hf.bl M.R (λe=>M_)⟩
def RSt.next2(M:RSt w w1 s ds t sv rv xs 2 W)(hf:Fr W W' (λg=>w.heap.size+2<=g/\g<w1.heap.size))(h:kB s ds=[])(a:xf W' (λg=>w.heap.size+2<=g/\g<w1.heap.size) s ds sv xs)(c:∀t x,TyV W (λg=>w.heap.size+2<=g/\g<w1.heap.size) t x->TyV W' (λg=>w.heap.size+2<=g/\g<w1.heap.size) t x):RSt w w1 s ds t sv rv xs 3 W':=
 ⟨ak_ M.z hf.size,M.z0,(M.dft hf).1,M_,⟨a,c _ _ M.d.2⟩,λ_=>M.n M_,λ_=>M.u M_,λ_=>h,(M.dft hf).2,hf.bl M.B (λe=>M_),M.L.imp λ_ h=>hf.bl h (λe=>M_)⟩
end
def YG{w:World}{s:BA}{E:lG}(V:E.At w)(hI:yO w)(hQ:yA w)(hN:cJ w):Calls prog 29 #[.string s] w (wI w s E):=by
 refine hq_ λa T=>?_;have a:Fr w (w.alloc (.cells #[L_,.nilIface] 55)) N_:=(A_ w _).alloc _;have j:=B_ w #[L_,.nilIface] 55;have C:(w.alloc (.cells #[L_,.nilIface] 55)).heap.size=w.heap.size+1:=by simp
 by_cases hl:300<s.size
 .have y:(300:Int)<(s.size:Int):=M_;have c:=V.l.fr a id;unfold ji at c;replace j:=zy j;go_in;go_wp2;go_region;go_wp2;have J:=j.o.drew.c0;have K:=j.o.drew.c1;refine bodyPost_ret (v:=.tuple #[.agg #[L_,.nilIface],.iface E.lt E.lx]) (by simp[results,results29,go_sem,J,K]) rfl ?_;rw[T.o];exact⟨_,_,_,rfl,⟨_,_,_,rfl⟩,.inl rfl,a.drew,⟨0,.inr (.inl ⟨by unfold zg;rw[i_ hl],rfl,rfl⟩)⟩,λe=>by unfold zg at e;rw[i_ hl]at e;simp at e⟩
 .have y:¬(300:Int)<(s.size:Int):=M_;have hs:s.size<=300:=M_;have A:=a.alloc (.cells #[.string s,O_] 119);have I:PAt ((w.alloc (.cells #[L_,.nilIface] 55)).alloc (.cells #[.string s,O_] 119)) (w.heap.size+1) s 0:=by
   have:=B_ (w.alloc (.cells #[L_,.nilIface] 55)) #[.string s,O_] 119;rwa[C]at this
  have c:=World.block_lt_of_cell? w ⟨0,0,none⟩ V.g;have S:=zy (sQ I (V.g.fr A id) (by show w.heap.size+1≠_;simp only at c;omega) hs);replace I:=zy I;replace j:=zy (j.alloc (.cells #[.string s,O_] 119));replace A:=zy A;cases hp:ze s with
  |error k=>
   have C:=zy (show(zg s).1=2 by unfold zg;rw[n_ hl,hp]);replace hp:=zy hp;go_in;go_wp2_with (go_at_call 43;apply S.o.mono;rintro e w1 ⟨sv,rv,ev,rfl,⟨G,sn,H,rfl⟩,a2,c,hm⟩;rw[hp.o]at hm;obtain⟨g,U,rfl,D⟩:=hm;have N:=c.size;have a5:w.heap.size+2<=w1.heap.size:=(by simp at N;omega);have Z:w.heap.size<w1.heap.size:=M_;rcases a2 with rfl|⟨rT,rx,rfl⟩;have a:=c.bl j M_;have r0:=a.c0;have r1:=a.c1;have X:=a.th 0;have Y:=a.th 1;replace a:=zy a;replace c:=zy c;replace D:=zy D;rotate_left;have a:=c.bl j M_;have r0:=a.c0;have r1:=a.c1;have X:=a.th 0;have Y:=a.th 1;revert c D a;refine h_ λc D a=>?_)
   .have F:=(X_ a (L_) .nilIface).alloc (.cells #[.slice G sn H,.iface rT rx] 55);have J:=F.c0;have K:=F.c1;refine bodyPost_ret (v:=.tuple #[.agg #[L_,.nilIface],.iface 179 (P_ g)]) (by simp[results,results29,go_sem,J,K]) rfl ?_;rw[T.o];have y:=(Z_ w1 w.heap.size (L_) .nilIface).alloc (.cells #[.slice G sn H,.iface rT rx] 55);refine kI (p:=(k:Int)) (A.o.trans c (λx hx e=>M_)) y (by rw[C.o];simp) ?_;rw[C.o];exact .inr (.inr (.inl ⟨rfl,g,by simp at U;omega,rfl,y.bl D (λe=>by simp at U;omega)⟩))
   .have F:=(X_ a (L_) .nilIface).alloc (.cells #[.slice G sn H,.nilIface] 55);have J:=F.c0;have K:=F.c1;refine bodyPost_ret (v:=.tuple #[.agg #[L_,.nilIface],.iface 179 (P_ g)]) (by simp[results,results29,go_sem,J,K]) rfl ?_;rw[T.o];have y:=(Z_ w1 w.heap.size (L_) .nilIface).alloc (.cells #[.slice G sn H,.nilIface] 55);refine kI (p:=(k:Int)) (A.o.trans c (λx hx e=>M_)) y (by rw[C.o];simp) ?_;rw[C.o];exact .inr (.inr (.inl ⟨rfl,g,by simp at U;omega,rfl,y.bl D (λe=>by simp at U;omega)⟩))
  |ok r=>
   obtain⟨ds,t⟩:=r;have C:=zy (fp hs hp);have a8:=zy (bQ hs hp);have O:=zy (xO hs hp);replace hp:=zy hp;go_in;go_wp2_with (go_at_call 43;apply S.o.mono;rintro e w1 ⟨sv,rv,ev,rfl,_,a2,c,hm⟩;rw[hp.o]at hm;obtain⟨rfl,xs,o1,o2,o3,o4⟩:=hm;have N:=c.size;have a5:w.heap.size+2<=w1.heap.size:=(by simp at N;omega);have a1:=zy (And.intro (xf.mono (Q:=λg=>w.heap.size+2<=g/\g<w1.heap.size) (⟨o1,o2,o3,O.o.2.2.2.2.2⟩:xf w1 _ s ds sv xs) (λg h1 Z=>⟨by simp at Z;omega,h1⟩)) (o4.mono (Q:=λg=>w.heap.size+2<=g/\g<w1.heap.size) (λg h1 Z=>⟨by simp at Z;omega,h1⟩)));obtain⟨G,H,rfl⟩:=zl o1;obtain⟨rT,rx,rfl⟩:=o4.iface;have R1:=zy (c.bl j M_);replace c:=zy c);have start:H_ (∃q:Nat,Value.int .i64 0=I_ q/\4-q<=4/\RSt w w1 s ds t (.slice G ds.length H) (.iface rT rx) xs q ((w1.alloc (.cells #[.slice G ds.length H,.iface rT rx] 55)).alloc (.cells #[.func (.func 44) #[] #[],.func (.func 45) #[] #[],.func (.func 46) #[] #[]] 121))):=by
    have a3:Fr w1 ((w1.alloc (.cells #[.slice G ds.length H,.iface rT rx] 55)).alloc (.cells #[.func (.func 44) #[] #[],.func (.func 45) #[] #[],.func (.func 46) #[] #[]] 121)) N_:=((A_ w1 _).alloc _).alloc _;refine zy ⟨0,rfl,M_,⟨by simp,a5,((A.o.trans c (λx hx e=>M_)).alloc _).alloc _,M_,⟨a1.o.1.fr a3 u_,a1.o.2.fr a3 u_⟩,λh=>M_,λh=>M_,λh=>M_,a3.bl R1 id,(B_ w1 #[.slice G ds.length H,.iface rT rx] 55).alloc _,⟨121,?_⟩⟩⟩;have:=B_ (w1.alloc (.cells #[.slice G ds.length H,.iface rT rx] 55)) #[.func (.func 44) #[] #[],.func (.func 45) #[] #[],.func (.func 46) #[] #[]] 121;simpa using this
   go_loopg [27] 4 (λm v W=>∃q:Nat,v=I_ q/\4-q<=m/\RSt w w1 s ds t (.slice G ds.length H) (.iface rT rx) xs q W);case atStart=>exact start
   case round=>
    obtain⟨q,rfl,hm,M⟩:=hrel;have hz:=M.z;have c:w.heap.size<wr.heap.size:=M_;obtain⟨lt,c⟩:=M.L;have b0:=M.B.c0;have b1:=M.B.c1;obtain⟨l0,l1,l2⟩:=c.d3;have c:q=0\/q=1\/q=2\/q=3:=by have:=M.q3;omega
    rcases c with rfl|rfl|rfl|rfl
    .have I:=M.d;have N:=zy (uf I.1 I.2 (V.m.fr M.al id) O.o.1 O.o.2.1 (λg hg=>M_));cases c:xY ds t with
     |nil=>
      replace c:=zy c;replace M:=zy M;go_wp2_with (go_at_call 44;apply N.o.mono;rintro e S ⟨v,rfl,A,hm⟩;rw[c.o]at hm;obtain rfl:=hm;have j:=zy ((M.o.chk A).next0 c));go_roundg 3;case measure=>omega
      case rel=>exact⟨1,rfl,l_,j⟩
     |cons x r=>
      replace C:=zy (show(zg s).1=3 by rw[C.o];simp only[c]);replace c:=zy c;replace M:=zy M;go_wp2_with (go_at_call 44;apply N.o.mono;rintro e S ⟨v,rfl,A,hm⟩;rw[c.o]at hm;obtain⟨g,U,rfl,D⟩:=hm;have j:=M.o.chk A;have a:=j.R;have r0:=a.c0;have r1:=a.c1;have X:=a.th 0;have Y:=a.th 1;replace a:=zy a;replace j:=zy j.al;replace A:=zy A;replace D:=zy D);have F:=X_ a (L_) .nilIface;have J:=F.c0;have K:=F.c1;refine bodyPost_ret (v:=.tuple #[.agg #[L_,.nilIface],.iface 179 (P_ g)]) (by simp[results,results29,go_sem,J,K]) rfl ?_;rw[T.o];have y:=Z_ S w.heap.size (L_) .nilIface;refine kI (p:=(x:Int)) j y (by rw[C.o];simp) ?_;rw[C.o];exact .inr (.inr (.inr (.inl ⟨rfl,g,M_,rfl,y.bl D (λe=>M_)⟩)))
    .have I:=M.d;have a0:=M.n M_;have N:=zy (pQ I.1 I.2 (V.u.fr M.al id) O.o.2.2.2.1 O.o.2.2.2.2.1 ⟨O.o.2.1,O.o.2.2.1⟩ (λg hg=>M_));cases c:xZ ds t with
     |nil=>
      replace c:=zy c;replace M:=zy M;go_wp2_with (go_at_call 45;apply N.o.mono;rintro e S ⟨v,rfl,A,hm⟩;rw[c.o]at hm;obtain rfl:=hm;have j:=zy ((M.o.chk A).next1 c));go_roundg 2;case measure=>omega
      case rel=>exact⟨2,rfl,l_,j⟩
     |cons x r=>
      replace C:=zy (show(zg s).1=4 by rw[C.o,a0];simp only[c]);replace c:=zy c;replace M:=zy M;go_wp2_with (go_at_call 45;apply N.o.mono;rintro e S ⟨v,rfl,A,hm⟩;rw[c.o]at hm;obtain⟨g,U,rfl,D⟩:=hm;have j:=M.o.chk A;have a:=j.R;have r0:=a.c0;have r1:=a.c1;have X:=a.th 0;have Y:=a.th 1;replace a:=zy a;replace j:=zy j.al;replace A:=zy A;replace D:=zy D);have F:=X_ a (L_) .nilIface;have J:=F.c0;have K:=F.c1;refine bodyPost_ret (v:=.tuple #[.agg #[L_,.nilIface],.iface 179 (P_ g)]) (by simp[results,results29,go_sem,J,K]) rfl ?_;rw[T.o];have y:=Z_ S w.heap.size (L_) .nilIface;refine kI (p:=(x:Int)) j y (by rw[C.o];simp) ?_;rw[C.o];exact .inr (.inr (.inr (.inr (.inl ⟨rfl,g,M_,rfl,y.bl D (λe=>M_)⟩))))
    .have I:=M.d;have a0:=M.n M_;have a4:=M.u M_;obtain⟨a6,a7⟩:=a8.o a0 a4;have N:=zy (fj (w0:=w) (rT:=rT) (rx:=rx) I.1 ((yg.refl w).fr M.al l_ (λ_ f=>f.elim)) M.al.size (λg hg=>M_) (λg hg=>M_) V.n hs O.o.2.2.2.1 a7 a6 hI hQ hN);cases c:kB s ds with
     |nil=>
      replace c:=zy c;replace M:=zy M;go_wp2_with (go_at_call 46;apply N.o.mono;rintro e S ⟨v,rfl,A,hm⟩;rw[c.o]at hm;obtain⟨rfl,O,V⟩:=hm;have j:=zy (M.o.next2 A c O V));go_roundg 1;case measure=>omega
      case rel=>exact⟨3,rfl,l_,j⟩
     |cons x r=>
      replace C:=zy (show(zg s).1=5 by rw[C.o,a0,a4];simp only[c]);replace c:=zy c;replace M:=zy M;go_wp2_with (go_at_call 46;apply N.o.mono;rintro e S ⟨v,rfl,A,hm⟩;rw[c.o]at hm;obtain⟨ev,⟨g,U,rfl,D⟩,c⟩:=hm;have j:=M.o.dft A;have a:=j.2;have r0:=a.c0;have r1:=a.c1;have X:=a.th 0;have Y:=a.th 1;replace a:=zy a;replace j:=zy j.1;replace D:=zy D;replace c:=zy c);have F:=X_ a (L_) .nilIface;have J:=F.c0;have K:=F.c1;refine bodyPost_ret (v:=.tuple #[.agg #[L_,.nilIface],.iface 179 (P_ g)]) (by simp[results,results29,go_sem,J,K]) rfl ?_;rw[T.o];have y:=Z_ S w.heap.size (L_) .nilIface;refine kI (p:=(x:Int)) j y (by rw[C.o];simp) ?_;rw[C.o];exact .inr (.inr (.inr (.inr (.inr ⟨rfl,ev,⟨g,M_,rfl,y.bl D (λe=>M_)⟩,(c.o.fr y (λg hg e=>M_)).ls M_⟩))))
    .have r0:=M.R.c0;have r1:=M.R.c1;have X:=M.R.th 0;have Y:=M.R.th 1;have F:=zy (X_ M.R (.slice G ds.length H) (.iface rT rx));replace M:=zy M;go_wp2;have J:=F.o.c0;have K:=F.o.c1;refine bodyPost_ret (v:=.tuple #[.agg #[.slice G ds.length H,.iface rT rx],.nilIface]) (by simp[results,results29,go_sem,J,K]) rfl ?_;rw[T.o];have y:=Z_ wr w.heap.size (.slice G ds.length H) (.iface rT rx);refine⟨_,_,_,rfl,⟨_,_,_,rfl⟩,.inr ⟨_,_,rfl⟩,M.o.al.trans y (λx hx e=>M_),⟨0,.inl ?_⟩,λ_=>?_⟩
     .rw[C.o,M.o.n M_,M.o.u M_,M.o.e M_];exact⟨rfl,rfl,rfl⟩
     .have up:∀g,w.heap.size+2<=g/\g<w1.heap.size->¬g=w.heap.size:=λg h=>by omega
      exact⟨ds,t,xs,hs,hp,M.o.n M_,M.o.u M_,(M.o.d.1.fr y up).mono (λg h1 Z=>⟨M_,h1⟩),(M.o.d.2.fr y up).mono (λg h1 Z=>⟨M_,h1⟩)⟩
end Go.Proofs.YtjkiencmjggakaaGreatDoor
