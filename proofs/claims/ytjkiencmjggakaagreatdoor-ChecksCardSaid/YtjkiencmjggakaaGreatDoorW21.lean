import Derived.Test.YtjkiencmjggakaaGreatDoorW20
set_option maxHeartbeats 16000000
set_option maxRecDepth 100000
set_option linter.unusedVariables false
set_option linter.defProp false
set_option linter.unusedSimpArgs false
open Go.Proofs.Tryz
namespace Go.Proofs.YtjkiencmjggakaaGreatDoor
open Go.RowKit
variable {S J:Nat->Prop}{W' V':World}{k q p m B:Nat}{v:Value}{cs:List Value}{t:PT}{s:BA}{D':DT->Prop}
inductive Qu where
 |ty (t:PT)
 |bd (p:Nat) (X:PB)
structure FD where
 fb:Nat
 tb:Nat
 mb:Nat
 tu:Nat
 mu:Nat
 P:Nat->Prop
 P':Nat->Prop
 s:BA
 s':BA
 ds:List PD
 ds':List PD
 sv:Value
 sv':Value
 sT:TypeId
 rT:TypeId
 sx:Value
 rx:Value
 xs:List Value
 xs':List Value
 w0:World
structure FD.OK(F:FD):Prop where
 hs:F.s.size<=300
 hs':F.s'.size<=300
 g:jy F.ds
 g':jy F.ds'
 e:qU (zx F.ds)
 e':qU (zx F.ds')
 n:∀c X,zx F.ds c=some X->zp c=true
 pP:∀x,F.P x->x<F.fb
 pP':∀x,F.P' x->x<F.fb
 pw:F.w0.heap.size<=F.fb
 mm:F.mb≠F.mu
structure FX(F:FD)(W:World):Prop where
 b:Blk W F.fb [F.sv,.iface F.sT F.sx,F.sv',.iface F.rT F.rx,P_ F.tb,P_ F.tu] 92
 D:xf W F.P F.s F.ds F.sv F.xs
 E:xf W F.P' F.s' F.ds' F.sv' F.xs'
 G:yg F.w0 W
def FX.fr{F:FD}(c:F.OK){W:World}(h:FX F W)(hf:Fr W W' S)(a:∀x,S x->F.fb<x):FX F W':=by
 have hw:=c.pw;have hb:=h.b.lt;exact⟨hf.bl h.b (λe=>absurd (a _ e) (a3_ _)),h.D.fr hf (λx hx e=>by have:=a x e;have:=c.pP x hx;omega),h.E.fr hf (λx hx e=>by have:=a x e;have:=c.pP' x hx;omega),h.G.fr hf M_ (λx e=>by have:=a x e;omega)⟩
def fJ:Qu->Nat
 | .ty t=>t.place
 | .bd p _=>p
def okQ(F:FD):Qu->Prop
 | .ty t=>kM F.s t/\okT (zx F.ds) t/\vu t
 | .bd p X=>pB F.s p X/\∃c,zx F.ds c=some X
def dI(F:FD):TI Qu:=ID (λq=>z_ (fJ q:Int)) (okQ F) fJ 300
def GS:Value->Option Value
 | .iface _ (.agg cs)=>cs[0]?
 | _=>none
def qvD(F:FD)(W:World):Qu->List Value->Prop
 | .ty t,v=>∃u,v=[u]/\TyV W F.P t u
 | .bd p X,v=>∃u,v=[u]/\ye W F.P F.s X u/\GS u=some (z_ (p:Int))
def QT(F:FD):Qu->PT->Prop
 | .ty t,u=>u=t
 | .bd _ X,u=>∃c p,u=.leaf c p/\zu c=false/\zx F.ds c=some X
def svD(F:FD)(W:World)(J:Nat->Prop)(D:DT->Prop)(A:PT->Prop)(n:Nat)(d:Value):Prop:=
 (n=0\/n=301->d=.nilIface)/\(n≠0->∃x,D x/\nd3 x=n/\(n<=300->∀u,A u->DaV (zx F.ds) W J x u d))
def QD(F:FD)(q:Qu)(x:DT):Prop:=∀u,QT F q u->Dat (zx F.ds) x u
def gz{α:Type}(T:List (Rw α))(a:α)(k:Nat):Prop:=∃r∈T,r.a=a/\r.n=k
def ClD(F:FD)(T:List (Rw Qu)):Qu->Nat->Prop
 | .ty (.leaf c _),v=>if zu c=true then v=1 else ∃p X,zx F.ds c=some X/\gz T (.bd p X) v
 | .ty (.wrap _ _ _),v=>v=1
 | .ty (.alts _ l),v=>∀t∈l,∃k,gz T (.ty t) k/\le0 v (jnN [k])
 | .bd _ (.recd fs),v=>∃ks:List Nat,ks.length=fs.length/\(∀(q:Nat) (f:PF) (k:Nat),fs[q]?=some f->ks[q]?=some k->gz T (.ty f.ty) k)/\v=jnN ks
 | .bd _ _,v=>v=1
def dT(F:FD):TP Qu Unit:=⟨λW _=>FX F W,λ_ _=>False,λW J a n d=>svD F W J (QD F a) (QT F a) n d,λW a v=>qvD F W a v/\okQ F a,ClD F⟩
def dL(F:FD):TL:=⟨F.fb,F.tb,F.mb,.func (.methodOf 53 "Place") #[] #[],.func (.func 48) #[P_ F.fb] #[]⟩
def gz.more{α:Type}{T:List (Rw α)}{a:α}(h:gz T a k)(R:List (Rw α)):gz (T++R) a k:=by
 obtain⟨r,h1,b,c⟩:=h;exact⟨r,bu_ _ h1,b,c⟩
def QX(F:FD):Vl (ClD F):=by
 intro T R a v h;cases a with
 |ty t=>
  cases t with
  |leaf c p=>
   simp only[ClD]at *;split
   .rename_i hc;rw[i_ hc]at h;exact h
   .rename_i hc;rw[n_ hc]at h;obtain⟨p,X,h1,b⟩:=h;exact⟨p,X,h1,b.more R⟩
  |wrap c p t=>exact h
  |alts p l=>
   intro t u;obtain⟨k,h1,b⟩:=h t u;exact⟨k,h1.more R,b⟩
 |bd p X=>
  cases X with
  |recd fs=>
   obtain⟨ks,h1,b,j⟩:=h;exact⟨ks,h1,λq f k e e'=>(b q f k e e').more R,j⟩
  |enum l o=>exact h
  |bytes n=>exact h
def DaV.other{env:Nat->Option PB}{W:World}{d:DT}{T:Nat}(h:DaV env W J d t v)(hb:Blk W q cs T)(h1:T≠59)(b:T≠234)(hf:Fr W W' (λx=>x=q)):DaV env W' J d t v:=by
 have no:∀{e k n lv ys},W.ownsRow 0 e k lv n ys->T≠e->∀g,lv.ownBlock=some g->¬g=q:=λ{e k n lv ys} ho hT g hg eq=>by
  subst eq;rcases ho.2 with⟨e',_⟩|⟨g',cap,c,e',_,a,_⟩
  .subst e';simp[Value.ownBlock]at hg
  .subst e';simp only[Value.ownBlock,ah_]at hg;subst hg;unfold Blk at hb;rw[hb]at a;simp only[ah_,Obj.cells.injEq]at a;exact hT a.2.1
 induction h with
 |flat h hs=>exact .flat h hs
 |branch n h hd ih=>exact .branch n h ih
 |row Y hc ho hP hd ih=>exact .row Y hc (zj ho hf (no ho h1)) hP ih
 |map Y hl hk ho hP hd ih=>exact .map Y hl hk (zj ho hf (no ho b)) hP ih
def svD.stp{F:FD}{W:World}{S':Nat->Prop}{D:DT->Prop}{A:PT->Prop}{n:Nat}{d:Value}(h:svD F W (λx=>¬S x) D A n d)(hs:Stp W W' S S'):svD F W' (λx=>¬S' x) D A n d:=by
 refine⟨h.1,λe=>?_⟩;obtain⟨x,h1,a,b⟩:=h.2 e;refine⟨x,h1,a,λe' u hu=>?_⟩;have c:DaV (zx F.ds) W (λx=>¬S x/\x<W.heap.size) x u d:=(b e' u hu).mono (λg h1 a=>⟨a,h1⟩);exact(c.fr hs.1 (λg hg=>hg.1)).mono (λg _ hg e=>hg.1 (hs.2 g hg.2 e))
def svD.put{F:FD}{W:World}{D:DT->Prop}{A:PT->Prop}{n T:Nat}{d:Value}(h:svD F W J D A n d)(hb:Blk W q cs T)(h1:T≠59)(a:T≠234)(hf:Fr W W' (λx=>x=q)):svD F W' J D A n d:=by
 refine⟨h.1,λe=>?_⟩;obtain⟨x,b,c,f⟩:=h.2 e;exact⟨x,b,c,λe' u hu=>(f e' u hu).other hb h1 a hf⟩
def qvD.fr{F:FD}(b:F.OK){W:World}{a:Qu}{v:List Value}(h:qvD F W a v)(hf:Fr W W' S)(c:∀x,S x->F.fb<x):qvD F W' a v:=by
 have hP:∀x,F.P x->¬S x:=λx hx e=>by have:=c x e;have:=b.pP x hx;omega
 cases a with
 |ty t=>
  obtain⟨u,rfl,h⟩:=h;exact⟨u,rfl,h.fr hf hP⟩
 |bd p X=>
  obtain⟨u,rfl,h,hp⟩:=h;exact⟨u,rfl,h.fr hf hP,hp⟩
def mw(h:kM s t):t.place<s.size:=by
 obtain⟨j,h⟩:=h;by_cases hi:t.place<=s.size
 .have:=(xx hi).1 _ _ h;omega
 .rw[kP]at h;unfold vP at h;rw[kK M_]at h;simp[zu,zp]at h
def Jn{X:PB}(h:pB s p X):p<s.size:=by
 obtain⟨j,h⟩:=h;unfold yZ at h;by_cases hi:p<s.size
 .exact hi
 .rw[kK M_]at h;simp at h
def eZ{F:FD}(f:F.OK):(dI F).OK where
 tt:=by show 197≠260;decide
 keyed:=Maps.int_keyed qz
 key:=λa ha=>⟨_,Maps.keyOf_int_mk qz (WalkArith.wf_i64 (by
  have:fJ a<300:=by
   cases a with
   |ty t=>have:=mw ha.1;have:=f.hs;show t.place<300;omega
   |bd p X=>have:=Jn ha.1;have:=f.hs;show p<300;omega
  omega))⟩
 kinj:=λa b ha hb e=>by
  have e':fJ a=fJ b:=by
   have:Value.int .i64 (fJ a:Int)=.int .i64 (fJ b:Int):=e;simp only[Value.int.injEq,true_and]at this;omega
  exact dInj ha hb e'
 lt:=λa ha=>by
  cases a with
  |ty t=>have:=mw ha.1;have:=f.hs;show t.place<300;omega
  |bd p X=>have:=Jn ha.1;have:=f.hs;show p<300;omega
 inj:=λa b ha hb e=>dInj ha hb e
 where
 dInj:∀{a b:Qu},okQ F a->okQ F b->fJ a=fJ b->a=b:=by
  intro a b ha hb e;cases a with
  |ty t=>
   cases b with
   |ty t'=>
    obtain⟨j,h1⟩:=ha.1;obtain⟨j',c⟩:=hb.1;have e':t.place=t'.place:=e;rw[e',c]at h1;cases h1;rfl
   |bd p X=>
    obtain⟨j,c⟩:=hb.1;have e':t.place=p:=e;subst e';exact(cr ha.1 c).elim
  |bd p X=>
   cases b with
   |ty t'=>
    obtain⟨j,c⟩:=ha.1;have e':p=t'.place:=e;subst e';exact(cr hb.1 c).elim
   |bd p' X'=>
    obtain⟨j,h1⟩:=ha.1;obtain⟨j',c⟩:=hb.1;have e':p=p':=e;subst e';rw[h1]at c;cases c;rfl
def gc{F:FD}(b:F.OK):(dT F).OK (dI F) (dL F) where
 rs:=λW r x _ h=>h.elim
 rfr:=λW W' r rv g T h l hf=>h.fr b hf (λx hx=>(l.li hx).1)
 rnew:=λW W' r h hf=>h.fr b hf (λ_ f=>f.elim)
 sv:=λW W' S S' a n d h hs=>svD.stp h hs
 qv:=λW W' S a v h hf c=>⟨qvD.fr b h.1 hf c,h.2⟩
 mono:=QX F
 z:=λW J a=>⟨λ_=>rfl,λe=>absurd rfl e⟩
 put:=λW W' r q cs j h _ hf=>h.fr b hf (λx e=>e▸j)
 svp:=λW W' J a n d q cs h hb hf=>svD.put h hb D_ D_ hf
 tt:=⟨by show 197≠_;decide,by show 260≠_;decide⟩
def cm{W:World}{P:Nat->Prop}{X:PB}(h:ye W P s X v):∃p T x,v=.iface T x/\pB s p X/\GS v=some (I_ p)/\∀W,(method 525 T x "Place").run prog W=.ok (70,I_ p) W:=by
 cases h with
 |recd p ho hP h hp=>exact⟨p,_,_,rfl,hp,rfl,λW=>K_⟩
 |enum p ho hP h hp=>exact⟨p,_,_,rfl,hp,rfl,λW=>K_⟩
 |bytes p n hp=>exact⟨p,_,_,rfl,hp,rfl,λW=>K_⟩
def aw{F:FD}(b:F.OK){W:World}{a:Qu}{v:List Value}(h:qvD F W a v)(ha:okQ F a):FO (λq=>z_ (fJ q:Int)) a v:=by
 cases a with
 |ty t=>
  obtain⟨u,rfl,h⟩:=h;obtain⟨T,x,rfl⟩:=h.iface;have:=mw ha.1;have:=b.hs;exact⟨T,x,t.place,rfl,rfl,M_,kA h⟩
 |bd p X=>
  obtain⟨u,rfl,h,hp⟩:=h;obtain⟨p',T,x,rfl,_,c,f⟩:=cm h;rw[c]at hp;have e:(p':Int)=(p:Int):=by simpa using hp
  obtain rfl:p'=p:=M_;have:=Jn ha.1;have:=b.hs;exact⟨T,x,p',rfl,rfl,M_,f⟩
def eE{F:FD}{T:List (Rw Qu)}(h:Gd (ClD F) T):ClT (zx F.ds) (λt n=>gz T (.ty t) n) where
 one:=λt n hk ha hr=>by
  obtain⟨r,f,j,rfl⟩:=hk;obtain⟨v,h1,e⟩:=h r f;have a:=gU e;rw[j]at h1;cases t with
  |alts p l=>cases ha
  |wrap c p t=>
   have:v=1:=h1;rw[this]at a;exact a
  |leaf c p=>
   simp only[ClD]at h1;split at h1
   .rw[h1]at a;exact a
   .rename_i hb;obtain⟨p',X,u,r',x,y,rfl⟩:=h1;obtain⟨z,b,w⟩:=h r' x;rw[y]at b;refine a.trans ((gU w).trans ?_);cases X with
    |recd fs=>exact absurd u (hr c p fs rfl (by simpa using hb))
    |enum l o=>
     have:z=1:=b;rw[this];exact .refl 1
    |bytes n=>
     have:z=1:=b;rw[this];exact .refl 1
 recd:=λc p n fs hk hb he=>by
  obtain⟨r,f,j,rfl⟩:=hk;obtain⟨v,h1,e⟩:=h r f;rw[j]at h1;simp only[ClD]at h1;rw[n_ (by simp[hb])]at h1;obtain⟨p',X,u,r',x,y,rfl⟩:=h1;rw[he]at u;cases u;obtain⟨z,b,w⟩:=h r' x;rw[y]at b;obtain⟨ks,H,K,M⟩:=b;rw[M]at w;exact⟨ks,H,K,(gU e).trans (gU w)⟩
 alts:=λp l n hk t G=>by
  obtain⟨r,f,j,rfl⟩:=hk;obtain⟨v,h1,e⟩:=h r f;rw[j]at h1;obtain⟨k,a,E⟩:=h1 t G;exact⟨k,a,(gU e).trans E⟩
def kG(V:World)(S:Nat->Prop)(q:Nat)(cs:List Value)(T:TypeId):Prop:=Blk V q cs T/\¬S q
def kG.stp{V:World}{S':Nat->Prop}{T:TypeId}(h:kG V S q cs T)(hs:Stp V V' S S'):kG V' S' q cs T:=⟨hs.1.bl h.1 h.2,λe=>h.2 (hs.2 q h.1.lt e)⟩
def kG.new{V:World}{T:TypeId}(h:kG V S q cs T)(hf:Fr V V' N_):kG V' S q cs T:=⟨hf.bl h.1 id,h.2⟩
def kG.other{V:World}{T:TypeId}(h:kG V S q cs T)(hf:Fr V V' (λx=>x=p))(hp:q≠p):kG V' S q cs T:=⟨hf.bl h.1 hp,h.2⟩
def tU(ks:List Nat):jnN ks<=301:=by
 unfold jnN;split
 .omega
 .split<;>omega
def ZL{n m:Nat}:le0 (if btr m n=true then m else n) n/\le0 (if btr m n=true then m else n) m:=by
 by_cases h:btr m n=true
 .rw[i_ h];have:=Yx h;unfold le0;omega
 .rw[n_ h];exact⟨.refl n,gU (by simpa using h)⟩
def iB(h:jnN [k]≠0):k≠0:=λe=>by subst e;exact h rfl
def svD.branch{F:FD}{W:World}{D:DT->Prop}{i:Nat}{l:List PT}{kd:Value}(h:svD F W J D (λu=>u=t) k kd)(hl:l[i]?=some t)(hi:i<=300)(f:∀x,D x->D' (.mk 40 (i:Int) noB [] [x]))(h0:jnN [k]=0\/jnN [k]=301->v=.nilIface)(h1:1<=jnN [k]->jnN [k]<=300->BrR i kd v):svD F W J D' (λu=>u=.alts p l) (jnN [k]) v:=by
 refine⟨h0,λe=>?_⟩;obtain⟨x,d1,b,d3⟩:=h.2 (iB e);have c:jnN [k]=nd3 (.mk 40 (i:Int) noB [] [x]):=by rw[<- b];exact mB (ds:=[x])
 refine⟨_,f x d1,c.symm,λa u hu=>?_⟩;subst hu;rw[h1 M_ a];refine .branch i M_ ?_;have:xQ (zx F.ds) (.alts p l) i 0=t:=by
  show l.getD i (.leaf 0 0)=t;rw[ap_,hl];rfl
 rw[this];refine d3 ?_ t rfl;unfold jnN at a;split at a
 .rename_i h;simp at h;omega
 .split at a
  .omega
  .simp at a;omega
section
variable {α ρ:Type} {P:TP α ρ} {I:TI α} {L:TL} {F:FD}
structure LB(P:TP α ρ)(I:TI α)(L:TL)(F:FD)(D:DT->Prop)(A:PT->Prop)(qs:List α)(W:World)(r:ρ)(rv:Value)(g:Bool)(T:List (Rw α))(i n:Nat)(d:Value)(V:World)(r':ρ)(rv':Value)(g':Bool)(T':List (Rw α)):Prop where
 ti:TbI P I L V r' rv' g' T'
 st:Stp W V (TSS P L rv r) (TSS P L rv' r')
 gr:Grw P.Cl T T' g g'
 cl:∀q∈qs.take i,∃k,gz T' q k/\le0 n (jnN [k])
 nl:n<=301
 dl:IfV d
 vl:svD F V (λy=>¬TSS P L rv' r' y) D A n d
variable {D:DT->Prop} {A:PT->Prop} {qs:List α} {W V V1 V2:World} {r r' r1:ρ} {rv rv' rv1:Value} {g g' g1:Bool} {T T' T1:List (Rw α)} {i n:Nat} {d:Value}
def LB.start(a:P.OK I L)(h:TbI P I L W r rv g T)(hf:Fr W V N_):LB P I L F D A qs W r rv g T 0 0 .nilIface V r rv g T:=
 ⟨h.new a hf,E_ hf (λ_ h=>h),Grw.refl _ _,λq b=>by simp at b,M_,.inl rfl,λ_=>rfl,λe=>absurd rfl e⟩
def LB.new(a:P.OK I L)(h:LB P I L F D A qs W r rv g T i n d V r' rv' g' T')(hf:Fr V V1 N_):LB P I L F D A qs W r rv g T i n d V1 r' rv' g' T':=
 ⟨h.ti.new a hf,h.st.trans (E_ hf (λ_ h=>h)),h.gr,h.cl,h.nl,h.dl,h.vl.stp (E_ hf (λ_ h=>h))⟩
def LB.put(a:P.OK I L)(h:LB P I L F D A qs W r rv g T i n d V r' rv' g' T')(b:L.fb<q)(hw:W.heap.size<=q)(hb:Blk V q cs 88)(hf:Fr V V1 (λx=>x=q)):LB P I L F D A qs W r rv g T i n d V1 r' rv' g' T':=
 ⟨h.ti.put a b hb hf,⟨h.st.1.trans hf (λx hx e=>M_),h.st.2⟩,h.gr,h.cl,h.nl,h.dl,h.vl.put hb D_ D_ hf⟩
def LB.step(b:P.OK I L){q:α}{x:Rw α}(h:LB P I L F D A qs W r rv g T i n d V r' rv' g' T')(f:qs[i]?=some q)(hx:x∈T1)(ha:x.a=q)(l:TbI P I L V1 r1 rv1 g1 T1)(hs:Stp V V1 (TSS P L rv' r') (TSS P L rv1 r1))(hg:Grw P.Cl T' T1 g' g1)(hv:IfV v)(j:svD F V1 (λy=>¬TSS P L rv1 r1 y) D A (jnN [x.n]) v):LB P I L F D A qs W r rv g T (i+1) (if btr (jnN [x.n]) n=true then jnN [x.n] else n) (if btr (jnN [x.n]) n=true then v else d) V1 r1 rv1 g1 T1:=by
 have e:=hg;obtain⟨R,c,_⟩:=e;have hb:=@ZL n (jnN [x.n]);refine⟨l,h.st.trans hs,h.gr.trans b.mono hg,λp hp=>?_,?_,?_,?_⟩
 .rw[bf_,f]at hp;rcases a2_.1 hp with hp|hp
  .obtain⟨k,o,u⟩:=h.cl p hp;exact⟨k,by rw[c];exact o.more R,hb.1.trans u⟩
  .simp only[Option.toList_some,a1_]at hp;subst hp;exact⟨x.n,⟨x,hx,ha,rfl⟩,hb.2⟩
 .split
  .exact tU _
  .exact h.nl
 .split
  .exact hv
  .exact h.dl
 .split
  .exact j
  .exact h.vl.stp hs
structure BFM(P:TP α ρ)(I:TI α)(L:TL)(F:FD)(D:DT->Prop)(A:PT->Prop)(qs:List α)(c0:List Value)(T0:TypeId)(W:World)(r:ρ)(rv:Value)(g:Bool)(T:List (Rw α))(i n:Nat)(d:Value)(V:World)(r':ρ)(rv':Value)(g':Bool)(T':List (Rw α)):Prop where
 b:LB P I L F D A qs W r rv g T i n d V r' rv' g' T'
 o0:kG V (TSS P L rv' r') W.heap.size c0 T0
 o1:kG V (TSS P L rv' r') (W.heap.size+1) [O_,.nilIface] 88
 o2:kG V (TSS P L rv' r') (W.heap.size+2) [I_ n,d] 88
 f:L.fb<W.heap.size
variable {c0:List Value} {T0:TypeId}
def BFM.start(a:P.OK I L)(h:TbI P I L W r rv g T)(cs:Array Value)(T0:TypeId):BFM P I L F D A qs cs.toList T0 W r rv g T 0 0 .nilIface (((W.alloc (.cells cs T0)).alloc (.cells #[O_,.nilIface] 88)).alloc (.cells #[O_,.nilIface] 88)) r rv g T:=by
 have hl:=λx (hx:TSS P L rv r x)=>(h.li a hx);have b:=zi W (.cells cs T0);have c:=zi (W.alloc (.cells cs T0)) (.cells #[O_,.nilIface] 88);have b1:=(B_ (W.alloc (.cells cs T0)) #[O_,.nilIface] 88).alloc (.cells #[O_,.nilIface] 88);have b2:=B_ ((W.alloc (.cells cs T0)).alloc (.cells #[O_,.nilIface] 88)) #[O_,.nilIface] 88;rw[b]at b1;rw[c,b]at b2;have hb:=hl L.tb (.inl (.inl rfl));exact⟨.start a h ((((A_ W _).alloc _).alloc _).alloc _),⟨((B_ W cs T0).alloc _).alloc _,λe=>by have:=hl _ e;omega⟩,⟨b1,λe=>by have:=hl _ e;omega⟩,⟨b2,λe=>by have:=hl _ e;omega⟩,M_⟩
def BFM.new(a:P.OK I L)(h:BFM P I L F D A qs c0 T0 W r rv g T i n d V r' rv' g' T')(hf:Fr V V1 N_):BFM P I L F D A qs c0 T0 W r rv g T i n d V1 r' rv' g' T':=
 ⟨h.b.new a hf,h.o0.new hf,h.o1.new hf,h.o2.new hf,h.f⟩
def BFM.step(j:P.OK I L){q:α}{x:Rw α}{c:World}(h:BFM P I L F D A qs c0 T0 W r rv g T i n d V r' rv' g' T')(u:qs[i]?=some q)(hx:x∈T1)(ha:x.a=q)(z:TbI P I L V1 r1 rv1 g1 T1)(hs:Stp V V1 (TSS P L rv' r') (TSS P L rv1 r1))(hg:Grw P.Cl T' T1 g' g1)(hf:Fr V1 c N_)(hv:IfV v)(w:svD F c (λy=>¬TSS P L rv1 r1 y) D A (jnN [x.n]) v):BFM P I L F D A qs c0 T0 W r rv g T (i+1) (if btr (jnN [x.n]) n=true then jnN [x.n] else n) (if btr (jnN [x.n]) n=true then v else d) ((c.setCell ⟨W.heap.size+2,0,none⟩ (z_ ((if btr (jnN [x.n]) n=true then jnN [x.n] else n:Nat):Int))).setCell ⟨W.heap.size+2,1,none⟩ (if btr (jnN [x.n]) n=true then v else d)) r1 rv1 g1 T1:=by
 have e:=hs.trans (E_ (S:=TSS P L rv1 r1) hf (λ_ h=>h));have h1:=h.b.step j u hx ha (z.new j hf) e hg hv w;have o2:=h.o2.stp e;have l:=V_ c (W.heap.size+2) 0 1 (z_ ((if btr (jnN [x.n]) n=true then jnN [x.n] else n:Nat):Int)) (if btr (jnN [x.n]) n=true then v else d);have o:=h.f;exact⟨h1.put j M_ M_ o2.1 l,(h.o0.stp e).other l M_,(h.o1.stp e).other l M_,⟨(o2.1.set 0 _).set 1 _,o2.2⟩,o⟩
def BFM.fin(c:P.OK I L){a:α}(h:BFM P I L F D A qs c0 T0 W r rv g T i n d V r' rv' g' T')(hc:P.Cl T' a n)(j:∀V' J,svD F V' J D A n d->P.SV V' J a n d):yi P I L W r rv g T a (.returned (.agg #[I_ n,d])) ((V.setCell ⟨W.heap.size+1,0,none⟩ (I_ n)).setCell ⟨W.heap.size+1,1,none⟩ d):=by
 have e:=V_ V (W.heap.size+1) 0 1 (I_ n) d;have l:=h.f;have h1:=h.b.put c M_ M_ h.o1.1 e;exact⟨r',rv',g',T',n,d,rfl,h.b.nl,h.b.dl,h1.ti,h1.st,h1.gr,hc,j _ _ h1.vl⟩
end
def FX.cell4{F:FD}{W:World}(h:FX F W):W.cell? ⟨F.fb,4,none⟩=some (P_ F.tb):=h.b.cell 4
def cq1_{p:Prop}(h:p:=by
 (first|(have:=cc1;obtain⟨a5,Q_⟩:∃R,H_ (R=yi (uT F) (uI F) (uL F) W r rv g T (.alts p l,y)):=⟨_,rfl⟩)|(obtain⟨a5,Q_⟩:∃R,H_ (R=yi (dT F) (dI F) (dL F) W r rv g T (.ty (.alts p l))):=⟨_,rfl⟩));rw[<- Q_.o];(first|(have:=cc1;have E:=vo H)|(have E:=gc H));obtain⟨ua,uc,rfl⟩:=zl ho;(first|(have:=cc1;obtain⟨w3,a1⟩:∃V,V=((W.alloc (.cells #[.slice ua l.length uc,.iface bT bx] 273)).alloc (.cells #[O_,.nilIface] 88)).alloc (.cells #[O_,.nilIface] 88):=⟨_,rfl⟩)|(obtain⟨w3,a1⟩:∃V,V=((W.alloc (.cells #[I_ p,.slice ua l.length uc] 210)).alloc (.cells #[O_,.nilIface] 88)).alloc (.cells #[O_,.nilIface] 88):=⟨_,rfl⟩));(first|(have:=cc1;obtain⟨j,w⟩:∃B,B=BFM (uT F) (uI F) (uL F) F (UD F (.alts p l,y)) (UA (.alts p l,y)) (l.map λt=>(t,y)) [.slice ua l.length uc,.iface bT bx] 273 W r rv g T:=⟨_,rfl⟩)|(obtain⟨j,w⟩:∃B,B=BFM (dT F) (dI F) (dL F) F (QD F (.ty (.alts p l))) (QT F (.ty (.alts p l))) (l.map Qu.ty) [I_ p,.slice ua l.length uc] 210 W r rv g T:=⟨_,rfl⟩));(first|(have:=cc1;have start:j 0 0 .nilIface w3 r rv g T:=by rw[a1,w];exact .start E h #[.slice ua l.length uc,.iface bT bx] 273)|(have start:j 0 0 .nilIface w3 r rv g T:=by rw[a1,w];exact .start E h #[I_ p,.slice ua l.length uc] 210))
 (first|(have:=cc1;have c1:=(show BFM (uT F) (uI F) (uL F) F _ _ _ _ _ W r rv g T _ _ _ _ _ _ _ _ from w▸start).o0.1.c0)|(have c1:=(show BFM (dT F) (dI F) (dL F) F _ _ _ _ _ W r rv g T _ _ _ _ _ _ _ _ from w▸start).o0.1.c1));have d6:l.length<=300:=by
  have:=hq.2.2;unfold vu at this;exact this.1
 (first|(have:=cc1;have a0:∀x,TSS (uT F) (uL F) rv r x->F.fb<x:=λx e=>(h.li E e).1)|(have a0:∀x,TSS (dT F) (dL F) rv r x->F.fb<x:=λx e=>(h.li E e).1))
 first
  |have:=cc1
   have item:H_ (∀V r' rv' g' T' (i n:Nat) d t,j i n d V r' rv' g' T'->l[i]?=some t->(∃b,ua=some ⟨b,0,none⟩/\V.cell? ⟨b,i,none⟩=some (X i))/\(∃vT vx,X i=.iface vT vx)/\V.cell? ⟨F.fb,5,none⟩=some (P_ F.tu)/\V.cell? ⟨W.heap.size+2,0,none⟩=some (I_ n)/\V.cell? ⟨W.heap.size+2,1,none⟩=some d/\V.cell? ⟨W.heap.size,1,none⟩=some (.iface bT bx)/\Calls prog 52 #[P_ F.tu,.agg #[X i,.iface bT bx]] V (vN (uT F) (uI F) (uL F) V r' rv' g' T' (t,y))):=zy (λV r' rv' g' T' i n d t M f=>by
    rw[w]at M
    have hf:=M.b.st.1
    have hs:∀x,F.P x->¬TSS (uT F) (uL F) rv r x:=λx hx e=>by have:=a0 x e;have:=H.pP x hx;omega
    have hi:=(ae_.1 f).1
    have o1:=zj ho hf (λx e=>hs x (hP x e))
    obtain⟨b,cap,e⟩:=zm o1 M_
    cases e
    have ty:=(hX i t f).fr hf hs
    have d2:=hy.fr hf (λx hx e=>by have:=a0 x e;have:=H.pP' x hx;omega)
    have b9:=M.o0.1.c1
    have Z:=aj_ f
    have hk:=hq.2.1
    unfold okT at hk
    have hw:=hq.2.2
    unfold vu at hw
    have ok:okQ F (.ty t):=⟨hq.1.alts t Z,(vp hk.2 t Z).2,qR hw.2 t Z⟩
    obtain⟨R,hR,_⟩:=M.b.gr
    obtain⟨vT,vx,N⟩:=ty.iface
    have c:V.cell? ⟨b,i,none⟩=some (X i):=zr o1 rfl (by simp[hi])
    have a7:=M.o2.1.c0
    have a8:=M.o2.1.c1
    exact⟨⟨b,rfl,c⟩,⟨vT,vx,N⟩,M.b.ti.i.1.i.cell5,a7,a8,b9,hK V r' rv' g' T' (t,y) [X i,.iface bT bx] M.b.ti ⟨ok,hqy⟩ ⟨⟨_,_,rfl,ty,d2⟩,ok,hqy⟩ (by rw[hR,ai_];show 90000<=_;omega)⟩)
  |have item:H_ (∀V r' rv' g' T' (i n:Nat) d t,j i n d V r' rv' g' T'->l[i]?=some t->(∃b,ua=some ⟨b,0,none⟩/\V.cell? ⟨b,i,none⟩=some (X i))/\(∃uT ux,X i=.iface uT ux)/\V.cell? ⟨F.fb,4,none⟩=some (P_ F.tb)/\V.cell? ⟨W.heap.size+2,0,none⟩=some (I_ n)/\V.cell? ⟨W.heap.size+2,1,none⟩=some d/\Calls prog 78 #[P_ F.tb,X i] V (vN (dT F) (dI F) (dL F) V r' rv' g' T' (.ty t))):=zy (λV r' rv' g' T' i n d t M f=>by
    rw[w]at M
    have hf:=M.b.st.1
    have hs:∀x,F.P x->¬TSS (dT F) (dL F) rv r x:=λx hx e=>by have:=a0 x e;have:=H.pP x hx;omega
    have hi:=(ae_.1 f).1
    have o1:=zj ho hf (λx e=>hs x (hP x e))
    obtain⟨b,cap,e⟩:=zm o1 M_
    cases e
    have ty:=(hX i t f).fr hf hs
    have Z:=aj_ f
    have hk:=hq.2.1
    unfold okT at hk
    have hw:=hq.2.2
    unfold vu at hw
    have ok:okQ F (.ty t):=⟨hq.1.alts t Z,(vp hk.2 t Z).2,qR hw.2 t Z⟩
    obtain⟨R,hR,_⟩:=M.b.gr
    obtain⟨uT,ux,N⟩:=ty.iface
    have c:V.cell? ⟨b,i,none⟩=some (X i):=zr o1 rfl (by simp[hi])
    have a7:=M.o2.1.c0
    have a8:=M.o2.1.c1
    exact⟨⟨b,rfl,c⟩,⟨uT,ux,N⟩,M.b.ti.i.cell4,a7,a8,hK V r' rv' g' T' (.ty t) [X i] M.b.ti ok ⟨⟨_,rfl,ty⟩,ok⟩ (by rw[hR,ai_];show 300<=_;omega)⟩)
 first
  |have:=cc1
   have next:H_ (∀V r' rv' g' T' (i n:Nat) d t V1 r1 rv1 g1 T1 (x:Rw (PT×PT)) U v,j i n d V r' rv' g' T'->l[i]?=some t->x∈T1->x.a=(t,y)->TbI (uT F) (uI F) (uL F) V1 r1 rv1 g1 T1->Stp V V1 (TSS (uT F) (uL F) rv' r') (TSS (uT F) (uL F) rv1 r1)->Grw (uT F).Cl T' T1 g' g1->Fr V1 U N_->IfV v->(jnN [x.n]=0\/jnN [x.n]=301->v=.nilIface)->(1<=jnN [x.n]->jnN [x.n]<=300->BrR i x.d v)->
    j (i+1) (if btr (jnN [x.n]) n=true then jnN [x.n] else n) (if btr (jnN [x.n]) n=true then v else d) ((U.setCell ⟨W.heap.size+2,0,none⟩ (z_ ((if btr (jnN [x.n]) n=true then jnN [x.n] else n:Nat):Int))).setCell ⟨W.heap.size+2,1,none⟩ (if btr (jnN [x.n]) n=true then v else d)) r1 rv1 g1 T1):=zy (λV r' rv' g' T' i n d t V1 r1 rv1 g1 T1 x U v M f hx ha hT hs hg hf hv h0 h1=>by
    rw[w]at M⊢
    have hi:=(ae_.1 f).1
    refine M.step E (q:=(t,y)) (by rw[aq_,f];rfl) hx ha hT hs hg hf hv ?_
    have a2:=((hT.new E hf).v x hx).1
    rw[ha]at a2
    exact svD.branch a2 f M_ (λz hz=>.alts0 M_ f hz) h0 h1)
  |have next:H_ (∀V r' rv' g' T' (i n:Nat) d t V1 r1 rv1 g1 T1 (x:Rw Qu) U v,j i n d V r' rv' g' T'->l[i]?=some t->x∈T1->x.a=.ty t->TbI (dT F) (dI F) (dL F) V1 r1 rv1 g1 T1->Stp V V1 (TSS (dT F) (dL F) rv' r') (TSS (dT F) (dL F) rv1 r1)->Grw (dT F).Cl T' T1 g' g1->Fr V1 U N_->IfV v->(jnN [x.n]=0\/jnN [x.n]=301->v=.nilIface)->(1<=jnN [x.n]->jnN [x.n]<=300->BrR i x.d v)->
    j (i+1) (if btr (jnN [x.n]) n=true then jnN [x.n] else n) (if btr (jnN [x.n]) n=true then v else d) ((U.setCell ⟨W.heap.size+2,0,none⟩ (z_ ((if btr (jnN [x.n]) n=true then jnN [x.n] else n:Nat):Int))).setCell ⟨W.heap.size+2,1,none⟩ (if btr (jnN [x.n]) n=true then v else d)) r1 rv1 g1 T1):=zy (λV r' rv' g' T' i n d t V1 r1 rv1 g1 T1 x U v M f hx ha hT hs hg hf hv h0 h1=>by
    rw[w]at M⊢
    have hi:=(ae_.1 f).1
    refine M.step E (q:=.ty t) (by rw[aq_,f];rfl) hx ha hT hs hg hf hv ?_
    have a2:=((hT.new E hf).v x hx).1
    rw[ha]at a2
    exact svD.branch a2 f M_ (λy hy u hu=>by rw[show u=PT.alts p l from hu];exact .alts M_ f (hy t rfl)) h0 h1)
 first
  |have:=cc1
   have fin:H_ (∀V r' rv' g' T' n d,j l.length n d V r' rv' g' T'->a5 (.returned (.agg #[I_ n,d])) ((V.setCell ⟨W.heap.size+1,0,none⟩ (I_ n)).setCell ⟨W.heap.size+1,1,none⟩ d)/\Blk V (W.heap.size+1) [O_,.nilIface] 88/\Blk V (W.heap.size+2) [I_ n,d] 88/\IfV d):=zy (λV r' rv' g' T' n d M=>by
    rw[w]at M
    rw[Q_.o]
    refine⟨M.fin E ?_ (λ_ _ h=>h),M.o1.1,M.o2.1,M.b.dl⟩
    refine⟨λp' d7 e t f=>?_,λe=>(by cases e),λc p p' u u' e=>(by cases e),λc p p' lw lr ow o q e=>(by cases e),λc p p' fw fr g i h e=>(by cases e),λc p p' fw fr g e=>(by cases e)⟩
    cases e
    exact M.b.cl (t,y) (by rw[bv_ (by simp)];exact ay_.2 ⟨t,f,rfl⟩))
  |have fin:H_ (∀V r' rv' g' T' n d,j l.length n d V r' rv' g' T'->a5 (.returned (.agg #[I_ n,d])) ((V.setCell ⟨W.heap.size+1,0,none⟩ (I_ n)).setCell ⟨W.heap.size+1,1,none⟩ d)/\Blk V (W.heap.size+1) [O_,.nilIface] 88/\Blk V (W.heap.size+2) [I_ n,d] 88/\IfV d):=zy (λV r' rv' g' T' n d M=>by
    rw[w]at M
    rw[Q_.o]
    refine⟨M.fin E (λt f=>?_) (λ_ _ h=>h),M.o1.1,M.o2.1,M.b.dl⟩
    exact M.b.cl (.ty t) (by rw[bv_ (by simp)];exact ay_.2 ⟨t,f,rfl⟩))
 (first|(have:=cc1;have a6:H_ (∀V r' rv' g' T' n d,∀i,j i n d V r' rv' g' T'->IfV d/\(∀V1 r1 rv1,Stp V V1 (TSS (uT F) (uL F) rv' r') (TSS (uT F) (uL F) rv1 r1)->Blk V1 (W.heap.size+2) [I_ n,d] 88)/\∀V1 r1 rv1,Stp V V1 (TSS (uT F) (uL F) rv' r') (TSS (uT F) (uL F) rv1 r1)->Blk V1 W.heap.size [.slice ua l.length uc,.iface bT bx] 273):=zy (λV r' rv' g' T' n d i M=>by rw[w]at M;exact⟨M.b.dl,λV1 r1 rv1 hs=>(M.o2.stp hs).1,λV1 r1 rv1 hs=>(M.o0.stp hs).1⟩))|(have a6:H_ (∀V r' rv' g' T' n d,∀i,j i n d V r' rv' g' T'->IfV d/\∀V1 r1 rv1,Stp V V1 (TSS (dT F) (dL F) rv' r') (TSS (dT F) (dL F) rv1 r1)->Blk V1 (W.heap.size+2) [I_ n,d] 88):=zy (λV r' rv' g' T' n d i M=>by rw[w]at M;exact⟨M.b.dl,λV1 r1 rv1 hs=>(M.o2.stp hs).1⟩)));replace start:=zy start;replace a1:=zy a1;have b7:H_ (∀V r' rv' g' T' n d i V1,j i n d V r' rv' g' T'->Fr V V1 N_->j i n d V1 r' rv' g' T'):=zy (λV r' rv' g' T' n d i V1 M hf=>by rw[w]at M⊢;exact M.new E hf);replace w:=zy w;(first|(have:=cc1;clear hK ho hP hX hq h a0 hy hqy)|(clear hK ho hP hX hq h a0));go_in;go_upto_region 2 with fail;rw[<- a1.o];go_wp2;go_loopg [11] (l.length+1) (λm v V=>∃q:Nat,∃n d r' rv' g' T',v=I_ q/\q<=l.length/\l.length+1-q<=m/\H_ (j q n d V r' rv' g' T'));case atStart=>exact⟨0,_,_,_,_,_,_,rfl,al_ _,M_,start⟩
 case round=>
  clear start c1;obtain⟨q,n,d,r',rv',g',T',rfl,hq,hm,M⟩:=hrel;by_cases b6:q<l.length
  .have b8:(q:Int)<(l.length:Int):=M_;obtain⟨t,f⟩:∃t,l[q]?=some t:=⟨_,af_ b6⟩;(first|(have:=cc1;obtain⟨⟨b,rfl,e0⟩,⟨vT,vx,N⟩,b4,e4,e5,e6,-⟩:=item.o _ _ _ _ _ _ _ _ _ M.o f)|(obtain⟨⟨b,rfl,e0⟩,⟨uT,ux,N⟩,e4,e5,e6,-⟩:=item.o _ _ _ _ _ _ _ _ _ M.o f));(first|(have:=cc1;have hC:H_ (∀V1,Fr wr V1 N_->Calls prog 52 #[P_ F.tu,.agg #[.iface vT vx,.iface bT bx]] V1 (vN (uT F) (uI F) (uL F) V1 r' rv' g' T' (t,y))):=zy (λV1 hf=>by rw[<- N];exact(item.o V1 _ _ _ _ _ _ _ _ (b7.o _ _ _ _ _ _ _ _ V1 M.o hf) f).2.2.2.2.2.2))|(have hC:H_ (∀V1,Fr wr V1 N_->Calls prog 78 #[P_ F.tb,.iface uT ux] V1 (vN (dT F) (dI F) (dL F) V1 r' rv' g' T' (.ty t))):=zy (λV1 hf=>by rw[<- N];exact(item.o V1 _ _ _ _ _ _ _ _ (b7.o _ _ _ _ _ _ _ _ V1 M.o hf) f).2.2.2.2.2)));rw[N]at e0;replace f:=zy f;replace N:=zy N;go_wp2;(first|(have:=cc1;refine tr_ 13 (λV=>f_ V (W.heap.size+2) 0 (I_ n)/\f_ V (W.heap.size+2) 1 d/\f_ V F.fb 5 (P_ F.tu)/\f_ V W.heap.size 1 (.iface bT bx)) ?_)|(refine tr_ 10 (λV=>f_ V (W.heap.size+2) 0 (I_ n)/\f_ V (W.heap.size+2) 1 d/\f_ V F.fb 4 (P_ F.tb)) ?_));refine tz_ 0 ?_;refine tz_ 1 ?_;refine tz_ 2 ?_;refine tz_ 3 ?_;refine tz_ 4 ?_;refine tz_ 5 ?_;refine tz_ 6 ?_;(first|(have:=cc1;refine tz_ 7 ?_;refine tz_ 8 ?_;refine tz_ 9 ?_;refine zw 10 rfl K_ (λ_=>⟨e4,e5,b4,e6⟩) (λK hK=>?_))|(refine zw 7 rfl K_ (λ_=>⟨e5,e6,e4⟩) (λK hK=>?_)));go_simp;apply(hC.o _ (A_ wr _).drew).mono;rintro e w1 ⟨r1,rv1,g1,T1,x,rfl,hx,ha,h1,s1,G1⟩;refine hK _ _ ?_;(first|(have:=cc1;clear hK K e0 b4 e4 e5 e6)|(clear hK K e0 e4 e5 e6));have a3:=(E_ (A_ wr _).drew (λ_ h=>h)).trans s1;(first|(have:=cc1;obtain⟨hd,hb,b5⟩:=a6.o _ _ _ _ _ _ _ _ M.o;have b0:=b5 w1 r1 rv1 a3;have O:=b0.c1)|(obtain⟨hd,hb⟩:=a6.o _ _ _ _ _ _ _ _ M.o));have b1:=hb w1 r1 rv1 a3;have z0:=b1.c0;(first|(have:=cc1;have a9:=b1.c1)|(have Q:=b1.c1));(first|(have:=cc1;have Q:w1.cell? ⟨F.fb,5,none⟩=some (P_ F.tu):=h1.i.1.i.cell5)|(have O:w1.cell? ⟨F.fb,4,none⟩=some (P_ F.tb):=h1.i.cell4));have xq:=(h1.t.q x hx).2.2;(first|(have:=cc1;refine zw 11 rfl K_ (λ_=>⟨z0,a9,Q,O⟩) (λK hK=>?_))|(refine zw 8 rfl K_ (λ_=>⟨z0,Q,O⟩) (λK hK=>?_)));go_simp;apply(bC (n:=q) xq.2 xq.1).mono;rintro e w2 ⟨v,rfl,hv,G,v0,v1⟩;refine hK _ _ ?_;clear hK K;(first|(have:=cc1;refine zw 12 rfl K_ (λ_=>⟨G.ke z0,G.ke a9,G.ke Q,G.ke O⟩) (λK hK=>?_))|(refine zw 9 rfl K_ (λ_=>⟨G.ke z0,G.ke Q,G.ke O⟩) (λK hK=>?_)));go_simp;apply(gC hd hv).mono;rintro e w3 ⟨rfl,f3⟩;refine hK _ _ ?_;clear hK K;have Y:=G.trans f3 u_;have b3:=Y.bl b1 id;have y0:=b3.c0;have y1:=b3.c1;have y2:=b3.th 0;have y3:=b3.th 1;have nx:=zy (next.o _ _ _ _ _ _ _ _ _ w1 _ _ _ _ x w3 v M.o f.o hx ha h1 a3 G1 Y hv v0 v1);have ev:(if btr (jnN [x.n]) n=true then Value.agg #[z_ (jnN [x.n]:Int),v] else .agg #[I_ n,d])=.agg #[z_ ((if btr (jnN [x.n]) n=true then jnN [x.n] else n:Nat):Int),if btr (jnN [x.n]) n=true then v else d]:=by split<;>rfl
   rw[ev];have a4:IfV (if btr (jnN [x.n]) n=true then v else d):=by
    split
    .exact hv
    .exact hd
   generalize (if btr (jnN [x.n]) n=true then jnN [x.n] else n)=n' at nx;generalize (if btr (jnN [x.n]) n=true then v else d)=d' at nx a4;have sd:=λW a m=>run_store prog W a d' m a4.one;(first|(have:=cc1;have c3:w3.cell? ⟨F.fb,5,none⟩=some (P_ F.tu):=Y.ke Q)|(have c3:w3.cell? ⟨F.fb,4,none⟩=some (P_ F.tb):=Y.ke O));(first|(have:=cc1;have c8:=Y.ke O)|(clear hd hb b1 z0 Q O xq hx ha h1 s1 a3 G1 hv v0 v1 G f3 Y b3 ev M a4));(first|(have:=cc1;clear hd hb b5 b0 b1 z0 a9 Q O xq hx ha h1 s1 a3 G1 hv v0 v1 G f3 Y b3 ev M a4;refine t1_ 13 ⟨y0,y1,c3,c8⟩ ?_)|(refine t1_ 10 ⟨y0,y1,c3⟩ ?_));refine td_ ?_ _;go_wp2;go_roundg (l.length+1-(q+1));case measure=>omega
   case rel=>exact⟨q+1,_,_,_,_,_,_,by simp,b6,l_,nx⟩
  .have b8:¬((q:Int)<(l.length:Int)):=M_;obtain rfl:q=l.length:=M_;obtain⟨f1,b1,b2,hd⟩:=fin.o _ _ _ _ _ _ _ M.o;have s1:=λW a m=>run_store prog W a d m hd.one;have q0:=b1.c0;have q1:=b1.c1;have t0:=b1.th 0;have t1:=b1.th 1;have p0:=b2.c0;have p1:=b2.c1;have B8:Blk ((wr.setCell ⟨W.heap.size+1,0,none⟩ (I_ n)).setCell ⟨W.heap.size+1,1,none⟩ d) (W.heap.size+1) [I_ n,d] 88:=(b1.set 0 _).set 1 _;have x0:=B8.c0;have x1:=B8.c1;replace f1:=zy f1;clear b1 b2 B8;go_wp2;(first|(have:=cc1;refine bodyPost_ret (v:=.agg #[I_ n,d]) (by simp[results,results122,go_sem,x0,x1]) rfl ?_)|(refine bodyPost_ret (v:=.agg #[I_ n,d]) (by simp[results,results77,go_sem,x0,x1]) rfl ?_));exact f1.o):p:=h
def Vx{F:FD}(H:F.OK){W:World}{r:Unit}{rv uv:Value}{g:Bool}{T:List (Rw Qu)}{l:List PT}{X:Nat->Value}(hK:KOK (dT F) (dI F) (dL F) 78 (λv=>v.headD .nilIface) m)(h:TbI (dT F) (dI F) (dL F) W r rv g T)(ho:W.ownsRow 0 53 1 uv l.length ((List.range l.length).map X))(hP:∀g,uv.ownBlock=some g->F.P g)(hX:∀i t,l[i]?=some t->TyV W F.P t (X i))(hq:okQ F (.ty (.alts p l)))(hm:300<=T.length+m):Calls prog 77 #[P_ F.fb,.agg #[I_ p,uv]] W (yi (dT F) (dI F) (dL F) W r rv g T (.ty (.alts p l))):=by
 exact cq1_
def nA:Tryz.prog.underlying 261=some (.slice 88):=K_
def ZN:(Tryz.prog.info? 88).map (λi=>(i.zero,i.size,i.bytes))=some (some (.agg #[O_,.nilIface]),2,24):=K_
def ig{o:Oper}{a:Act}{K:Act->World->Prop}{Q:Exit->Act->World->Prop}(s x:Operand)(ho:o.op=.call { callee:=.builtin .append,args:=#[s,x],argTypes:=#[261,261] }){B g n:Nat}{w:World}{v c0 c1:Value}{xs:List Value}(hb:w.ownsRow B 88 2 v n xs)(z:n<=1000)(hB:B<=w.heap.size)(hg:g=w.heap.size)(hs:a.eval s=v)(hx:a.eval x=S_ g 1 1)(h0:c0.oneCell'=true)(h1:c1.oneCell'=true)(h:∀b w',w'.ownsRow B 88 2 b (n+1) (xs++[c0,c1])->(w.alloc (.cells #[c0,c1] 88)).grownBy w' v.ownBlock->(b.ownBlock=v.ownBlock\/b.ownBlock=some (w.alloc (.cells #[c0,c1] 88)).heap.size)->K (a.put o.dst b) w'):o.wp prog a (w.alloc (.cells #[c0,c1] 88)) K Q:=by
 obtain⟨ti,e,f,j,l⟩:=info_parts ZN;obtain⟨v5,w5,hr,y,c,_,u⟩:=run_append_own_at (P:=prog) (w.alloc (.cells #[c0,c1] 88)) B 261 o.type 88 ti _ 2 24 nA e f j l rfl D_ _ n xs (World.ownsRow.alloc hb _) ⟨g,0,none⟩ 1 1 [c0,c1] rfl (zN _ #[c0,c1] _ _ hg) (by simp[h0,h1]) (by unfold maxLen;omega) M_ (by simp;omega);unfold Oper.wp execOp;simp only[ho,resolve,invoke,builtin,Sem.run_bind,Sem.run_pure,Result.andThen_ok,List.map_toArray,aw_,bd_,hs,hx,hr];exact h v5 w5 y c u
def Xr{V:World}{n:Nat}{lv:Value}{ys:List Value}(h:V.ownsRow B 88 k lv n ys)(hf:Fr V V' (λx=>lv.ownBlock=some x)):Fr V V' N_\/∃q cs,Blk V q cs 88/\B<=q/\lv.ownBlock=some q/\Fr V V' (λx=>x=q):=by
 rcases h.2 with⟨e,_⟩|⟨q,cap,a,e,hB,hg,_⟩
 .subst e;exact .inl (hf.mono (λx _ e=>by simp[Value.ownBlock]at e))
 .subst e;exact .inr ⟨q,a.toList,by unfold Blk;simpa using hg,hB,rfl,hf.mono (λx _ e=>by simpa[Value.ownBlock] using e.symm)⟩
def Je{ns:List Nat}(hk:k∈ns)(h:jnN ns<=300)(h0:jnN ns≠0):k≠0/\k<=300:=by
 have hs:k<=ns.sum:=by
  clear h h0;induction ns with
  |nil=>simp at hk
  |cons x r ih=>
   rw[List.sum_cons];rcases ao_.1 hk with rfl|hk
   .omega
   .have:=ih hk;omega
 unfold jnN at h h0;split at h
 .rename_i h1;rw[i_ h1]at h0;exact absurd rfl h0
 .rename_i h1;refine⟨λe=>h1 (e▸hk),?_⟩;split at h<;>omega
def svD.recd{F:FD}{V:World}{b:Nat->Prop}{l:PT->Prop}{Dj:Nat->DT->Prop}{fs:List PF}{ns:List Nat}{Dv:Nat->Value}(hl:ns.length=fs.length)(hk:∀(j k:Nat) (f:PF),ns[j]?=some k->fs[j]?=some f->svD F V J (Dj j) (λu=>u=f.ty) k (Dv j))(H:∀ds:List DT,ds.length=fs.length->(∀(j:Nat) (d:DT),ds[j]?=some d->Dj j d)->D' (.mk 114 0 noB [] ds))(G:∀u,l u->∃c p,u=.leaf c p/\zx F.ds c=some (.recd fs))(K:∀x d u,DaV (zx F.ds) V J d u x->DaV (zx F.ds) V' b d u x)(hB:∀x,B<=x->x<V'.heap.size->b x)(h0:jnN ns=0\/jnN ns=301->v=.nilIface)(h1:1<=jnN ns->jnN ns<=300->RcR B ns.length Dv v V'):svD F V' b D' l (jnN ns) v:=by
 refine⟨h0,λe=>?_⟩;have nz:∀k∈ns,k≠0:=λk hk e'=>by
  subst e';exact e (by unfold jnN;rw[i_ hk])
 have y:∀j,∃x:DT,∀k f,ns[j]?=some k->fs[j]?=some f->Dj j x/\nd3 x=k/\(k<=300->DaV (zx F.ds) V J x f.ty (Dv j)):=λj=>by
  cases hn:ns[j]? with
  |none=>exact⟨default,λk f e=>by cases e⟩
  |some k=>
   have a:=(ae_.1 hn).1;obtain⟨x,z,E,N⟩:=(hk j k _ hn (af_ M_)).2 (nz k (aj_ hn));exact⟨x,λO f e e'=>by
    cases e
    rw[af_ M_]at e'
    cases e'
    exact⟨z,E,λh=>N h _ rfl⟩⟩
 let X:=λj=>Classical.choose (y j)
 have hX:=λj=>Classical.choose_spec (y j);have w:∀(j:Nat) (d:DT),((List.range fs.length).map X)[j]?=some d->j<fs.length/\d=X j:=λj d e=>by
  rw[aq_]at e;by_cases a:j<fs.length
  .rw[b9_ a]at e;exact⟨a,by simpa using e.symm⟩
  .rw[a4_ (by simpa using a)]at e;cases e
 have M:ns=((List.range fs.length).map X).map nd3:=by
  apply List.ext_getElem?;intro j;by_cases a:j<fs.length
  .rw[aq_,aq_,b9_ a,af_ M_];exact congrArg some (hX j _ _ (af_ M_) (af_ a)).2.1.symm
  .rw[a4_ M_,a4_ (by simp;omega)]
 refine⟨.mk 114 0 noB [] ((List.range fs.length).map X),H _ (by simp) (λj d e=>?_),?_,λo u hu=>?_⟩
 .obtain⟨a,rfl⟩:=w j d e;exact(hX j _ _ (af_ M_) (af_ a)).1
 .rw[<- mB,<- M]
 .obtain⟨c,p,rfl,hc⟩:=G u hu;obtain⟨pv,rfl,hp⟩:=h1 M_ o;refine .row Dv (.inr ⟨rfl,rfl⟩) (by rw[bo_,List.length_range,<- hl];exact zS hp) (λx e=>hB x (hp.lt x e).1 (hp.lt x e).2) (λj d e=>?_);obtain⟨a,rfl⟩:=w j d e;have z:=hX j _ _ (af_ (by omega:j<ns.length)) (af_ a);have E:=z.2.2 (Je (a0_ _) o M_).2;have:xQ (zx F.ds) (.leaf c p) 0 j=fs[j].ty:=by
   simp only[xQ,hc,ap_,aq_,af_ a];rfl
  rw[this];exact K _ _ _ E
section
variable {α ρ:Type} {P:TP α ρ} {I:TI α} {L:TL} {F:FD}
structure RFM(P:TP α ρ)(I:TI α)(L:TL)(F:FD)(fs:List PF)(C:List (Rw α)->PF->Nat->Prop)(c0:List Value)(T0:TypeId)(W:World)(r:ρ)(rv:Value)(g:Bool)(T:List (Rw α))(ns:List Nat)(Dv:Nat->Value)(lv:Value)(V:World)(r':ρ)(rv':Value)(g':Bool)(T':List (Rw α)):Prop where
 ti:TbI P I L V r' rv' g' T'
 st:Stp W V (TSS P L rv r) (TSS P L rv' r')
 gr:Grw P.Cl T T' g g'
 row:V.ownsRow (W.heap.size+2) 88 2 lv ns.length ((List.range ns.length).flatMap λj=>[z_ ((ns.getD j 0:Nat):Int),Dv j])
 no:∀b,lv.ownBlock=some b->¬TSS P L rv' r' b
 kn:∀(j k:Nat) (f:PF),ns[j]?=some k->fs[j]?=some f->C T' f k/\svD F V (λy=>¬TSS P L rv' r' y) (QD F (.ty f.ty)) (QT F (.ty f.ty)) k (Dv j)
 iv:∀j,IfV (Dv j)
 le:∀n∈ns,n<=301
 o0:kG V (TSS P L rv' r') W.heap.size c0 T0
 o1:kG V (TSS P L rv' r') (W.heap.size+1) [O_,.nilIface] 88
 f:L.fb<W.heap.size
variable {fs:List PF} {C:List (Rw α)->PF->Nat->Prop} {c0:List Value} {T0:TypeId} {W V V1 w5:World} {r r' r1:ρ} {rv rv' rv1 lv v5:Value} {g g' g1:Bool} {T T' T1:List (Rw α)} {ns:List Nat} {Dv:Nat->Value}
def RFM.new(a:P.OK I L)(h:RFM P I L F fs C c0 T0 W r rv g T ns Dv lv V r' rv' g' T')(hf:Fr V V1 N_):RFM P I L F fs C c0 T0 W r rv g T ns Dv lv V1 r' rv' g' T':=
 ⟨h.ti.new a hf,h.st.trans (E_ hf (λ_ h=>h)),h.gr,zj h.row hf u_,h.no,λj k f e e'=>⟨(h.kn j k f e e').1,(h.kn j k f e e').2.stp (E_ hf (λ_ h=>h))⟩,h.iv,h.le,h.o0.new hf,h.o1.new hf,h.f⟩
def RFM.start(a:P.OK I L)(h:TbI P I L W r rv g T)(cs:Array Value)(T0:TypeId):RFM P I L F fs C cs.toList T0 W r rv g T [] (λ_=>.nilIface) (L_) ((W.alloc (.cells cs T0)).alloc (.cells #[O_,.nilIface] 88)) r rv g T:=by
 have hl:=λx (hx:TSS P L rv r x)=>(h.li a hx);have c:=zi W (.cells cs T0);have b1:=B_ (W.alloc (.cells cs T0)) #[O_,.nilIface] 88;rw[c]at b1;have hb:=hl L.tb (.inl (.inl rfl));have hf:=((A_ W N_).alloc (.cells cs T0)).alloc (.cells #[O_,.nilIface] 88);exact⟨h.new a hf,E_ hf (λ_ h=>h),Grw.refl _ _,World.ownsRow_nil _ _ _ _,λb e=>by simp[Value.ownBlock]at e,λj k f e=>by simp at e,λ_=>.inl rfl,λn hn=>by simp at hn,⟨(B_ W cs T0).alloc _,λe=>by have:=hl _ e;omega⟩,⟨b1,λe=>by have:=hl _ e;omega⟩,M_⟩
def RFM.known(a:P.OK I L)(c:∀T R f k,C T f k->C (T++R) f k)(h:RFM P I L F fs C c0 T0 W r rv g T ns Dv lv V r' rv' g' T')(u:TbI P I L V1 r1 rv1 g1 T1)(hs:Stp V V1 (TSS P L rv' r') (TSS P L rv1 r1))(hg:Grw P.Cl T' T1 g' g1):RFM P I L F fs C c0 T0 W r rv g T ns Dv lv V1 r1 rv1 g1 T1:=by
 have o:=hg;obtain⟨R,l,_⟩:=o;refine⟨u,h.st.trans hs,h.gr.trans a.mono hg,zj h.row hs.1 h.no,λb e k=>h.no b e (hs.2 b (h.row.lt b e).2 k),λj k f e e'=>⟨?_,(h.kn j k f e e').2.stp hs⟩,h.iv,h.le,h.o0.stp hs,h.o1.stp hs,h.f⟩;rw[l];exact c _ _ _ _ (h.kn j k f e e').1
def RFM.item(a:P.OK I L){kd:Value}{f:PF}{o:Obj}(h:RFM P I L F fs C c0 T0 W r rv g T ns Dv lv V r' rv' g' T')(hf:fs[ns.length]?=some f)(hc:C T' f k)(z:svD F V (λy=>¬TSS P L rv' r' y) (QD F (.ty f.ty)) (QT F (.ty f.ty)) k kd)(hk:k<=301)(hd:IfV kd)(w:w5.ownsRow (W.heap.size+2) 88 2 v5 (ns.length+1) (((List.range ns.length).flatMap λj=>[z_ ((ns.getD j 0:Nat):Int),Dv j])++[I_ k,kd]))(hg:(V.alloc o).grownBy w5 lv.ownBlock)(hl:v5.ownBlock=lv.ownBlock\/v5.ownBlock=some (V.alloc o).heap.size):RFM P I L F fs C c0 T0 W r rv g T (ns++[k]) (λj=>if j<ns.length then Dv j else kd) v5 w5 r' rv' g' T':=by
 have A:=(A_ V N_).alloc o;have h1:=h.new a A;have c:Fr (V.alloc o) w5 (λx=>lv.ownBlock=some x):=(A_ _ _).gw hg (λk e _=>e);have key:TbI P I L w5 r' rv' g' T'/\(∀k kd (D:DT->Prop) (B:PT->Prop),svD F (V.alloc o) (λy=>¬TSS P L rv' r' y) D B k kd->svD F w5 (λy=>¬TSS P L rv' r' y) D B k kd):=by
  rcases Xr h1.row c with hf|⟨q,cs,hb,hB,_,hf⟩
  .exact⟨h1.ti.new a hf,λk kd D B hs=>hs.stp (E_ hf (λ_ h=>h))⟩
  .have:=h.f;exact⟨h1.ti.put a M_ hb hf,λk kd D B hs=>hs.put hb D_ D_ hf⟩
 have lo:∀x,lv.ownBlock=some x->W.heap.size+2<=x:=λx e=>(h.row.lt x e).1;have st:Stp W w5 (TSS P L rv r) (TSS P L rv' r'):=⟨h1.st.1.trans c (λx hx e=>by have:=lo x e;omega),h.st.2⟩;refine⟨key.1,st,h.gr,?_,?_,λj m l e e'=>?_,λj=>?_,λn hn=>?_,?_,?_,h.f⟩
 .rw[ai_,av_,bp_,be_,yT ns.length _ (λj=>[z_ ((ns.getD j 0:Nat):Int),Dv j]) (λi hi=>by
   simp only[ap_]
   rw[ar_ hi,i_ hi])]
  simpa[ap_] using w
 .intro b e e';rcases hl with hl|hl
  .exact h.no b (hl▸e) e'
  .rw[hl]at e;simp only[ah_]at e;have:=(h1.ti.li a e').2;omega
 .rcases mD e with⟨u,e⟩|⟨rfl,rfl⟩
  .simp only[u,if_true];exact⟨(h.kn j m l e e').1,key.2 _ _ _ _ (h1.kn j m l e e').2⟩
  .simp only[a3_,if_false];rw[hf]at e';cases e';exact⟨hc,key.2 _ _ _ _ (z.stp (E_ A (λ_ h=>h)))⟩
 .show IfV (if j<ns.length then Dv j else kd);split
  .exact h.iv j
  .exact hd
 .rcases a2_.1 hn with hn|hn
  .exact h.le n hn
  .simp only[a1_]at hn;omega
 .exact⟨c.bl h1.o0.1 (λe=>by have:=lo _ e;omega),h.o0.2⟩
 .exact⟨c.bl h1.o1.1 (λe=>by have:=lo _ e;omega),h.o1.2⟩
end
mutual
def ZA:∀t:PT,xJ t->vu t
 | .leaf _ _,_=>by unfold vu;trivial
 | .wrap _ _ t,h=>by unfold vu;unfold xJ at h;exact ZA t h
 | .alts _ l,h=>by unfold vu;unfold xJ at h;exact⟨h.1,Qq l h.2⟩
def Qq:∀l:List PT,(∀t∈l,xJ t)->gm l
 | [],_=>by unfold gm;trivial
 |t::r,h=>by unfold gm;exact⟨ZA t (h t (by simp)),Qq r (λx hx=>h x (by simp[hx]))⟩
end
def wR{w:World}{P:Nat->Prop}{fs:List PF}{g cap:Nat}{xs:List Value}(ho:w.ownsRow 0 189 4 (S_ g fs.length cap) fs.length xs)(h:xo w P s fs xs){f:PF}(z:fs[q]?=some f):∃T x d,w.cell? ⟨g,q*4,none⟩=some (I_ f.place)/\w.cell? ⟨g,q*4+1,none⟩=some (U_ f.letter)/\w.cell? ⟨g,q*4+2,none⟩=some (.iface T x)/\w.cell? ⟨g,q*4+3,none⟩=some (.pointer d)/\TyV w P f.ty (.iface T x)/\DfV w P s f.dflt (.pointer d):=by
 obtain⟨a,b,c,d,h1,l,o,u,rfl,rfl,y,j⟩:=h q f z;obtain⟨T,x,rfl⟩:=y.iface;have hd:∃e,d=.pointer e:=by
  unfold DfV at j;split at j
  .exact⟨_,j⟩
  .obtain⟨g',E,_,e,_⟩:=j;exact⟨_,e⟩
 obtain⟨e,rfl⟩:=hd;rw[bc_]at h1 l o u;exact⟨T,x,e,zr ho rfl h1,zr ho rfl l,zr ho rfl o,zr ho rfl u,y,j⟩
def Jz{F:FD}(a:F.OK){fs:List PF}(b:okQ F (.bd p (.recd fs))):fs.length<=300/\∀f∈fs,okQ F (.ty f.ty):=by
 obtain⟨⟨j,h1⟩,c,hc⟩:=b;have hg:=a.g c _ hc;exact⟨hg.1.1,λf hf=>⟨Zn h1 f hf,a.e c _ hc f hf,ZA _ (hg.1.2.2 f hf)⟩⟩
def Wb{F:FD}(a4:F.OK){W:World}{r:Unit}{rv sv:Value}{g:Bool}{T:List (Rw Qu)}{fs:List PF}{xs:List Value}(O:KOK (dT F) (dI F) (dL F) 78 (λv=>v.headD .nilIface) m)(h:TbI (dT F) (dI F) (dL F) W r rv g T)(ho:W.ownsRow 0 189 4 sv fs.length xs)(hP:∀g,sv.ownBlock=some g->F.P g)(hX:xo W F.P F.s fs xs)(hq:okQ F (.bd p (.recd fs)))(hm:300<=T.length+m):Calls prog 79 #[P_ F.fb,.agg #[I_ p,sv]] W (yi (dT F) (dI F) (dL F) W r rv g T (.bd p (.recd fs))):=by
 obtain⟨d8,Q_⟩:=y_ (yi (dT F) (dI F) (dL F) W r rv g T (.bd p (.recd fs)));rw[<- Q_.o];have G:=gc a4;obtain⟨e8,b9⟩:=Jz a4 hq;obtain⟨ua,uc,rfl⟩:=zl ho;obtain⟨w3,a2⟩:=e_ ((W.alloc (.cells #[I_ p,.slice ua fs.length uc] 215)).alloc (.cells #[O_,.nilIface] 88));obtain⟨l,z⟩:=e_ (RFM (dT F) (dI F) (dL F) F fs (λT f k=>gz T (.ty f.ty) k) [I_ p,.slice ua fs.length uc] 215 W r rv g T);have start:l [] (λ_=>.nilIface) (L_) w3 r rv g T:=by rw[a2,z];exact .start G h #[I_ p,.slice ua fs.length uc] 215
 have c1:=(show RFM (dT F) (dI F) (dL F) F _ _ _ _ W r rv g T _ _ _ _ _ _ _ _ from z▸start).o0.1.c1;have b7:∀x,TSS (dT F) (dL F) rv r x->F.fb<x:=λx e=>(h.li G e).1;have item:H_ (∀V r' rv' g' T' ns Dv lv f,l ns Dv lv V r' rv' g' T'->fs[ns.length]?=some f->∃b w fx Z,ua=some ⟨b,0,none⟩/\V.cell? ⟨b,ns.length*4,none⟩=some (I_ f.place)/\V.cell? ⟨b,ns.length*4+1,none⟩=some (U_ f.letter)/\V.cell? ⟨b,ns.length*4+2,none⟩=some (.iface w fx)/\V.cell? ⟨b,ns.length*4+3,none⟩=some (.pointer Z)/\V.cell? ⟨F.fb,4,none⟩=some (P_ F.tb)/\TyV V F.P f.ty (.iface w fx)):=zy (λV r' rv' g' T' ns Dv lv f M hf=>by
  rw[z]at M
  have hs:∀x,F.P x->¬TSS (dT F) (dL F) rv r x:=λx hx e=>by have:=b7 x e;have:=a4.pP x hx;omega
  have o1:=zj ho M.st.1 (λx e=>hs x (hP x e))
  obtain⟨b,cap,e⟩:=zm o1 (by have:=(ae_.1 hf).1;omega)
  cases e
  obtain⟨w,fx,Z,H,Q,U,k4,k5,k6⟩:=wR o1 (hX.fr M.st.1 hs) hf
  exact⟨b,w,fx,Z,rfl,H,Q,U,k4,M.ti.i.cell4,k5⟩)
 have call:H_ (∀V r' rv' g' T' ns Dv lv f w fx,l ns Dv lv V r' rv' g' T'->fs[ns.length]?=some f->TyV V F.P f.ty (.iface w fx)->Calls prog 78 #[P_ F.tb,.iface w fx] V (vN (dT F) (dI F) (dL F) V r' rv' g' T' (.ty f.ty))):=zy (λV r' rv' g' T' ns Dv lv f w fx M hf ty=>by
  rw[z]at M
  have ok:=b9 f (aj_ hf)
  obtain⟨R,hR,_⟩:=M.gr
  exact O V r' rv' g' T' (.ty f.ty) [.iface w fx] M.ti ok ⟨⟨_,rfl,ty⟩,ok⟩ (by rw[hR,ai_];show 300<=_;omega))
 have known:H_ (∀V r' rv' g' T' ns Dv lv V1 r1 rv1 g1 T1,l ns Dv lv V r' rv' g' T'->TbI (dT F) (dI F) (dL F) V1 r1 rv1 g1 T1->Stp V V1 (TSS (dT F) (dL F) rv' r') (TSS (dT F) (dL F) rv1 r1)->Grw (dT F).Cl T' T1 g' g1->l ns Dv lv V1 r1 rv1 g1 T1):=zy (λV r' rv' g' T' ns Dv lv V1 r1 rv1 g1 T1 M ht hs hg=>by
  rw[z]at M⊢
  exact M.known G (λT R f k h=>h.more R) ht hs hg)
 have next:H_ (∀V r' rv' g' T' ns Dv lv f (x:Rw Qu) o w5 v5,l ns Dv lv V r' rv' g' T'->fs[ns.length]?=some f->x∈T'->x.a=.ty f.ty->w5.ownsRow (W.heap.size+2) 88 2 v5 (ns.length+1) (((List.range ns.length).flatMap λj=>[z_ ((ns.getD j 0:Nat):Int),Dv j])++[I_ x.n,x.d])->(V.alloc o).grownBy w5 lv.ownBlock->(v5.ownBlock=lv.ownBlock\/v5.ownBlock=some (V.alloc o).heap.size)->l (ns++[x.n]) (λj=>if j<ns.length then Dv j else x.d) v5 w5 r' rv' g' T'):=zy (λV r' rv' g' T' ns Dv lv f x o w5 v5 M hf hx ha H Q U=>by
  rw[z]at M⊢
  have q:=(M.ti.t.q x hx).2.2
  have sv:=(M.ti.v x hx).1
  rw[ha]at sv
  exact M.item G hf ⟨x,hx,ha,rfl⟩ sv q.1 q.2 H Q U)
 have row:H_ (∀V r' rv' g' T' ns Dv lv,l ns Dv lv V r' rv' g' T'->V.ownsRow (W.heap.size+2) 88 2 lv ns.length ((List.range ns.length).flatMap λj=>[z_ ((ns.getD j 0:Nat):Int),Dv j])/\W.heap.size+2<=V.heap.size):=zy (λV r' rv' g' T' ns Dv lv M=>by rw[z]at M;exact⟨M.row,by have:=M.o1.1.lt;omega⟩);have fin:H_ (∀V r' rv' g' T' ns Dv lv,l ns Dv lv V r' rv' g' T'->ns.length=fs.length->qI V lv ns Dv/\(∀i,IfV (Dv i))/\(∀n∈ns,n<=301)/\Blk V (W.heap.size+1) [O_,.nilIface] 88/\∀V1 v,Fr V V1 N_->IfV v->(jnN ns=0\/jnN ns=301->v=.nilIface)->(1<=jnN ns->jnN ns<=300->RcR (V.heap.size+2) ns.length Dv v V1)->d8 (.returned (.agg #[z_ (jnN ns:Int),v])) ((V1.setCell ⟨W.heap.size+1,0,none⟩ (z_ (jnN ns:Int))).setCell ⟨W.heap.size+1,1,none⟩ v)):=zy (λV r' rv' g' T' ns Dv lv M hl=>by
  rw[z]at M
  refine⟨zS M.row,M.iv,M.le,M.o1.1,λV1 v hf hv h0 h1=>?_⟩
  rw[Q_.o]
  have hF:=V_ V1 (W.heap.size+1) 0 1 (z_ (jnN ns:Int)) v
  have M1:=M.new G hf
  have e7:(dL F).fb<W.heap.size:=M.f
  have a7:(dL F).fb<W.heap.size+1:=M_
  have t1:=M1.ti.put G a7 M1.o1.1 hF
  have e5:svD F V1 (λy=>¬TSS (dT F) (dL F) rv' r' y) (QD F (.bd p (.recd fs))) (QT F (.bd p (.recd fs))) (jnN ns) v:=by
   refine svD.recd (F:=F) (V:=V) (J:=λy=>¬TSS (dT F) (dL F) rv' r' y) (Dj:=λj d=>∀f,fs[j]?=some f->Dat (zx F.ds) d f.ty) (B:=V.heap.size+2) hl (λj k f e e'=>?_) (λds hd d9 u hu=>?_) (λu hu=>?_) (λx d u hx=>?_) (λx hx e9 e=>?_) h0 h1
   .have:=(M.kn j k f e e').2
    exact⟨this.1,λY=>by
     obtain⟨y,y1,y2,y3⟩:=this.2 Y
     exact⟨y,λf' X=>by rw[e']at X;cases X;exact y1 _ rfl,y2,y3⟩⟩
   .obtain⟨c,p',rfl,hb,hc⟩:=hu
    exact .recd hc hb hd (λi d t e e'=>by
     rw[aq_]at e'
     cases E:fs[i]? with
     |none=>rw[E]at e';cases e'
     |some f=>rw[E]at e';cases e';exact d9 i d e f E)
   .obtain⟨c,p',rfl,hb,hc⟩:=hu
    exact⟨c,p',rfl,hc⟩
   .exact(hx.fr hf u_)
   .have:=(M.ti.li G e).2
    omega
  have hs:=M1.st
  refine⟨r',rv',g',T',jnN ns,v,rfl,tU ns,hv,t1,⟨hs.1.trans hF (λx hx e=>M_),hs.2⟩,M.gr,⟨ns,hl,λq f k e e'=>(M.kn q k f e' e).1,rfl⟩,svD.put e5 M1.o1.1 D_ D_ hF⟩)
 replace start:=zy start;replace a2:=zy a2;have b8:H_ (∀V r' rv' g' T' ns Dv lv V1,l ns Dv lv V r' rv' g' T'->Fr V V1 N_->l ns Dv lv V1 r' rv' g' T'):=zy (λV r' rv' g' T' ns Dv lv V1 M hf=>by rw[z]at M⊢;exact M.new G hf);have e1:H_ (∀V r' rv' g' T' ns Dv lv (x:Rw Qu),l ns Dv lv V r' rv' g' T'->x∈T'->IfV x.d):=zy (λV r' rv' g' T' ns Dv lv x M hx=>by rw[z]at M;exact(M.ti.t.q x hx).2.2.2);have d2:H_ (∀V r' rv' g' T' ns Dv lv,l ns Dv lv V r' rv' g' T'->(∀x,lv.ownBlock=some x->x<V.heap.size/\F.fb<x)/\∀x,TSS (dT F) (dL F) rv' r' x->x<V.heap.size):=zy (λV r' rv' g' T' ns Dv lv M=>by
  rw[z]at M
  exact⟨λx e=>⟨(M.row.lt x e).2,by have:=(M.row.lt x e).1;have:F.fb<W.heap.size:=M.f;omega⟩,λx e=>(M.ti.li G e).2⟩)
 replace z:=zy z;go_in;go_upto_region 1 with fail;rw[<- a2.o];go_wp2;go_loopg [5,11] (fs.length+1) (λm v5 v V=>∃ns Dv lv r' rv' g' T',lv=v5/\v=z_ ((ns.length:Nat):Int)/\ns.length<=fs.length/\fs.length+1-ns.length<=m/\H_ (l ns Dv lv V r' rv' g' T'));case atStart=>exact⟨[],_,_,_,_,_,_,rfl,rfl,al_ _,by simp,start⟩
 case round=>
  obtain⟨ns,Dv,lv,r',rv',g',T',rfl,rfl,hq,hm,M⟩:=hrel;by_cases a7:ns.length<fs.length
  .have e2:(ns.length:Int)<(fs.length:Int):=M_;obtain⟨f,hf⟩:∃f,fs[ns.length]?=some f:=⟨_,af_ a7⟩;obtain⟨b,w,fx,Z,rfl,k0,H,Q,U,e4,ty⟩:=item.o _ _ _ _ _ _ _ _ _ M hf;obtain⟨w4,a0⟩:=e_ (wr.alloc (.cells #[I_ f.place,U_ f.letter,.iface w fx,.pointer Z] 189));have A4:Fr wr w4 N_:=by rw[a0];exact(A_ wr _).alloc _
   have B4:Blk w4 wr.heap.size [I_ f.place,U_ f.letter,.iface w fx,.pointer Z] 189:=by rw[a0];exact B_ wr _ _
   have M4:=zy (b8.o _ _ _ _ _ _ _ _ w4 M A4);have z4:=A4.ke e4;have z2:=B4.c2;have d7:=ty.fr A4 u_;have hC:H_ (∀V1,Fr w4 V1 N_->Calls prog 78 #[P_ F.tb,.iface w fx] V1 (vN (dT F) (dI F) (dL F) V1 r' rv' g' T' (.ty f.ty))):=zy (λV1 b5=>call.o V1 _ _ _ _ _ _ _ _ _ _ (b8.o _ _ _ _ _ _ _ _ V1 M4 b5) hf (d7.fr b5 u_));have a1:¬TSS (dT F) (dL F) rv' r' wr.heap.size:=λe=>absurd ((d2.o _ _ _ _ _ _ _ _ M).2 _ e) (a3_ _);have a6:=zy ((d2.o _ _ _ _ _ _ _ _ M).1);replace a1:=zy a1;replace hf:=zy hf;replace a0:=zy a0;replace B4:=zy B4;go_wp2;rw[<- a0.o];refine tr_ 10 (λV=>f_ V F.fb 4 (P_ F.tb)/\f_ V wr.heap.size 2 (.iface w fx)) ?_;refine tz_ 0 ?_;refine tz_ 1 ?_;refine tz_ 2 ?_;refine tz_ 3 ?_;refine tz_ 4 ?_;refine tz_ 5 ?_;refine tz_ 6 ?_;refine zw 7 rfl K_ (λ_=>⟨z4,z2⟩) (λK O=>?_);go_simp;apply(hC.o _ (A_ w4 _).drew).mono;rintro e w5 ⟨r1,rv1,g1,T1,x,rfl,hx,ha,h1,s1,G1⟩;refine O _ _ ?_;have a8:=(E_ (A_ w4 _).drew (λ_ h=>h)).trans s1;have M5:=zy (known.o _ _ _ _ _ _ _ _ w5 r1 rv1 g1 T1 M4 h1 a8 G1);have B5:=a8.1.bl B4 a1;have y4:w5.cell? ⟨F.fb,4,none⟩=some (P_ F.tb):=h1.i.cell4;have y2:=B5.c2;have e0:=e1.o _ _ _ _ _ _ _ _ x M5 hx;obtain⟨a3,e6⟩:=row.o _ _ _ _ _ _ _ _ M5;have a9:H_ (∀o E,(w5.alloc o).grownBy E lv.ownBlock->E.cell? ⟨F.fb,4,none⟩=some (P_ F.tb)/\E.cell? ⟨wr.heap.size,2,none⟩=some (.iface w fx)):=zy (λo E hg=>by
    have Y:=(A_ w5 N_).alloc o
    have hF:Fr (w5.alloc o) E (λx=>lv.ownBlock=some x):=(A_ _ _).gw hg (λk e _=>e)
    have q4:=Y.ke y4
    have b6:=hF.bl (Y.bl B5 id) (λe=>absurd (a6.o _ e).1 (a3_ _))
    have q2:=b6.c2
    refine⟨?_,q2⟩
    rw[World.cell?_of_block (hF.block F.fb (World.block_lt_of_cell? _ _ q4) (λe=>absurd (a6.o _ e).2 (a3_ _)))]
    exact q4)
   have d6:H_ (∀o E X,E.ownsRow (W.heap.size+2) 88 2 X (ns.length+1) (((List.range ns.length).flatMap λj=>[z_ ((ns.getD j 0:Nat):Int),Dv j])++[I_ x.n,x.d])->(w5.alloc o).grownBy E lv.ownBlock->(X.ownBlock=lv.ownBlock\/X.ownBlock=some (w5.alloc o).heap.size)->l (ns++[x.n]) (λj=>if j<ns.length then Dv j else x.d) X E r1 rv1 g1 T1):=zy (λo E X o6 g6 l6=>next.o _ _ _ _ _ _ _ _ f x o E X M5 hf hx ha o6 g6 l6);have e3:ns.length<=1000:=M_;generalize x.n=xn at *;generalize x.d=xd at *;replace a3:=zy a3;generalize a5:ns.length=N at *;rcases e0 with rfl|⟨dT,dx,rfl⟩;all_goals
    refine t1_ 8 ⟨y4,y2⟩ ?_;have Y:=λo=>(A_ w5 N_).alloc o;refine zw 9 rfl K_ (λ_=>⟨(Y _).ke y4,(Y _).ke y2⟩) (λK O=>?_);rw[i_ (show Region.wanted _ _=true by kernel_rfl)];refine ig _ _ rfl (B:=W.heap.size+2) (v:=lv) a3 e3 e6 rfl rfl rfl rfl rfl ?_;intro X E o6 g6 l6;refine O _ _ ?_;have b4:=a9.o _ _ g6;have nx:=zy (d6.o _ _ _ o6 g6 l6);refine t1_ 10 b4 ?_;refine td_ ?_ _;go_wp2;go_roundg (fs.length+1-(N+1));case measure=>omega
    case rel=>exact⟨ns++[xn],_,_,_,_,_,_,rfl,by simp[a5],by simp[a5];omega,by simp[a5],nx⟩
  .have e2:¬((ns.length:Int)<(fs.length:Int)):=M_;obtain⟨H,Q,U,b1,f1⟩:=fin.o _ _ _ _ _ _ _ _ M M_;obtain⟨la,lc,rfl⟩:=zl H;have hC:=zy (fC H Q U M_);replace f1:=zy f1;replace b1:=zy b1;go_wp2_with (go_at_call 114;apply hC.o.mono;rintro e w2 ⟨v,rfl,hv,f2,v0,v1⟩;have b2:=f2.bl b1 id;have hp:=zy (f1.o w2 v f2 hv v0 v1);have q0:=b2.cell 0;have q1:=b2.cell 1;have t0:=b2.th 0;have t1:=b2.th 1;have sD:=(λW a m=>run_store prog W a v m hv.one);have B8:=(b2.set 0 (z_ (jnN ns:Int))).set 1 v;have x0:=B8.cell 0;have x1:=B8.cell 1;simp only[am_,an_,aa_,ab_]at q0 q1 x0 x1;generalize jnN ns=jn at *);refine bodyPost_ret (v:=.agg #[I_ jn,v]) (by simp[results,results79,go_sem,x0,x1]) rfl ?_;exact hp
def NoD(W:World)(S:Nat->Prop):Prop:=∀x cs T p,S x->W.heap[x]?=some (.cells cs T p)->T≠59/\T≠234
def fe{W:World}{n x:Nat}{e:TypeId}{lv:Value}{ys:List Value}(h:W.ownsRow B e k lv n ys)(hx:lv.ownBlock=some x):∃cs,W.heap[x]?=some (.cells cs e):=by
 rcases h.2 with⟨e',_⟩|⟨g',cap,a,e',_,b,_⟩
 .subst e';simp[Value.ownBlock]at hx
 .subst e';simp only[Value.ownBlock,ah_]at hx;subst hx;exact⟨a,b⟩
def DaV.not{env:Nat->Option PB}{W:World}{d:DT}(h:DaV env W J d t v)(a:NoD W S):DaV env W (λx=>J x/\¬S x) d t v:=by
 induction h with
 |flat h hs=>exact .flat h hs
 |branch n h hd ih=>exact .branch n h ih
 |row Y hc ho hP hd ih=>exact .row Y hc ho (λg e=>⟨hP g e,λk=>by obtain⟨cs,hc⟩:=fe ho e;exact(a _ _ _ _ k hc).1 rfl⟩) ih
 |map Y hl hk ho hP hd ih=>exact .map Y hl hk ho (λg e=>⟨hP g e,λk=>by obtain⟨cs,hc⟩:=fe ho e;exact(a _ _ _ _ k hc).2 rfl⟩) ih
def svD.not{F:FD}{W:World}{D:DT->Prop}{A:PT->Prop}{n:Nat}{d:Value}(h:svD F W J D A n d)(a:NoD W S):svD F W (λx=>J x/\¬S x) D A n d:=by
 refine⟨h.1,λe=>?_⟩;obtain⟨x,b,c,f⟩:=h.2 e;exact⟨x,b,c,λe' u hu=>(f e' u hu).not a⟩
def svD.mono{F:FD}{W:World}{a:Nat->Prop}{D:DT->Prop}{A:PT->Prop}{n:Nat}{d:Value}(h:svD F W J D A n d)(c:∀x,J x->a x)(b:∀x,D x->D' x):svD F W a D' A n d:=by
 refine⟨h.1,λe=>?_⟩;obtain⟨x,f,j,l⟩:=h.2 e;exact⟨x,b x f,j,λe' u hu=>(l e' u hu).mono (λg _=>c g)⟩
def svD.frS{F:FD}{W:World}{D:DT->Prop}{A:PT->Prop}{n:Nat}{d:Value}(h:svD F W J D A n d)(hf:Fr W W' S)(a:NoD W S):svD F W' J D A n d:=by
 refine⟨h.1,λe=>?_⟩;obtain⟨x,b,c,f⟩:=h.2 e;exact⟨x,b,c,λe' u hu=>(((f e' u hu).not a).fr hf (λg hg=>hg.2)).mono (λg _ hg=>hg.1)⟩
section
variable {α β:Type} {I:TI α} {I':TI β} {fb tb mb fb' tb' mb':Nat} {kf ff rv kf' ff' rv':Value} {W:World} {g g':Bool} {T:List (Rw α)} {T':List (Rw β)}
def TbW.noD(h:TbW I fb tb mb kf ff W rv g T)(h1:I.TT≠59/\I.TT≠234)(a:I.RT≠59/\I.RT≠234):NoD W (TbS tb mb rv):=λ_ _ _ _ hx hc=>
 ⟨λe=>h.other hc (e▸h1.1.symm) (e▸a.1.symm) hx,λe=>h.other hc (e▸h1.2.symm) (e▸a.2.symm) hx⟩
def TbW.two(h:TbW I fb tb mb kf ff W rv g T)(k:TbW I' fb' tb' mb' kf' ff' W rv' g' T')(h1:I.TT≠I'.TT)(f:I.TT≠I'.RT)(j:I.RT≠I'.TT)(l:I.RT≠I'.RT)(hm:mb≠mb'):∀x,TbS tb mb rv x->¬TbS tb' mb' rv' x:=by
 rintro x (rfl|rfl|e)
 .have:=h.b;unfold Blk at this;exact k.other this h1 f
 .obtain⟨D,⟨es,c,a,_⟩,_⟩:=h.map;rintro(rfl|rfl|e)
  .have:=k.b;unfold Blk at this;rw[this]at a;cases a
  .exact hm rfl
  .obtain⟨cs,hc⟩:=fe k.row e;rw[hc]at a;cases a
 .obtain⟨cs,hc⟩:=fe h.row e;exact k.other hc j l
end
@[reducible] def IU {α:Type}(kv:α->Value) (Q:α->Prop) (num:α->Nat) (N:Nat):TI α:=⟨132,230,96,2,kv,Q,num,N⟩
def okY(F:FD)(y:PT):Prop:=kM F.s' y/\okT (zx F.ds') y/\vu y
def uQ(F:FD)(a:PT×PT):Prop:=okQ F (.ty a.1)/\okY F a.2
def kvU(a:PT×PT):Value:=.agg #[I_ a.1.place,I_ a.2.place]
def uI(F:FD):TI (PT×PT):=IU kvU (uQ F) (λa=>a.1.place*300+a.2.place) 90000
def LL(F:FD)(t:PT)(k:Nat):Prop:=∀d,Dat (zx F.ds) d t->kn k (ndT d)
def uR{F:FD}{T:List (Rw Qu)}(b:Gd (ClD F) T){x:Rw Qu}(hx:x∈T)(ha:x.a=.ty t):LL F t x.n:=λ_ hd=>(eE b).all hd x.n ⟨x,hx,ha,rfl⟩
structure ClU(F:FD)(T:List (Rw (PT×PT)))(a:PT×PT)(v:Nat):Prop where
 alts0:∀p ws,a.1=.alts p ws->∀w1∈ws,∃k,gz T (w1,a.2) k/\le0 v (jnN [k])
 never:a.1.isAlts=false->Nev (zx F.ds) (zx F.ds') a.1 a.2->∃k,LL F a.1 k/\le0 v k
 items:∀c p p' u u',a.1=.wrap c p u->Via (zx F.ds) (zx F.ds') a.1 a.2 (.wrap c p' u')->∃k,gz T (u,u') k/\le0 v (jnN [k])
 sym:∀c p p' lw lr ow o q,a.1=.leaf c p->Via (zx F.ds) (zx F.ds') a.1 a.2 (.leaf c p')->zu c=false->zx F.ds c=some (.enum lw ow)->zx F.ds' c=some (.enum lr o)->q<lw.length->ql lr o ((lw.map Prod.fst).getD q 0)=none->le0 v 1
 field:∀c p p' fw fr g i h,a.1=.leaf c p->Via (zx F.ds) (zx F.ds') a.1 a.2 (.leaf c p')->zu c=false->zx F.ds c=some (.recd fw)->zx F.ds' c=some (.recd fr)->g∈fr->jg fw g.letter=some i->fw[i]?=some h->∃(ks:List Nat),ks.length=fw.length/\(∀(q:Nat) (f:PF) (k:Nat),fw[q]?=some f->ks[q]?=some k->if q=i then gz T (h.ty,g.ty) k else LL F f.ty k)/\le0 v (jnN ks)
 lack:∀c p p' fw fr g,a.1=.leaf c p->Via (zx F.ds) (zx F.ds') a.1 a.2 (.leaf c p')->zu c=false->zx F.ds c=some (.recd fw)->zx F.ds' c=some (.recd fr)->g∈fr->jg fw g.letter=none->g.dflt=none->∃(ks:List Nat),ks.length=fw.length/\(∀(q:Nat) (f:PF) (k:Nat),fw[q]?=some f->ks[q]?=some k->LL F f.ty k)/\le0 v (jnN ks)
def QZ(F:FD):Vl (ClU F):=by
 intro T R a v h;refine⟨λp ws e w1 hw=>?_,h.never,λc p p' u u' e hv=>?_,h.sym,λc p p' fw fr g i H l o w x y z E G=>?_,h.lack⟩
 .obtain⟨k,h1,b⟩:=h.alts0 p ws e w1 hw;exact⟨k,h1.more R,b⟩
 .obtain⟨k,h1,b⟩:=h.items c p p' u u' e hv;exact⟨k,h1.more R,b⟩
 .obtain⟨ks,h1,b,K⟩:=h.field c p p' fw fr g i H l o w x y z E G;refine⟨ks,h1,λq f k e e'=>?_,K⟩;have:=b q f k e e';split at this
  .rename_i j;rw[i_ j];exact this.more R
  .rename_i j;rw[n_ j];exact this
def sh{F:FD}{T:List (Rw (PT×PT))}(h:Gd (ClU F) T):ClP (zx F.ds) (zx F.ds') (LL F) (λx y n=>gz T (x,y) n):=by
 have f:∀{x y n},gz T (x,y) n->∃v,ClU F T (x,y) v/\le0 n v:=λ{x y n} hk=>by
  obtain⟨r,M,N,rfl⟩:=hk;obtain⟨v,h1,a⟩:=h r M;rw[N]at h1;exact⟨v,h1,gU a⟩
 refine⟨λp ws y n hk w1 hw=>?_,λx y n hk hx hv=>?_,λc p p' u u' y n hk hv=>?_,λc p p' y n lw lr ow o q hk hv j l w z E=>?_,λc p p' y n fw fr g i K hk hv j l w z E G=>?_,λc p p' y n fw fr g hk hv j l w z E G=>?_⟩
 .obtain⟨v,h1,a⟩:=f hk;obtain⟨k,b,e⟩:=h1.alts0 p ws rfl w1 hw;exact⟨k,b,a.trans e⟩
 .obtain⟨v,h1,a⟩:=f hk;obtain⟨k,b,e⟩:=h1.never hx hv;exact⟨k,b,a.trans e⟩
 .obtain⟨v,h1,a⟩:=f hk;obtain⟨k,b,e⟩:=h1.items c p p' u u' rfl hv;exact⟨k,b,a.trans e⟩
 .obtain⟨v,h1,a⟩:=f hk;exact a.trans (h1.sym c p p' lw lr ow o q rfl hv j l w z E)
 .obtain⟨v,h1,a⟩:=f hk;obtain⟨ks,b,e,H⟩:=h1.field c p p' fw fr g i K rfl hv j l w z E G;exact⟨ks,b,e,a.trans H⟩
 .obtain⟨v,h1,a⟩:=f hk;obtain⟨ks,b,e,H⟩:=h1.lack c p p' fw fr g rfl hv j l w z E G;exact⟨ks,b,e,a.trans H⟩
def uqv(F:FD)(W:World)(a:PT×PT)(v:List Value):Prop:=∃u u',v=[u,u']/\TyV W F.P a.1 u/\TyV W F.P' a.2 u'
def uqv.fr{F:FD}(b:F.OK){W:World}{a:PT×PT}{v:List Value}(h:uqv F W a v)(hf:Fr W W' S)(c:∀x,S x->F.fb<x):uqv F W' a v:=by
 obtain⟨u,u',e,h1,f⟩:=h;exact⟨u,u',e,h1.fr hf (λx hx e=>by have:=c x e;have:=b.pP x hx;omega),f.fr hf (λx hx e=>by have:=c x e;have:=b.pP' x hx;omega)⟩
abbrev UD(F:FD)(a:PT×PT):DT->Prop:=Un (zx F.ds) (zx F.ds') a.1 a.2
abbrev UA(a:PT×PT):PT->Prop:=λu=>u=a.1
def uT(F:FD):TP (PT×PT) (Value×List (Rw Qu)):=⟨λW r=>TbI (dT F) (dI F) (dL F) W () r.1 false r.2/\Gd (ClD F) r.2,λr x=>TbS F.tb F.mb r.1 x,λW J a n d=>svD F W J (UD F a) (UA a) n d,λW a v=>uqv F W a v/\uQ F a,ClU F⟩
def uL(F:FD):TL:=⟨F.fb,F.tu,F.mu,.func (.func 50) #[] #[],.func (.func 51) #[P_ F.fb] #[]⟩
def Pr{F:FD}{W:World}{rv:Value}{g:Bool}{T:List (Rw (PT×PT))}(h:TbW (uI F) (uL F).fb (uL F).tb (uL F).mb (uL F).kf (uL F).ff W rv g T):NoD W (TbS F.tu F.mu rv):=
 h.noD (by show 132≠_/\132≠_;decide) (by show 230≠_/\230≠_;decide)
def eh{F:FD}(a:F.OK){W:World}{rv rv':Value}{g g':Bool}{T:List (Rw Qu)}{T':List (Rw (PT×PT))}(h:TbW (dI F) (dL F).fb (dL F).tb (dL F).mb (dL F).kf (dL F).ff W rv g T)(k:TbW (uI F) (uL F).fb (uL F).tb (uL F).mb (uL F).kf (uL F).ff W rv' g' T'):∀x,TbS F.tb F.mb rv x->¬TbS F.tu F.mu rv' x:=
 h.two k (by show 197≠132;decide) (by show 197≠230;decide) (by show 260≠132;decide) (by show 260≠230;decide) a.mm
def vo{F:FD}(b:F.OK):(uT F).OK (uI F) (uL F) where
 rs:=λW r x h hx=>h.1.t.li hx
 rfr:=λW W' r rv g T h c hf=>
  ⟨⟨h.1.i.fr b hf (λx hx=>(c.li hx).1),h.1.t.fr hf (λx hx=>eh b h.1.t c x hx),λx hx=>⟨svD.frS (h.1.v x hx).1 hf (Pr c),qvD.fr b (h.1.v x hx).2.1 hf (λx hx=>(c.li hx).1),(h.1.v x hx).2.2⟩⟩,h.2⟩
 rnew:=λW W' r h hf=>⟨h.1.new (gc b) hf,h.2⟩
 sv:=λW W' S S' a n d h hs=>svD.stp h hs
 qv:=λW W' S a v h hf f=>⟨h.1.fr b hf f,h.2⟩
 mono:=QZ F
 z:=λW J a=>⟨λ_=>rfl,λe=>absurd rfl e⟩
 put:=λW W' r q cs j h hb hf=>⟨h.1.put (gc b) j hb hf,h.2⟩
 svp:=λW W' J a n d q cs h hb hf=>svD.put h hb D_ D_ hf
 tt:=⟨by show 132≠_;decide,by show 230≠_;decide⟩
def TbI.data{F:FD}(j:F.OK){W:World}{r:Value×List (Rw Qu)}{rv b:Value}{g:Bool}{T:List (Rw (PT×PT))}{a:List (Rw Qu)}(h:TbI (uT F) (uI F) (uL F) W r rv g T)(o:TbI (dT F) (dI F) (dL F) W' () b false a)(hs:Stp W W' (TSS (dT F) (dL F) r.1 ()) (TSS (dT F) (dL F) b ()))(hg:Gd (ClD F) a):TbI (uT F) (uI F) (uL F) W' (b,a) rv g T/\Stp W W' (TSS (uT F) (uL F) rv r) (TSS (uT F) (uL F) rv (b,a)):=by
 have c:∀rv x,TSS (dT F) (dL F) rv () x->TbS F.tb F.mb rv x:=λrv x h=>h.elim id (λf=>f.elim);have l:Stp W W' (TSS (uT F) (uL F) rv r) (TSS (uT F) (uL F) rv (b,a)):=⟨hs.1.mono (λx _ e=>.inr (c _ x e)),λx hx e=>e.elim .inl (λe=>.inr (c _ x (hs.2 x hx (.inl e))))⟩;refine⟨⟨⟨o,hg⟩,h.t.fr hs.1 (λx hx e=>eh j h.i.1.t h.t x (c _ x e) hx),λx hx=>⟨svD.stp (h.v x hx).1 l,(h.v x hx).2.1.fr j hs.1 (λx hx=>(h.i.1.t.li (c _ x hx)).1),(h.v x hx).2.2⟩⟩,l⟩
def svD.data{F:FD}{W:World}{rv a:Value}{g:Bool}{T:List (Rw (PT×PT))}{b:List (Rw Qu)}{D:DT->Prop}{A:PT->Prop}{n:Nat}{d:Value}(h:TbI (uT F) (uI F) (uL F) W (a,b) rv g T)(hv:svD F W (λy=>¬TSS (dT F) (dL F) a () y) D A n d):svD F W (λy=>¬TSS (uT F) (uL F) rv (a,b) y) D A n d:=
 (hv.not (Pr h.t)).mono (λ_ hx e=>e.elim hx.2 (λe=>hx.1 (.inl e))) (λ_ h=>h)
end Go.Proofs.YtjkiencmjggakaaGreatDoor
