import Derived.Test.YtahhhgbojlkjnaaGreatDoorW30
import Derived.Stop.LaidErr
import Derived.ProofKit
import Derived.Lay
import Derived.LaidHandle
import Derived.PinnedBridge
import Derived.Lib.LaidPrint
import Derived.Lib.LaidTab
import Derived.Stop.Joined
import Derived.Test.YtahhhgbojlkjnaaGreatDoorTie
import Derived.Test.YtahhhgbojlkjnaaGreatDoorCards
import Derived.SevenTiedAt
set_option maxHeartbeats 16000000
set_option maxRecDepth 100000
set_option linter.defProp false
set_option linter.unusedSimpArgs false
set_option linter.unusedVariables false
open Go.Proofs.Tryz
namespace Go.Proofs.YtahhhgbojlkjnaaGreatDoor
open Go.RowKit
variable {t t':PT}{ds:Ar}{sw sr s bs:BA}{w:Aw}{n nm:String}{g:Nat}{df:Ad}{P:Cc}{ti tp:As}{text:Cd}
def rsv(ew er:Ay)(df:Ad)(t t':PT):Except Nat (DT×Nat×Nat)->Except Nat (DT×Nat)
 | .error e=>.error e
 | .ok (d,j,_)=>match mkP ew er df 300 t t' d with
  |none=>.error 8
  |some x=>if ndT x > 300 then .error 7 else .ok (x,j)
def uS(W:Aw)(r:Except Nat (DT×Nat))(e:Ah)(w':Aw):Prop:=
 ∃(k:Nat) (n:Int) (tx:BA) (a1:Option Addr) (m1 c1:Nat) (a2:Option Addr) (m2 c2:Nat) (j er:Nat),e=.returned (.tuple #[.agg (zq k n tx (.slice a1 m1 c1) (.slice a2 m2 c2)).toArray,I_ j,I_ er])/\Fr W w' N_/\
 match r with
 | .error e0=>e0≠0/\er=e0
 | .ok (x,j')=>er=0/\j=j'/\zF w' (λ_=>True) x (zq k n tx (.slice a1 m1 c1) (.slice a2 m2 c2))
def Qz{W:Aw}{ba bb ra rb:Nat}{s':BA}{ta tb:Aq}{ew er:Ay}{rd:Except Nat (DT×Nat×Nat)}(A:SC W ba s ta ew)(Bz:SC W bb s' tb er)(a9:∀c fs q g x,er c=some (.recd fs)->fs[q]?=some g->df g=some x->∃gg n cp v,W.cell? ⟨bb,1+(c-65)*5+1,none⟩=some (S_ gg n cp)/\(∀j y,v[j]?=some y->W.cell? ⟨gg,q*10+5+j,none⟩=some y)/\zF W (λ_=>True) x v)(ca:W.cell? ⟨ba,31,none⟩=some (I_ ra))(cb:W.cell? ⟨bb,31,none⟩=some (I_ rb))(b9:isT ta ra t)(d0:isT tb rb t')(Y:MY ew er df)(b4:∀c fs,ew c=some (.recd fs)->fs.length<=300)(b6:okT ew t)(hR:okR er t')(M:∀V,Fr W V N_->Calls prog 12 #[P_ ba,.string bs] V (rG V rd))(b8:∀e,rd=.error e->e≠0)(b7:∀d j m,rd=.ok (d,j,m)->Dat ew d t/\ndT d<=300/\∀x,mkP ew er df 300 t t' d=some x->ndT x<=1000000000):Calls prog 7 #[P_ ba,P_ bb,.string bs] W (uS W (rsv ew er df t t' rd)):=by
 refine hq_ λa5 Q_=>?_;obtain⟨V,hV⟩:=e_ (W.alloc (.cells zf.toArray 32));have F0:Fr W V N_:=hV▸(A_ W _).alloc _;have B1:Blk V W.heap.size zf 32:=hV▸B_ W zf.toArray 32;replace M:=M V F0;have e1:V.heap.size=W.heap.size+1:=by rw[hV];simp
 have bad:H_ (∀(p:Nat) (z:World),rsv ew er df t t' rd=.error p->p≠0->Fr W z N_->a5 (.returned (.tuple #[.agg (zq 0 0 ⟨#[]⟩ (L_) (L_)).toArray,O_,I_ p])) (((((z.setCell ⟨W.heap.size,0,none⟩ (.int .u8 0)).setCell ⟨W.heap.size,1,none⟩ (O_)).setCell ⟨W.heap.size,2,none⟩ (.string ⟨#[]⟩)).setCell ⟨W.heap.size,3,none⟩ (L_)).setCell ⟨W.heap.size,4,none⟩ (L_))):=zy (λp z h h0 hF=>by
  rw[Q_.o,h]
  exact⟨0,0,⟨#[]⟩,none,0,0,none,0,0,0,p,rfl,hF.trans (Fr.fi z W.heap.size _ _ _ _ _) (λx hx e=>M_),h0,rfl⟩)
 replace hV:=zy hV;replace F0:=zy F0;cases O:rd with
 |error p=>
  rw[O]at M bad;have a:=b8 p O;have l:((p:Int)==0)=false:=by simp;exact a
  replace M:=zy M;replace a:=zy a;clear A Bz a9 b9 d0 Y b4 b6 hR b7 b8 Q_ ca cb;replace O:=zy O;go_in;go_upto_region 1 with fail;change Code.wp _ _ _ _ (W.alloc (.cells zf.toArray 32));rw[<- hV.o];go_wp2_with (go_at_call 12;apply M.o.mono;rintro e L ⟨k,n,tx,D,G,c1,E,H,c2,j,d7,rfl,f2,b5⟩;simp only[zq];obtain⟨-,rfl,-⟩:=b5;have f:=zy ((f2.alloc (.cells #[U_ k,Z_ n,.string tx,.slice D G c1,.slice E H c2] 32)).bl B1 id);obtain⟨r0,r1,I,J,K⟩:=f.o.f5;obtain⟨t0,t1,t2,t3,t4⟩:=f.o.t5;simp only[zf,zq,aa_,ab_,af_]at r0 r1 I J K;have f3:=zy ((F0.o.trans f2 u_).alloc (.cells #[U_ k,Z_ n,.string tx,.slice D G c1,.slice E H c2] 32));clear f2);exact xB results7 f.o (bad.o _ _ rfl a f3)
 |ok y=>
  obtain⟨d,j,m⟩:=y;obtain⟨d1,d6,a8⟩:=b7 d j m O;rw[O]at M;have N:∀(p:Nat) (z:World),(match mkP ew er df 300 t t' d with|none=>Except.error 8|some x=>if ndT x > 300 then .error 7 else .ok (x,j))=Except.error p->p≠0->Fr W z N_->a5 (.returned (.tuple #[.agg (zq 0 0 ⟨#[]⟩ (L_) (L_)).toArray,O_,I_ p])) (((((z.setCell ⟨W.heap.size,0,none⟩ (.int .u8 0)).setCell ⟨W.heap.size,1,none⟩ (O_)).setCell ⟨W.heap.size,2,none⟩ (.string ⟨#[]⟩)).setCell ⟨W.heap.size,3,none⟩ (L_)).setCell ⟨W.heap.size,4,none⟩ (L_)):=λp z h=>bad.o p z (by rw[O];exact h);have a1:∀x,mkP ew er df 300 t t' d=some x->¬ndT x > 300->a5=uS W (.ok (x,j)):=λx hx h3=>by rw[Q_.o,O];unfold rsv;simp only[hx,n_ h3]
  clear bad Q_;replace N:=zy N;replace a1:=zy a1;have M:=zy M;go_in;go_upto_region 1 with fail;change Code.wp _ _ _ _ (W.alloc (.cells zf.toArray 32));rw[<- hV.o];go_upto_region 4 with(go_at_call 12;apply M.o.mono;rintro e L ⟨k,n,tx,D,G,c1,E,H,c2,j,d7,rfl,f2,b5⟩;simp only[zq];obtain⟨rfl,rfl,a6⟩:=b5;have d2:=zy f2;replace a6:=zy a6;clear f2);obtain⟨a,a4⟩:=e_ (L.alloc (.cells #[U_ k,Z_ n,.string tx,.slice D G c1,.slice E H c2] 32));have f3:Fr V a N_:=by rw[a4];exact d2.o.alloc _
  have D3:Blk a L.heap.size (zq k n tx (.slice D G c1) (.slice E H c2)) 32:=by rw[a4];exact B_ L #[U_ k,Z_ n,.string tx,.slice D G c1,.slice E H c2] 32
  have v3:zF a (λg=>g<a.heap.size/\g≠W.heap.size) d (zq k n tx (.slice D G c1) (.slice E H c2)):=by
   have h:=a6.o.fr ((A_ L N_).alloc (.cells #[U_ k,Z_ n,.string tx,.slice D G c1,.slice E H c2] 32)) u_;rw[<- a4]at h;exact h.mono (λg hg p=>⟨hg,by omega⟩)
  change Code.wp _ _ _ _ (L.alloc (.cells #[U_ k,Z_ n,.string tx,.slice D G c1,.slice E H c2] 32));rw[<- a4];have Q:=F0.o.trans f3 u_;have R3:=f3.bl B1 id;have X3:MX a (a.heap.size,W.heap.size) ba bb s s' ta tb ew er df:=⟨A.fr Q,Bz.fr Q,λc fs q g x h1 h2 h3=>by
   obtain⟨gg,n,cp,v,M,e2,e3⟩:=a9 c fs q g x h1 h2 h3
   exact⟨gg,n,cp,v,Q.ke M,λi y hy=>Q.ke (e2 i y hy),((fB e3).fr Q u_).mono (λg hg p=>⟨hg,by have:=p.2;show g≠W.heap.size;omega⟩)⟩,l_⟩
  obtain⟨CL,hCL⟩:∃C:World->Prop,H_ (C=λW'=>W'.cell? ⟨ba,31,none⟩=some (I_ ra)/\W'.cell? ⟨bb,31,none⟩=some (I_ rb)/\W'.cell? ⟨L.heap.size,0,none⟩=some (U_ k)/\W'.cell? ⟨L.heap.size,1,none⟩=some (Z_ n)/\W'.cell? ⟨L.heap.size,2,none⟩=some (.string tx)/\W'.cell? ⟨L.heap.size,3,none⟩=some (.slice D G c1)/\W'.cell? ⟨L.heap.size,4,none⟩=some (.slice E H c2)):=⟨_,rfl⟩;have T:H_ (∀W',Fr a W' N_->CL W'):=zy (λW' h=>by
   rw[hCL.o]
   have k:=Q.trans h u_
   have b:=h.bl D3 id
   exact⟨k.ke ca,k.ke cb,b.cell 0,b.cell 1,b.cell 2,b.cell 3,b.cell 4⟩)
  have a7:=zy (λW' (h:Fr a W' N_)=>Wz Y b4 300 M_ t' hR t d d6 d1 b6 W' ra rb (X3.fr h) b9 d0 k n tx D G c1 E H c2 (v3.fr h u_));have d9:(a.heap.size,W.heap.size).1<=a.heap.size:=l_;have e0:=zy (λ(gx y:Nat) (hy:((y<a.heap.size/\y≠W.heap.size)\/a.heap.size<=y)/\y≠gx) (e:y=W.heap.size)=>(by have:=R3.lt;omega:False));replace Q:=zy Q;replace O:=zy O;clear A Bz a9 b9 d0 Y b4 b6 hR b7 b8 ca cb D3 v3 X3 a4 a6 d2 f3 d1 d6;go_cut [12,13] (λv b W'=>qe a (a.heap.size,W.heap.size) (mkP ew er df 300 t t' d) v b W');case first=>
   refine tR_ CL ?_;refine tA_ 0 rfl K_ (λ_ _ _ h=>h) x6_ ?_;refine tA_ 1 rfl K_ (λ_ _ _ h=>h) x6_ ?_;refine tA_ 2 rfl K_ (λ_ _ _ h=>h) x6_ ?_;refine tA_ 3 rfl K_ (λ_ _ _ h=>h) x6_ ?_;refine tA_ 4 rfl K_ (λ_ _ _ h=>h) x6_ ?_;refine tA_ 5 rfl K_ (λ_ _ _ h=>h) x6_ ?_;refine tA_ 6 rfl K_ (λ_ _ _ h=>h) x6_ ?_;refine tA_ 7 rfl K_ (λ_ _ _ h=>h) x6_ ?_;refine tA_ 8 rfl K_ (λ_ _ _ h=>h) x6_ ?_;refine tA_ 9 rfl K_ (λ_ _ _ h=>h) x6_ ?_;refine tA_ 10 rfl K_ (λ_ _ _ h=>h) x6_ ?_;refine wm 11 15 rfl rfl K_ (T.o _ (A_ a N_).drew) (λu l=>?_) (λu l=>?_)
   .go_simp;apply(a7.o _ (A_ a N_).drew).mono;rintro e w5 ⟨U,X,Z,x1,x2,x3,x4,x5,x6,rfl,S,F⟩;simp only[zq];refine l _ _ ?_;clear l u;have B:=zy (cd (A_ a N_).drew S F);have p:=(A_ a N_).drew.trans S u_;have a2:=T.o _ p;clear S F;refine tA_ 12 rfl K_ (λ_ _ _ h=>h) x6_ ?_;refine tA_ 13 rfl K_ (λ_ _ _ h=>h) x6_ ?_;refine tA_ 14 rfl K_ (λ_ _ _ h=>h) x6_ ?_;refine zd 15 rfl K_ a2 (λu l=>?_);go_simp;refine l _ _ ?_;clear l u;have f:=zy (B_ w5 zf.toArray 32);obtain⟨r0,r1,I,J,K⟩:=f.o.f5;obtain⟨t0,t1,t2,t3,t4⟩:=f.o.t5;simp only[zf,zq,aa_,ab_,af_]at r0 r1 I J K;refine zd 16 rfl K_ (T.o _ (p.alloc _)) (λu l=>?_);go_simp;refine l _ _ ?_;clear l u;have a3:=T.o _ (qe.fr B);refine tA_ 17 rfl K_ (λ_ _ _ h=>h) x6_ ?_;refine zV K_ a3 ?_ _;clear a2 a3 p;go_wp2;go_meet;case rel=>exact B
   .go_simp;refine l _ _ ?_;clear l u;refine zd 11 rfl K_ (T.o _ ((A_ a N_).drew.alloc _)) (λu l=>?_);go_simp;apply(a7.o _ ((A_ a N_).drew.alloc _)).mono;rintro e w5 ⟨U,X,Z,x1,x2,x3,x4,x5,x6,rfl,S,F⟩;simp only[zq];refine l _ _ ?_;clear l u;have B:=zy (pU (A_ a N_).drew d9 S F);have p:Blk w5 a.heap.size zf 32:=S.bl (B_ a.drew zf.toArray 32) id;have a2:=T.o _ (((A_ a N_).drew.alloc _).trans S u_);clear S F;refine tA_ 12 rfl K_ (λ_ _ _ h=>h) x6_ ?_;refine tA_ 13 rfl K_ (λ_ _ _ h=>h) x6_ ?_;refine tA_ 14 rfl K_ (λ_ _ _ h=>h) x6_ ?_;have f:=zy (p);obtain⟨r0,r1,I,J,K⟩:=f.o.f5;obtain⟨t0,t1,t2,t3,t4⟩:=f.o.t5;simp only[zf,zq,aa_,ab_,af_]at r0 r1 I J K;refine zd 16 rfl K_ a2 (λu l=>?_);go_simp;refine l _ _ ?_;clear l u;have a3:=T.o _ (qe.fr B);refine tA_ 17 rfl K_ (λ_ _ _ h=>h) x6_ ?_;refine zV K_ a3 ?_ _;clear a2 a3;go_wp2;go_meet;case rel=>exact B
  case rest=>
   clear hCL T a7;obtain⟨gx,U,X,Z,x1,x2,x3,x4,x5,x6,rfl,rfl,f5,a,B,F⟩:=hcut;have f:=zy (f5.bl R3 id);obtain⟨r0,r1,I,J,K⟩:=f.o.f5;obtain⟨t0,t1,t2,t3,t4⟩:=f.o.t5;simp only[zf,zq,aa_,ab_,af_]at r0 r1 I J K;have F5:=zy (Q.o.trans f5 u_);cases r:mkP ew er df 300 t t' d with
   |none=>
    rw[r]at N;have a0:=zy (N.o 8 wc rfl D_ F5);rw[by_];replace r:=zy r;clear N B F;go_wp2;exact xB results7 f.o a0.o
   |some x=>
    have a:=a8 x r;rw[r]at N;rw[b3_];have hN:=zy (Xt (ndT x) x l_ a wc _ U X Z x1 x2 x3 _ (F x r));obtain⟨y0,y1,y2,y3,y4⟩:=B.f5;simp only[zf,zq,aa_,ab_,af_]at y0 y1 y2 y3 y4;have hx:=zy (F x r);by_cases h3:ndT x > 300
    .have d8:(ndT x:Int) > 300:=M_;simp only[i_ h3]at N;have a0:=zy (λz a=>N.o 7 z rfl D_ a);replace r:=zy r;replace h3:=zy h3;replace B:=zy B;generalize ndT x=nx at *;clear F N a1 a8;go_wp2_with (go_at_call 14;apply hN.o.mono;rintro e w6 ⟨rfl,R⟩;have f:=zy (R.bl (f) id);obtain⟨r0,r1,I,J,K⟩:=f.o.f5;obtain⟨t0,t1,t2,t3,t4⟩:=f.o.t5;simp only[zf,zq,aa_,ab_,af_]at r0 r1 I J K;have a:=zy (F5.o.trans R u_);clear R);exact xB results7 f.o (a0.o _ a)
    .have d8:¬(ndT x:Int) > 300:=M_;have hP:=zy (a1.o x r h3);replace r:=zy r;replace h3:=zy h3;generalize ndT x=nx at *;clear F N a1 a8;go_wp2_with (go_at_call 14;apply hN.o.mono;rintro e w6 ⟨rfl,R⟩;have f:=zy (R.bl (f) id);obtain⟨r0,r1,I,J,K⟩:=f.o.f5;obtain⟨t0,t1,t2,t3,t4⟩:=f.o.t5;simp only[zf,zq,aa_,ab_,af_]at r0 r1 I J K;have Y6:=R.bl B id;obtain⟨y0,y1,y2,y3,y4⟩:=Y6.f5;simp only[zq,aa_,ab_]at y0 y1 y2 y3 y4;have E6:=Fr.fi w6 W.heap.size (U_ U) (Z_ X) (.string Z) (.slice x1 x2 x3) (.slice x4 x5 x6);have a0:H_ (a5 (.returned (.tuple #[.agg (zq U X Z (.slice x1 x2 x3) (.slice x4 x5 x6)).toArray,I_ j,O_])) (((((w6.setCell ⟨W.heap.size,0,none⟩ (U_ U)).setCell ⟨W.heap.size,1,none⟩ (Z_ X)).setCell ⟨W.heap.size,2,none⟩ (.string Z)).setCell ⟨W.heap.size,3,none⟩ (.slice x1 x2 x3)).setCell ⟨W.heap.size,4,none⟩ (.slice x4 x5 x6))):=zy (by rw[hP.o];exact⟨U,X,Z,x1,x2,x3,x4,x5,x6,j,0,rfl,(F5.o.trans R u_).trans E6 (λy hy e=>absurd e (Nat.ne_of_lt hy)),rfl,rfl,((hx.o.fr R u_).fr E6 (λy hy e=>e0.o gx y hy e)).mono (λ_ _ _=>trivial)⟩);clear E6;clear R Y6);exact xB results7 f.o a0.o
def eI:∀{ds:List PD}{b c b':Nat}{pb:PB},vp b c ds=some (pb,b')->∃d∈ds,d.letter=c/\d.body=pb
 | [],b,c,b',pb,h=>by simp[vp]at h
 |d::r,b,c,b',pb,h=>by
  unfold vp at h;split at h
  .rename_i e;simp only[ae_,ac_]at h;exact⟨d,by simp,e,h.1⟩
  .obtain⟨a,hd,e⟩:=eI h;exact⟨a,by simp[hd],e⟩
def iz{c:Nat}{pb:PB}(h:zx ds c=some pb):∃d∈ds,d.letter=c/\d.body=pb:=by
 unfold zx at h;obtain⟨⟨a,b⟩,hl,rfl⟩:=b9_.1 h;exact eI hl
def tF{c:Nat}{fs:Am}{g:PF}(h:zx ds c=some (.recd fs))(hg:g∈fs):g∈zp ds:=by
 obtain⟨d,hd,_,hb⟩:=iz h;unfold zp;exact ch_.2 ⟨d,hd,by rw[hb];exact hg⟩
def PS{ds':Ar}(hp:zQ sw=.ok (ds,t))(ow:jr (zx ds))(or:jr (zx ds'))(few:uM (zx ds'))(hu:xH ds' t'=[])(f:jF sr ds'=[])(i:∀g,df g=match g.dflt with|none=>none|some (a,e)=>yD (zx ds') true g.ty (sr.extract a e)):MY (zx ds) (zx ds') df:=by
 unfold xH at hu;rw[bu_,List.flatMap_eq_nil_iff]at hu;unfold jF at f;rw[List.flatMap_eq_nil_iff]at f;refine⟨ow,or,few,λc fs g h hg=>hu.1 g (tF h hg),λc X h=>?_,λc fs g h hg=>?_⟩
 .obtain⟨d,hd,rfl,_⟩:=iz h;exact((jc hp).2.2.2.1 d hd).1
 .have:=f g (tF h hg);unfold dfB at this;rw[i];cases e:g.dflt with
  |none=>rfl
  |some ab=>
   obtain⟨a,b⟩:=ab;rw[e]at this;simp only at this⊢;split at this
   .assumption
   .cases this
def Fp{W:Aw}{lo N:Nat}{y C:Ax}{ds':Ar}(hp:zQ sw=.ok (ds,t))(u:zQ sr=.ok (ds',t'))(fw:uM (zx ds))(F:xM t)(fr:uM (zx ds'))(G:xM t')(hu:xH ds' t'=[])(H:jF sr ds'=[])(r:∀g,df g=match g.dflt with|none=>none|some (a,e)=>yD (zx ds') true g.ty (sr.extract a e))(M:∀e,rdB bs (zx ds) 301 t 0 0=.error e->e≠0)(L:∀d j m,rdB bs (zx ds) 301 t 0 0=.ok (d,j,m)->Dat (zx ds) d t/\ndT d<=300/\∀x,mkP (zx ds) (zx ds') df 300 t t' d=some x->ndT x<=1000000000)(A:xN W lo sw y)(B:xN W N sr C):∃(ba bb i:Nat) (tb:List TR) (P:Nat->Prop),y=P_ ba/\C=P_ bb/\ZAt W P bb tb (zx ds')/\isT tb i t'/\W.cell? ⟨bb,31,none⟩=some (I_ i)/\
  Calls prog 7 #[P_ ba,P_ bb,.string bs] W (uS W (rsv (zx ds) (zx ds') df t t' (if 4000<bs.size then .error 1 else rdB bs (zx ds) 301 t 0 0))):=by
 obtain⟨ba,y,y,ta,y,P1,P2,rfl,y,Z,o,k,l,hP,_,_⟩:=A;rw[hp]at y;cases y;obtain⟨bb,y,y,tb,i,D,E,rfl,y,f,p,J,K,C,_,I⟩:=B;rw[u]at y;cases y;have root:∀{P1 P2:Nat->Prop} {bz:Nat} {s:BA} {ts:List TR} {env:Nat->Option PB} {rt:Value},SZ W P1 P2 bz s ts env rt->W.cell? ⟨bz,31,none⟩=some rt:=λZ=>by
  obtain⟨tv,zs,a,y,_⟩:=Z.z;rw[a.cell 31];exact y.1
 refine⟨ba,bb,i,tb,_,rfl,rfl,f.toZ,p,root f,?_⟩;have Y:=PS hp k J fr hu H r;have i:yC t'=[]:=by
  unfold xH at hu;rw[bu_]at hu;exact hu.2
 refine Qz ⟨P1,P2,_,Z⟩ ⟨D,E,_,f⟩ (λc fs q g x he hg hx=>?_) (root Z) (root f) o p Y (λc fs e=>(fw c fs e).1) l ⟨K,G,i⟩ (λV f=>?_) (λe h=>?_) (λd j m h=>?_)
 .obtain⟨d,hd,hl,_⟩:=iz he;have hn:65<=c/\c<=70:=by
   have:=((jc u).2.2.2.1 d hd).1;rw[hl]at this;simpa[zZ] using this
  have u:yA (zx ds') (c-65)=fs:=z1_
  rw[r]at hx;cases e:g.dflt with
  |none=>rw[e]at hx;cases hx
  |some ab=>
   obtain⟨a,b⟩:=ab;rw[e]at hx;obtain⟨gg,n,cp,v,i,p,r⟩:=I (c-65) q M_ g a b x (by rw[u];exact hg) e hx;exact⟨gg,n,cp,v,i,p,r.mono (λ_ _ _=>trivial)⟩
 .by_cases hs:4000<bs.size
  .rw[i_ hs];exact cI hs
  .rw[n_ hs];exact rS (Z.toZ.fr f u_) (λg hg=>bg_ (hP g hg) f.size) M_ (f.ke (root Z)) o (FS k fw 301 t 0 0 l F M_ o_ M_)
 .split at h
  .cases h;decide
  .exact M e h
 .split at h
  .cases h
  .exact L d j m h
def xN.fr{W W':Aw}{lo:Nat}{b:Ax}(h:xN W lo s b)(a:Fr W W' N_):xN W' lo s b:=by
 obtain⟨bz,ds,t,ts,root,P1,P2,e,hp,Z,h1,b,c,d,f,i⟩:=h;exact⟨bz,ds,t,ts,root,P1,P2,e,hp,Z.fr a u_ u_,h1,b,c,λg hg=>bg_ (d g hg) a.size,f,λk q hk=>(i k q hk).fr a⟩
def YV(w:Aw)(sw sr:BA)(e:Ah)(w':Aw):Prop:=
 Fr w w' N_/\(((zl sw).1=0/\(zl sr).1=0/\∃ba bb lo lo',e=.returned (.tuple #[.pointer ba,.pointer bb,O_])/\xN w' lo sw (.pointer ba)/\xN w' lo' sr (.pointer bb))\/
  (¬((zl sw).1=0/\(zl sr).1=0)/\∃pa pb,e=.returned (.tuple #[.pointer pa,.pointer pb,Z_ (if (zl sw).1=0 then (zl sr).1 else (zl sw).1)])))
def jN.all{w':Aw}{e:Ah}(h:jN w s e w'):∃p,e=.returned (.tuple #[.pointer p,Z_ (zl s).1,Z_ (zl s).2])/\Fr w w' N_/\((zl s).1=0->∃lo,xN w' lo s (.pointer p)):=by
 obtain⟨b,rfl,a,hz⟩:=h;by_cases h0:(zl s).1=0
 .rw[i_ h0]at hz;obtain⟨bz,h⟩:∃bz,b=P_ bz:=by obtain⟨bz,_,_,_,_,_,_,e,_⟩:=hz;exact⟨bz,e⟩
  subst h;exact⟨_,rfl,a,λ_=>⟨_,hz⟩⟩
 .rw[n_ h0]at hz;subst hz;exact⟨none,rfl,a,λh=>absurd h h0⟩
def Zk:Calls prog 5 #[.string sw,.string sr] w (YV w sw sr):=by
 refine hq_ λm i=>?_;have l:=zy ((ef (w:=w) (s:=sw)).mono (λe w' h=>jN.all h));have hB:=zy (λV=>(ef (w:=V) (s:=sr)).mono (λe w' h=>jN.all h));by_cases h0:(zl sw).1=0
 .have j:H_ (∀w1 f pa pb,Fr w w1 N_->Fr w1 f N_->(∃lo,xN w1 lo sw (.pointer pa))->((zl sr).1=0->∃lo,xN f lo sr (.pointer pb))->m (.returned (.tuple #[.pointer pa,.pointer pb,Z_ (zl sr).1])) f):=zy (λw1 f pa pb a d b c=>by
   rw[i.o]
   refine⟨a.trans d u_,?_⟩
   by_cases h1:(zl sr).1=0
   .obtain⟨lo,b⟩:=b
    obtain⟨k,c⟩:=c h1
    exact .inl ⟨h0,h1,pa,pb,lo,k,by rw[h1],b.fr d,c⟩
   .exact .inr ⟨λh=>h1 h.2,pa,pb,by rw[i_ h0]⟩)
  rw[h0]at l;generalize (zl sr).1=q at *;generalize (zl sr).2=q2 at *;generalize (zl sw).2=q3 at *;go_in;go_upto_region 4 with(go_at_call 11;apply l.o.mono;rintro e w1 ⟨pa,rfl,a,b⟩;replace a:=zy a;replace b:=zy (b rfl));go_wp2_with (go_at_call 11;apply(hB.o _).mono;rintro e f ⟨pb,rfl,d,c⟩;have k:=zy (j.o _ _ pa pb a d b c));refine bodyPost_ret (v:=.tuple #[.pointer pa,.pointer pb,Z_ q]) (by simp[results,results5,go_sem]) rfl ?_;exact k
 .have j:H_ (∀w1,Fr w w1 N_->m (.returned (.tuple #[.pointer none,.pointer none,Z_ (zl sw).1])) w1):=zy (λw1 a=>by
   rw[i.o]
   exact⟨a,.inr ⟨λh=>h0 h.1,_,_,by rw[n_ h0]⟩⟩)
  have b:((zl sw).1==0)=false:=by simp;exact h0
  generalize (zl sw).1=q at *;generalize (zl sw).2=q2 at *;go_in;go_wp2_with (go_at_call 11;apply l.o.mono;rintro e w1 ⟨pa,rfl,a,-⟩;have k:=zy (j.o _ a));refine bodyPost_ret (v:=.tuple #[.pointer none,.pointer none,Z_ q]) (by simp[results,results5,go_sem]) rfl ?_;exact k
def Bn(OK:Prop)(sw sr bs:BA)(b:BA)(j:Nat)(q:Int):Prop:=
 ((zl sw).1=0/\(zl sr).1=0/\∃(er:Nat->Option PB) (t':PT) (r:Except Nat (DT×Nat)),
   (∀W lo lo' za zb,xN W lo sw za->xN W lo' sr zb->∃(ba bb rb:Nat) (tb:List TR) (P:Nat->Prop),za=P_ ba/\zb=P_ bb/\ZAt W P bb tb er/\isT tb rb t'/\W.cell? ⟨bb,31,none⟩=some (I_ rb)/\Calls prog 7 #[P_ ba,P_ bb,.string bs] W (uS W r))/\
   ((∃e0:Nat,r=.error e0/\b=noB/\j=0/\q=(e0:Int))\/
    (∃x,r=.ok (x,j)/\b=txT er x t'/\q=0/\∀(_:OK) (W:World) (P Pd:Nat->Prop) (bz:Nat) (ts:List TR) (i:Nat),ZAt W P bz ts er->isT ts i t'->∀(k:Nat) (n:Int) (tx:BA) (vk vs:Value),zF W Pd x (zq k n tx vk vs)->Calls prog 8 #[P_ bz,.agg (zq k n tx vk vs).toArray,I_ i] W λe w'=>e=.returned (.string (txT er x t'))/\Fr W w' N_)))\/
 (¬((zl sw).1=0/\(zl sr).1=0)/\b=noB/\j=0/\q=if (zl sw).1=0 then (zl sr).1 else (zl sw).1)
def VO{R:Prop}{b:BA}{j:Nat}{q:Int}(r:Calls prog 4 #[.string sw,.string sr,.string bs] w λe w'=>e=.returned (.tuple #[.string b,I_ j,Z_ q])/\Fr w w' N_/\R)(hR:Bn R sw sr bs b j q):Calls prog 3 #[.string sw,.string sr,.string bs] w λe w'=>e=.returned (.bool true)/\Fr w w' N_:=by
 refine hq_ λa3 S=>?_;have hB:=zy (λV=>Zk (w:=V) (sw:=sw) (sr:=sr));have K:H_ (∀V,Fr w V N_->a3 (.returned (.bool true)) V):=zy (λV G=>by rw[S.o];exact⟨rfl,G⟩);replace r:=zy r;clear S;rcases hR with⟨h0,h1,er,t',a8,hp,hr⟩|⟨L,rfl,rfl,M⟩
 .have J:H_ (∀V e c,YV V sw sr e c->∃(ba bb z:Nat) (tb:List TR) (P:Nat->Prop),e=.returned (.tuple #[P_ ba,P_ bb,O_])/\Fr V c N_/\ZAt c P bb tb er/\isT tb z t'/\c.cell? ⟨bb,31,none⟩=some (I_ z)/\Calls prog 7 #[P_ ba,P_ bb,.string bs] c (uS c a8)):=zy (λV e c h=>by
   obtain⟨d,⟨_,_,pa,pb,lo,a7,rfl,A,B⟩|⟨hn,_⟩⟩:=h
   .obtain⟨ba,bb,z,tb,P,e1,e2,h1,h2,h3,h4⟩:=hp c lo a7 _ _ A B
    cases e1
    cases e2
    exact⟨ba,bb,z,tb,P,rfl,d,h1,h2,h3,h4⟩
   .exact absurd ⟨h0,h1⟩ hn)
  clear hp h0 h1;rcases hr with⟨X,rfl,rfl,rfl,rfl⟩|⟨x,rfl,rfl,rfl,E⟩
  .rw[show noB=⟨#[]⟩ from rfl]at r;have a5:((X:Int)==(X:Int))=true:=x8_
   go_in;go_wp2_with (first
    |(go_at_call 4;refine r.o.mono ?_;rintro e w1 ⟨rfl,f,-⟩;replace f:=zy f)
    |(go_at_call 5;refine(hB.o _).mono ?_;intro e c h;obtain⟨ba,bb,z,tb,P,rfl,d,Z,D,F,u⟩:=J.o _ e c h;replace d:=zy (f.o.trans d u_);revert Z D F u;refine g_ λZ D F u=>?_;clear h)
    |(go_at_call 7;refine u.o.mono ?_;rintro e i ⟨k,n,tx,m,v,c1,p,y,c2,j',Y,rfl,f3,a6,rfl⟩;have h8:((Y:Int)==0)=false:=(by simp;exact a6);have H:=zy (K.o _ ((d.o.trans f3 u_).alloc (.cells #[U_ k,Z_ n,.string tx,.slice m v c1,.slice p y c2] 32)));clear f3;simp only[zq])
    |go_in)
   exact H
  .obtain⟨tt,N⟩:=e_ (txT er x t');rw[<- N]at r E;replace E:=zy E;replace N:=zy N;go_in;go_upto_region 8 with(first
    |(go_at_call 4;refine r.o.mono ?_;rintro e w1 ⟨rfl,f,ok⟩;replace E:=zy (E.o ok);clear ok;replace f:=zy f)
    |(go_at_call 5;refine(hB.o _).mono ?_;intro e c h;obtain⟨ba,bb,z,tb,P,rfl,d,Z,D,F,u⟩:=J.o _ e c h;replace d:=zy (f.o.trans d u_);revert Z D F u;refine g_ λZ D F u=>?_;clear h)
    |(go_at_call 7;refine u.o.mono ?_;rintro e i ⟨k,n,tx,m,v,c1,p,y,c2,j',Y,rfl,f3,rfl,rfl,G⟩;replace f3:=zy f3;replace G:=zy G;simp only[zq]))
   obtain⟨l,I⟩:=e_ (i.alloc (.cells #[U_ k,Z_ n,.string tx,.slice m v c1,.slice p y c2] 32));have f4:Fr c l N_:=by rw[I];exact f3.o.alloc _
   have U:Blk l i.heap.size #[U_ k,Z_ n,.string tx,.slice m v c1,.slice p y c2].toList 32:=by rw[I];exact B_ i #[U_ k,Z_ n,.string tx,.slice m v c1,.slice p y c2] 32
   have T:zF l (λ_=>True) x (zq k n tx (.slice m v c1) (.slice p y c2)):=by rw[I];exact G.o.fr ((A_ i N_).alloc _) u_
   change Code.wp _ _ _ _ (i.alloc (.cells #[U_ k,Z_ n,.string tx,.slice m v c1,.slice p y c2] 32));rw[<- I];obtain⟨Q,hCL⟩:∃C:World->Prop,H_ (C=λW'=>W'.cell? ⟨i.heap.size,0,none⟩=some (U_ k)/\W'.cell? ⟨i.heap.size,1,none⟩=some (Z_ n)/\W'.cell? ⟨i.heap.size,2,none⟩=some (.string tx)/\W'.cell? ⟨i.heap.size,3,none⟩=some (.slice m v c1)/\W'.cell? ⟨i.heap.size,4,none⟩=some (.slice p y c2)/\W'.cell? ⟨bb,31,none⟩=some (I_ z)):=⟨_,rfl⟩;have O:H_ (∀W',Fr l W' N_->Q W'):=zy (λW' h=>by
    rw[hCL.o]
    have b:=h.bl U id
    exact⟨b.cell 0,b.cell 1,b.cell 2,b.cell 3,b.cell 4,(f4.trans h u_).ke F⟩)
   have a4:=zy (E.o l.drew P _ bb tb z ((Z.o.fr f4 u_).fr ((A_ l N_).drew) u_) D k n tx _ _ (T.fr ((A_ l N_).drew) u_))
   replace f4:=zy f4;clear U T I E G f3 Z D F u;refine tR_ Q ?_;refine tA_ 0 rfl K_ (λ_ _ _ h=>h) xd_ ?_;refine tA_ 1 rfl K_ (λ_ _ _ h=>h) xd_ ?_;refine tA_ 2 rfl K_ (λ_ _ _ h=>h) xd_ ?_;refine tA_ 3 rfl K_ (λ_ _ _ h=>h) xd_ ?_;refine tA_ 4 rfl K_ (λ_ _ _ h=>h) xd_ ?_;refine tA_ 5 rfl K_ (λ_ _ _ h=>h) xd_ ?_;refine zd 6 rfl K_ (O.o _ ((A_ l _).drew)) (λK1 a0=>?_);go_simp;refine a4.o.mono ?_;rintro e w5 ⟨rfl,f5⟩;refine a0 _ _ ?_;clear a0 K1;replace f5:=(A_ l N_).drew.trans f5 u_;have a2:=O.o _ f5;refine tA_ 7 rfl K_ (λ_ _ _ h=>h) xd_ ?_;refine zV K_ a2 ?_ _;have H:=zy (K.o _ ((d.o.trans f4 u_).trans f5 u_));clear a2 O hCL f5;go_wp2_with go_in;exact H
 .have J:H_ (∀V e c,YV V sw sr e c->∃pa pb,e=.returned (.tuple #[.pointer pa,.pointer pb,Z_ q])/\Fr V c N_):=zy (λV e c h=>by
   obtain⟨d,⟨a,b,_⟩|⟨_,pa,pb,rfl⟩⟩:=h
   .exact absurd ⟨a,b⟩ L
   .exact⟨pa,pb,by rw[M],d⟩)
  have a1:q≠0:=by
   rw[M];by_cases h0:(zl sw).1=0
   .rw[i_ h0];exact λh1=>L ⟨h0,h1⟩
   .rw[n_ h0];exact h0
  have a5:(q==q)=true:=x8_
  have b4:(q==0)=false:=by simp;exact a1
  have hb:(noB==(⟨#[]⟩:BA))=true:=rfl;clear L M a1;rw[show noB=⟨#[]⟩ from rfl]at r;go_in;go_wp2_with (first
   |(go_at_call 4;refine r.o.mono ?_;rintro e w1 ⟨rfl,f,-⟩;replace f:=zy f)
   |(go_at_call 5;refine(hB.o _).mono ?_;intro e c h;obtain⟨pa,pb,rfl,d⟩:=J.o _ e c h;have H:=zy (K.o _ (f.o.trans d u_));clear h d)
   |go_in)
  exact H
def Dat.fit{env:Ay}{d:DT}(h:Dat env d t):gO env d t:=by
 induction h with
 |null=>exact .flat x8_
 |bool _=>exact .flat x8_
 |num _ _=>exact .flat x8_
 |long _ _=>exact .flat x8_
 |text _ _=>exact .flat x8_
 |bytes _ _ _=>exact .flat x8_
 |sym he hb hn=>exact .sym he zy_ hn
 |recd he hb hl _ ih=>exact .recd he zy_ hl (λi d g hd hg=>ih i d g.ty hd (by rw[a1_,hg];rfl))
 |list _ _ ih=>exact .wrap (λi d hd=>ih d (al_ hd))
 |map _ _ _ _ ih=>exact .wrap (λi d hd=>ih d (al_ hd))
 |alts _ hl _ ih=>exact .alts hl ih
def Wd(h0:(zl s).1=0)(hp:zQ s=.ok (ds,t)):jF s ds=[]:=by
 have hs:=(cJ h0 hp).1;rw[qM hs hp]at h0;split at h0
 .simp at h0
 .simp at h0
 .simp at h0
 .assumption
def PG(sw sr bs:BA):Bn (uj sw sr bs) sw sr bs (yH sw sr bs).1 (yH sw sr bs).2.1 (yH sw sr bs).2.2:=by
 by_cases f:(zl sw).1=0/\(zl sr).1=0
 .obtain⟨h0,h1⟩:=f;obtain⟨_,ds,t,hp⟩:=fu h0;obtain⟨_,ds',t',a⟩:=fu h1;obtain⟨o,p,q,C,E⟩:=nK h0 hp;obtain⟨o,r,u,v,z⟩:=nK h1 a;obtain⟨o,o,F⟩:=cJ h1 a;obtain⟨D,o⟩:=Yt h1 a;have l:∀d j m,rdB bs (zx ds) 301 t 0 0=.ok (d,j,m)->Dat (zx ds) d t/\ndT d<=300/\∀x,mkP (zx ds) (zx ds') (yN (zx ds') sr) 300 t t' d=some x->ndT x<=1000000000:=λd j m b=>by
   have G:=(iN bs (zx ds) 301 t 0 0 d j m b).2;have G:=qj bs (zx ds) 301 t 0 0 d j m o_ M_ b;obtain⟨c,_,_⟩:=Jg E bs 301 t C 0 0 d j m M_ b;exact⟨c,M_,λx hk=>by have:=tj o 300 t t' d x hk;omega⟩
  refine .inl ⟨h0,h1,zx ds',t',rsv (zx ds) (zx ds') (yN (zx ds') sr) t t' (if 4000<bs.size then .error 1 else rdB bs (zx ds) 301 t 0 0),λW lo o o o A B=>Fp hp a p q r u F (Wd h1 a) (λg=>rfl) (λe h=>by have:=Yz bs (zx ds) 301 t 0 0 e h;omega) l A B,?_⟩;unfold yH;rw[i_ h0,i_ h1,hp,a];by_cases hs:4000<bs.size
  .rw[i_ hs,i_ hs];exact .inl ⟨1,rfl,rfl,rfl,rfl⟩
  .rw[n_ hs,n_ hs];simp only;cases b:rdB bs (zx ds) 301 t 0 0 with
   |error e0=>exact .inl ⟨e0,rfl,rfl,rfl,rfl⟩
   |ok y=>
    obtain⟨d,j,m⟩:=y;obtain⟨c,o,o⟩:=l d j m b;simp only[rsv];cases hk:mkP (zx ds) (zx ds') (yN (zx ds') sr) 300 t t' d with
    |none=>exact .inl ⟨8,rfl,rfl,rfl,rfl⟩
    |some x=>
     simp only;by_cases hx:ndT x > 300
     .rw[i_ hx,i_ hx];exact .inl ⟨7,rfl,rfl,rfl,rfl⟩
     .rw[n_ hx,n_ hx];refine .inr ⟨x,rfl,rfl,rfl,λok W P C bz ts i Z G k n tx vk vs F=>?_⟩;have H:okD x:=by
       obtain⟨_,_,_,_,_,_,_,_,l,o,p,q,E⟩:=ok (by
        unfold yH
        rw[i_ h0,i_ h1,n_ hs,hp,a]
        simp only[b,hk,n_ hx])
       rw[hp]at l;cases l;rw[a]at o;cases o;rw[b]at p;cases p;rw[hk]at q;cases q;exact E
      exact nM z (ndT x) x l_ M_ H t' (KO D z r 300 t t' d x c v u hk).fit v W P C bz ts i Z G k n tx vk vs F
 .refine .inr ⟨f,?_⟩;unfold yH;by_cases h0:(zl sw).1=0
  .rw[i_ h0,n_ (λh1=>f ⟨h0,h1⟩),i_ h0];exact⟨rfl,rfl,rfl⟩
  .rw[n_ h0,n_ h0];exact⟨rfl,rfl,rfl⟩
def nU{A:Cs}(K:Kit A w):Calls prog 3 #[.string sw,.string sr,.string bs] w λe w'=>e=.returned (.bool true)/\Fr w w' N_:=
 VO (K.res sw sr bs) (PG sw sr bs)
def ZR(P:Cc)(W:Aw)(ps:List MemPlace):Prop:=∀b off,MemPlace.cell b off∈ps->
 (∃c t,W.heap[b]?=some (.cells c t (0,0)))/\∀u v,W.cell? ⟨b,off,none⟩=some (.iface u v)->Value.okWide P W .any 0 u v
def Qw(nm:String)(text:Cd):DataW Unit:=.iface nm (.ptr (.agg [.lit (.string text)]))
structure uw(P:Cc)(nm:String)(ti tp:As):Prop where
 all:∃te ts ms f,P.underlying ti=some (.interface ms)/\(∀u,P.typeName? 3 u=some nm->u=tp)/\P.underlying tp=some (.pointer te)/\P.underlying te=some (.struct #[f])/\f.type=ts/\f.offset=0/\P.underlying ts=some .string/\P.cellsOf te=1/\P.cellsOf ts=1
def kJ{W:Aw}{r:List (String×DataW Unit)}{b:List MemPlace}(T:uw P nm ti tp)(h:DataW.LaidVars P W ((n,Qw nm text)::r) b)(k:ZR P W b)(hg:P.globalNamed n=some g)(B:(P.globals[g]?).map (·.type)=some ti):∃a q,W.var? P n=some #[.iface tp (.pointer (some a))]/\DataW.LaidVars P W r q/\b=[.cell g 0,.cell a.block a.off]++q:=by
 obtain⟨te,ts,ms,f,x,A,hp,he,p,o,hs,hc,l⟩:=T.all;obtain⟨H,N,cs0,G,L,F,d,C,i,m,z,c⟩:=h;obtain rfl:=Option.some.inj (hg.symm.trans d);obtain rfl:=Option.some.inj (B.symm.trans C);obtain⟨D⟩:=cs0;have E:∀u v,D=[.iface u v]->Value.okWide P W .any 0 u v:=λu v e=>by
  subst e;exact(k g 0 (by rw[c];simp[MemPlace.row])).2 u v (by simpa using World.var?_cell d i 0)
 obtain⟨j,M,rfl,I,J,K,y⟩:=errorString_of_trod x A hp he p o hs hc l m E;refine⟨j,F,i,z,?_⟩;rw[c,y];simp[MemPlace.row]
def bJ{W:Aw}(T:uw P nm ti tp)(hg:P.globalNamed n=some g)(d:(P.globals[g]?).map (·.type)=some ti):∀{l:List (String×DataW Unit)} {ps:List MemPlace},DataW.LaidVars P W l ps->ZR P W ps->(n,Qw nm text)∈l->
  ∃a,W.var? P n=some #[.iface tp (.pointer (some a))]/\.cell a.block a.off∈ps
 | [],_,_,_,hm=>by cases hm
 |(n',d')::r,ps,h,hR,hm=>by
  rcases aq_.1 hm with e|hm
  .cases e;obtain⟨a,q,c,_,rfl⟩:=kJ T h hR hg d;exact⟨a,c,by simp⟩
  .obtain⟨k,p,cs0,j,m,o,_,_,_,_,i,rfl⟩:=h;obtain⟨a,c,f⟩:=bJ T hg d i (λb off hb=>hR b off zy_) hm;exact⟨a,c,by simp[f]⟩
def mX{W:Aw}(T:uw P nm ti tp){m:String}(A:n≠m){B:Cd}{g':Nat}(hg:P.globalNamed n=some g)(y:(P.globals[g]?).map (·.type)=some ti)(u:P.globalNamed m=some g')(z:(P.globals[g']?).map (·.type)=some ti){a a':Addr}(ha:W.var? P n=some #[.iface tp (.pointer (some a))])(p:W.var? P m=some #[.iface tp (.pointer (some a'))]):∀{l:List (String×DataW Unit)} {ps:List MemPlace},DataW.LaidVars P W l ps->ZR P W ps->ps.Nodup->(n,Qw nm text)∈l->(m,Qw nm B)∈l->a≠a'
 | [],_,_,_,_,hm,_=>by cases hm
 |(n',d')::r,ps,h,hR,hn,hm,c=>by
  rcases aq_.1 hm with e|hr
  .cases e;rcases aq_.1 c with e'|c
   .cases e';exact absurd rfl A
   .obtain⟨b,q,f,d,rfl⟩:=kJ T h hR hg y;obtain⟨j,i,v⟩:=bJ T u z d (λx off hb=>hR x off zy_) c;rw[ha]at f;rw[p]at i;have k:a=b:=by simpa using f
    have o:a'=j:=by simpa using i
    subst k;subst o;rintro rfl;simp[v]at hn
  .rcases aq_.1 c with e'|c
   .cases e';obtain⟨b,q,f,d,rfl⟩:=kJ T h hR u z;obtain⟨j,i,v⟩:=bJ T hg y d (λx off hb=>hR x off zy_) hr;rw[p]at f;rw[ha]at i;have k:a'=b:=by simpa using f
    have o:a=j:=by simpa using i
    subst k;subst o;rintro rfl;simp[v]at hn
   .obtain⟨D,G,cs0,C,E,F,_,_,_,_,d,rfl⟩:=h;exact mX T A hg y u z ha p d (λb off hb=>hR b off zy_) (List.Nodup.sublist (List.sublist_append_right _ _) hn) hr c
open Go.ChangeShapes Go.WideShapes Go.ChangeAt
def zT:List (String×DataW Unit):=Rows.resolvesRow.laid
def lC:(zT.filter λx=>x.2.handleName?.isNone)=zT:=K_
def bV:(zT.filter λx=>x.2.handleName?.isSome)=[]:=K_
def sB(os:Os):((World.holding prog os ⟨#[],#[],[]⟩).layVars prog zT).os=os:=World.layVars_os _ _ _
def lL(os:Os):(World.holding prog os ⟨#[],#[],[]⟩).layFits prog zT []=true:=by kernel_rfl
def uU(os:Os):(World.holding prog os ⟨#[],#[],[]⟩).layIfaces prog zT ((World.holding prog os ⟨#[],#[],[]⟩).layVars prog zT)=true:=by kernel_rfl
def dY(os:Os)(b:Ci):laidMetH prog zT (((World.holding prog os ⟨#[],#[],[]⟩).layVars prog zT).forCall (λ_ _=>0) ⟨#[],b,[]⟩).memory:=by
 have a:(zT.filter λx=>(zT.map (·.1)).contains x.1)=zT:=List.filter_eq_self.2 λx hx=>List.contains_iff_mem.2 (bl_.2 ⟨x,hx,rfl⟩);have c:(zT.filter λx=>!(zT.map (·.1)).contains x.1)=[]:=List.filter_eq_nil_iff.2 λx hx=>by rw[List.contains_iff_mem.2 (bl_.2 ⟨x,hx,rfl⟩)];simp
 have h:laidMet prog zT ((World.holding prog os ⟨#[],#[],[]⟩).layVars prog zT):=laidMet_layVars (w0:=World.holding prog os ⟨#[],#[],[]⟩) (zT.map (·.1)) [] (by rw[a]) (by rw[a];exact lL os) (by rw[a];exact uU os) (by rw[c];exact LaidIn.none);refine laidMetH_of_parts ?_ ?_
 .rw[lC];exact h.of_heap (by simp[World.memory,World.forCall,Input.heap])
 .rw[bV];rfl
def uB(os:Os)(a:Ci):(((World.holding prog os ⟨#[],#[],[]⟩).layVars prog zT).forCall (λ_ _=>0) ⟨#[],a,[]⟩).Shaped prog:=World.shaped_of_ZipB K_ K_
def iU: "*" ++ "errors.errorString" = "*errors.errorString":=D_
def Wu(u:As)(h:Tryz.prog.typeName? 3 u=some "*errors.errorString"):u=364:=
 typeName_ptr_named (nm:= "errors.errorString") (by rw[iU];kernel_rfl) K_ D_ u (by rw[iU];exact h)
def am:uw prog "*errors.errorString" 45 364:=
 ⟨⟨_,_,_,_,underlying45,Wu,underlying364,underlying366,rfl,rfl,underlying9,K_,K_⟩⟩
def xi:List (Nat×String×Nat):=[(8,"kin/schemas.ErrLong",9),(0,"kin/schemas.ErrGrammar",10),(1,"kin/schemas.ErrName",11),(2,"kin/schemas.ErrUnion",12),(3,"kin/notation.ErrNotOf",8),(4,"kin/wire.ErrData",14),(5,"kin/data.ErrBig",6),(6,"kin/reading.ErrNothing",15),(9,"kin/notation.ErrLong",7),(7,"kin/wire.ErrLong",13),(21,"strconv.ErrRange",4),(20,"strconv.ErrSyntax",5)]
def jH:∀x∈xi,Tryz.prog.globalNamed x.2.1=some x.1:=by
 intro x hx;simp only[xi,aq_,List.mem_nil_iff,or_false]at hx;rcases hx with rfl|rfl|rfl|rfl|rfl|rfl|rfl|rfl|rfl|rfl|rfl|rfl<;>kernel_rfl
def pd:∀x∈xi,(Tryz.prog.globals[x.1]?).map (·.type)=some 45:=by
 intro x hx;simp only[xi,aq_,List.mem_nil_iff,or_false]at hx;rcases hx with rfl|rfl|rfl|rfl|rfl|rfl|rfl|rfl|rfl|rfl|rfl|rfl<;>kernel_rfl
def pn:∀x∈xi,∃text,(x.2.1,Qw "*errors.errorString" text)∈zT:=by
 intro x hx;simp only[xi,aq_,List.mem_nil_iff,or_false]at hx;rcases hx with rfl|rfl|rfl|rfl|rfl|rfl|rfl|rfl|rfl|rfl|rfl|rfl<;>first
  |exact⟨_,al_ (i:=4) rfl⟩|exact⟨_,al_ (i:=5) rfl⟩|exact⟨_,al_ (i:=6) rfl⟩|exact⟨_,al_ (i:=7) rfl⟩|exact⟨_,al_ (i:=8) rfl⟩|exact⟨_,al_ (i:=9) rfl⟩|exact⟨_,al_ (i:=10) rfl⟩|exact⟨_,al_ (i:=11) rfl⟩|exact⟨_,al_ (i:=12) rfl⟩|exact⟨_,al_ (i:=13) rfl⟩|exact⟨_,al_ (i:=14) rfl⟩|exact⟨_,al_ (i:=15) rfl⟩
def sO:∀x∈xi,∀y∈xi,x.1=y.1->x.2.1=y.2.1:=D_
section
variable {W:Aw}
def sA(h:laidMet prog zT W):∃A:Nat->Addr,(∀x∈xi,W.var? prog x.2.1=some #[.iface 364 (.pointer (some (A x.1)))])/\(∀x∈xi,∃c t,W.heap[(A x.1).block]?=some (.cells c t (0,0)))/\
 ∀x∈xi,∀y∈xi,x.1≠y.1->A x.1≠A y.1:=by
 obtain⟨i,f,m,d⟩:=h;have j:∀x∈xi,∃a,W.var? prog x.2.1=some #[.iface 364 (.pointer (some a))]/\.cell a.block a.off∈i:=λx hx=>by
  obtain⟨text,hm⟩:=pn x hx;exact bJ am (jH x hx) (pd x hx) f d hm
 have b:∀g:Nat,∃a:Addr,∀x∈xi,x.1=g->W.var? prog x.2.1=some #[.iface 364 (.pointer (some a))]/\.cell a.block a.off∈i:=λg=>by
  by_cases hg:∃x∈xi,x.1=g
  .obtain⟨x,hx,rfl⟩:=hg;obtain⟨a,ha⟩:=j x hx;refine⟨a,λy hy e=>?_⟩;have:y.2.1=x.2.1:=sO y hy x hx e;rw[this];exact ha
  .exact⟨⟨0,0,none⟩,λx hx e=>absurd ⟨x,hx,e⟩ hg⟩
 refine⟨λg=>Classical.choose (b g),λx hx=>(Classical.choose_spec (b x.1) x hx rfl).1,λx hx=>(d _ _ (Classical.choose_spec (b x.1) x hx rfl).2).1,λx hx y hy o=>?_⟩;obtain⟨p,k⟩:=pn x hx;obtain⟨q,l⟩:=pn y hy;refine mX am (λe=>o ?_) (jH x hx) (pd x hx) (jH y hy) (pd y hy) (Classical.choose_spec (b x.1) x hx rfl).1 (Classical.choose_spec (b y.1) y hy rfl).1 f d m k l;have h1:=jH x hx;rw[e,jH y hy]at h1;exact(Option.some.inj h1).symm
def fL(h:laidMet prog zT W):Lib.TabIs prog W "internal/strconv.uint64pow10" .u64 Lib.pow10Tab:=by
 have e:(Rows.laid_internal_strconv_uint64pow10:DataW Unit)=Lib.tabData .u64 Lib.pow10Tab:=K_
 have a:laidMet prog (("internal/strconv.uint64pow10",Rows.laid_internal_strconv_uint64pow10)::zT.drop 3) W:=h.tail.tail
 rw[e]at a;exact Lib.tabIs_of_head (g:=10) (t:=317) (e:=283) (n:=20) K_ K_ K_ K_ K_ K_ a
def nY(h:laidMet prog zT W):Lib.Utf8Tabs 13 14 W:=by
 have e:Rows.laid_unicode_utf8_acceptRanges=Lib.acceptData:=K_
 have h1:=Lib.laidMet.reads h (n:= "unicode/utf8.first") (d:=Pinned.utf8First) (al_ (i:=21) rfl)
 have a:=Lib.laidMet.reads h (n:= "unicode/utf8.acceptRanges") (d:=Rows.laid_unicode_utf8_acceptRanges) (al_ (i:=3) rfl)
 rw[Pinned.utf8First_eq]at h1;rw[e]at a;exact utf8Tabs_of_reads (ρ:=Tryz.lays177_ren) { Tryz.lays177 with } ⟨K_,K_,K_,K_,K_,K_,K_⟩ h1 a
def dy(h:laidMet prog zT W):Lib.PrintTabsAt 15 16 17 18 Lib.goPrintTabs W:=by
 have h1:=Lib.laidMet.reads h (n:= "strconv.isPrint16") (d:=Pinned.isPrint16) (al_ (i:=19) rfl)
 have a:=Lib.laidMet.reads h (n:= "strconv.isNotPrint16") (d:=Pinned.isNotPrint16) (al_ (i:=17) rfl)
 have b:=Lib.laidMet.reads h (n:= "strconv.isPrint32") (d:=Pinned.isPrint32) (al_ (i:=20) rfl)
 have c:=Lib.laidMet.reads h (n:= "strconv.isNotPrint32") (d:=Pinned.isNotPrint32) (al_ (i:=18) rfl)
 rw[Pinned.isPrint16_eq]at h1;rw[Pinned.isNotPrint16_eq]at a;rw[Pinned.isPrint32_eq]at b;rw[Pinned.isNotPrint32_eq]at c;exact printTabs_of_reads (ρ:=Tryz.lays177_ren) { Tryz.lays177 with } ⟨K_,K_,K_,K_,K_,K_,K_,K_,K_,K_⟩ h1 a b c
def Zj(h:laidMetH prog zT W):laidMet prog zT W:=by
 unfold laidMetH at h;rw[lC,bV]at h;exact h
def VB{v:Ax}(hg:Tryz.prog.globalNamed n=some g)(h:W.var? prog n=some #[v]):W.cell? ⟨g,0,none⟩=some v:=by simpa using World.var?_cell hg h 0
end
def Tryz.own:ownKnob Tryz.prog.godebug=none:=K_
def kz:∀g∈pS,∃x∈xi,x.1=g:=D_
def Zq{W:Aw}(h:laidMetH prog zT W):∃A,xg A W/\yV W/\yJ W/\vD W/\Lib.TabIs prog W "internal/strconv.uint64pow10" .u64 Lib.pow10Tab:=by
 have a:=Zj h;obtain⟨A,b,hr,f⟩:=sA a;have S:xg A W:=by
  refine⟨λg hg=>?_,λg hg=>?_,λg hg g' d e=>?_⟩
  .obtain⟨x,hx,rfl⟩:=kz g hg;exact VB (jH x hx) (b x hx)
  .obtain⟨x,hx,rfl⟩:=kz g hg;exact hr x hx
  .obtain⟨x,hx,rfl⟩:=kz g hg;obtain⟨y,hy,rfl⟩:=kz g' d;exact f x hx y hy e
 have h1:=b (20,"strconv.ErrSyntax",5) D_
 have c:=b (21,"strconv.ErrRange",4) D_
 exact⟨A,S,Wf (fL a),Jf (dy a) (nY a),ep h1 c,fL a⟩
def Fr.kept{W W':Aw}(h:Fr W W' N_):Below W.heap.size W W':=⟨h.os,h.tape,h.output,h.size,λk hk=>h.block k hk id⟩
open Go.ChangeMaps (open_string shut_string)
def rD{W:Aw}(s d x:BA)(h:laidMetH prog Rows.resolvesRow.laid W):Calls prog 3 #[.string s,.string d,.string x] W λe w'=>e=.returned (.bool true)/\Fr W w' N_:=by
 obtain⟨A,S,a,b,hP,c⟩:=Zq h;exact nU ⟨S,a,b,hP,Vt c⟩
def mI(os:Os)(u:os.Started)(k:Type)(enc:TypeId×Value->k):ReturnsInHanded {} Tryz.checked os 3 .any (λw a=>(Rows.resolvesSpec.pre enc prog Tryz.f3 [] false w a/\laidMetH prog Rows.resolvesRow.laid w)/\sizedMet enc prog Tryz.f3 (OpenSpec.ofChange Rows.resolvesSpec) false w a)
  (Rows.resolvesSpec.post enc prog Tryz.f3 false true false false):=by
 refine returnsInHanded_of_change_and (C:=Tryz.checked) (X:=λw _=>laidMetH prog Rows.resolvesRow.laid w) (λ_ _ _ k h=>laidMetH.of_heap k h) Tryz.own u K_ func3
  (ChangeSpec.witness_shaped (enc:=enc) (C:=Tryz.checked) (os:=os) (X:=λw _=>laidMetH prog Rows.resolvesRow.laid w) false ((World.holding prog os ⟨#[],#[],[]⟩).layVars prog zT) #[.string ⟨#[]⟩,.string ⟨#[]⟩,.string ⟨#[]⟩] 8 (sB os)
   (uB os _) K_ K_ K_ (dY os _)) ?_
 intro W base a ds k k k f _ _ o _;have b:∀(j:Nat) t v,Tryz.f3.params[j]?=some t->a[j]?=some v->Value.okWide prog W .any base t v:=k;have i:=f;obtain⟨p,q,m,r,rfl,_,_⟩:=f;have c:DataW.TrodAll enc prog W 0 (λ_=>true) true Tryz.f3.params.toList a.toList ds p:=m;rw[Tryz.params3]at c b;obtain⟨v0,y,z,a,a,a,a,a,a,rfl,rfl,rfl,h0,h1,l⟩:=trodAll_three c;obtain⟨rfl,rfl⟩:=trodVars_none r;obtain⟨s,rfl,rfl,rfl,ws⟩:=open_string underlying9 (b 0 9 v0 rfl rfl) h0;obtain⟨d,rfl,rfl,rfl,A⟩:=open_string underlying9 (b 1 9 y rfl rfl) h1;obtain⟨x,rfl,rfl,rfl,B⟩:=open_string underlying9 (b 2 9 z rfl rfl) l;simp only[bd_]at i;refine(rD s d x o).mono λe W' ⟨he,hf⟩=>?_;subst he;exact⟨_,rfl,_,_,_,[],[],[],i,trodAll_mk1 (shut_bool underlying4 _),trodAll_mk3 (shut_string underlying9 ws) (shut_string underlying9 A) (shut_string underlying9 B),rfl,hf.kept.frame _,λh=>by cases h⟩
def mE:joinedFacts prog 3 Tryz.f3 Rows.resolvesSpec Rows.resolvesRow=true:=by
 unfold joinedFacts;simp only[a0_]
 repeat' apply And.intro
 .as_aux_lemma=>kernel_rfl
 .as_aux_lemma=>kernel_rfl
 .as_aux_lemma=>kernel_rfl
 .as_aux_lemma=>kernel_rfl
 .as_aux_lemma=>kernel_rfl
 .as_aux_lemma=>kernel_rfl
 .as_aux_lemma=>kernel_rfl
 .as_aux_lemma=>kernel_rfl
 .as_aux_lemma=>kernel_rfl
 .as_aux_lemma=>kernel_rfl
 .as_aux_lemma=>kernel_rfl
 .as_aux_lemma=>kernel_rfl
 .as_aux_lemma=>kernel_rfl
 .as_aux_lemma=>kernel_rfl
 .as_aux_lemma=>kernel_rfl
 .as_aux_lemma=>kernel_rfl
 .as_aux_lemma=>kernel_rfl
 .as_aux_lemma=>kernel_rfl
 .as_aux_lemma=>kernel_rfl
 .as_aux_lemma=>kernel_rfl
 .as_aux_lemma=>kernel_rfl
 .as_aux_lemma=>kernel_rfl
 .as_aux_lemma=>kernel_rfl
 .as_aux_lemma=>kernel_rfl
 .as_aux_lemma=>kernel_rfl
 .as_aux_lemma=>kernel_rfl
 .as_aux_lemma=>kernel_rfl
 .as_aux_lemma=>kernel_rfl
 .as_aux_lemma=>kernel_rfl
 .as_aux_lemma=>kernel_rfl
 .as_aux_lemma=>kernel_rfl
 .as_aux_lemma=>kernel_rfl
def cN:Tryz.prog.funcNamed Rows.resolvesRow.func=some 3:=K_
def rN:Tryz.f3.isInstance prog Rows.resolvesRow.origin Rows.resolvesRow.targs:=of_decide_eq_true K_
def rR:Tryz.f3.isWrapper prog Rows.resolvesRow.wrapper Rows.resolvesRow.mainSum:=by unfold Func.isWrapper;rw[n_ (of_decide_eq_false K_)];exact⟨rfl,rfl⟩
def cS:Rows.ResolvesSaid:=
 OpenClaim.holds_of_wide 3 Tryz.f3 rfl rfl rfl rfl rfl rfl rfl ⟨rfl,rfl,rfl,rfl,rfl⟩ rfl rfl rfl rfl rfl cN func3 mE rN rR
  (λos c a b _=>mI os c a b)
open Go
theorem resolves_card:Rows.ResolvesCardSaid:=
 Claim7.holds_tied_plain_at .later [] Rows.resolvesCard.laidKinds true Rows.resolvesCard.stood.harness true
  cS (λ_ h=>by cases h) K_ (λ_ h=>by cases h) resolves_row_tie rfl ⟨rfl,rfl⟩ K_ rfl
  (λf a c d=>by
   obtain rfl:f=3:=Option.some.inj ((show Tryz.prog.funcNamed "kin/kinlaw.Resolves" = some 3 by kernel_rfl).symm.trans c) |>.symm
   obtain rfl:a=Tryz.f3:=(Option.some.inj (func3.symm.trans d)).symm
   exact⟨K_,λj t a=>by
    rw[Tryz.params3]at a
    have b:t=9:=by
     rcases j with _|_|_|j
     .simpa using a.symm
     .simpa using a.symm
     .simpa using a.symm
     .simp at a
    subst b
    exact(show Tryz.prog.wantsStandIn 9=false by kernel_rfl)⟩)
  K_
end Go.Proofs.YtahhhgbojlkjnaaGreatDoor
