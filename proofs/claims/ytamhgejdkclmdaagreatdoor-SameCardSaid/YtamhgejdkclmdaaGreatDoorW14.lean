import Derived.Test.YtamhgejdkclmdaaGreatDoorW13
import Derived.Lib.AppendStr
import Derived.Deep.RegionWith
import Derived.Test.YtamhgejdkclmdaaGreatDoorShelf
set_option maxHeartbeats 16000000
set_option maxRecDepth 100000
set_option linter.defProp false
set_option linter.unusedSimpArgs false
set_option linter.unusedVariables false
open Go.Proofs.Tryz
namespace Go.Proofs.YtamhgejdkclmdaaGreatDoor
open Go.RowKit
variable {n c g m lo lc:Nat}{Y:Ah}{cT:Av}{cx:Ax}{la:Al}{b:BA}
def Ge(m:Nat):Prop:=∀(d:DT),ndT d<=m->ndT d<=1000000000->∀(w:World) (P:Nat->Prop) (v:Value),kY w P d v->
 Calls prog 47 #[v] w λe w'=>e=.returned (Z_ (ndT d:Int))/\Fr w w' N_
def kX{w:Aw}(ho:w.ownsRow 0 64 1 (S_ g n c) n ((List.range n).flatMap λi=>[Y i])){q:Nat}(a:q<n):w.cell? ⟨g,q,none⟩=some (Y q):=
 zt ho rfl (by have:=mM n (λi=>[Y i]) (m:=1) (λ_ _=>rfl) q 0 a D_;simpa using this)
def ry{w:Aw}{K:Nat->BA}(ho:w.ownsRow 0 206 2 (S_ g n c) n ((List.range n).flatMap λi=>[.string (K i),Y i])){q:Nat}(a:q<n):w.cell? ⟨g,q*2,none⟩=some (.string (K q))/\w.cell? ⟨g,q*2+1,none⟩=some (Y q):=by
 have h:=mM n (λi=>[.string (K i),Y i]) (m:=2) (λ_ _=>rfl) q;exact⟨zt ho rfl (by have:=h 0 a D_;simpa using this),zt ho rfl (by have:=h 1 a D_;simpa using this)⟩
def fg{d:DT}{T:Av}{x:Ax}(a:T≠147/\T≠150/\T≠153/\T≠155)(hd:ndT d=1)(w:Aw):Calls prog 47 #[.iface T x] w λe w'=>e=.returned (Z_ (ndT d:Int))/\Fr w w' N_:=by
 refine hq_ λh h=>?_;have k:=WS T a.1;have k:=Pc T a.2.1;have k:=YA T a.2.2.1;have k:=YE T a.2.2.2;replace hd:=zy hd;go_in;go_wp2;try go_ret
 rw[h.o,hd.o];exact⟨rfl,A_ _ _⟩
def Jp(q:Ge m){d:DT}{v:Ax}{w:Aw}{P:Az}(hm:ndT d<=m)(hb:ndT d<=1000000000)(hv:kY w P d v):Calls prog 47 #[.iface 153 (.agg #[I_ n,v])] w λe w'=>e=.returned (Z_ (ndT (.mk 40 (n:Int) noB [] [d]):Int))/\Fr w w' N_:=by
 refine hq_ λu r=>?_;obtain⟨T,x,rfl⟩:=hv.iface;have k:=zy (show ndT (.mk 40 (n:Int) noB [] [d])=1+ndT d by simp only[ndT,zY,b3_]);have A:Fr w (w.alloc (.cells #[I_ n,.iface T x] 153)) N_:=(A_ w _).alloc _;have h:=zy (q d hm hb _ P _ (hv.fr A u_));obtain⟨D,a⟩:=x_ (ndT d);rw[a]at h k hb;replace a:=zy a;replace A:=zy A;go_in;go_wp2_with (go_at_call 47;apply h.o.mono;rintro e a ⟨rfl,a⟩;replace a:=zy a);try go_ret
 rw[r.o,k.o];exact⟨by simp,A.o.trans a u_⟩
def cq2_{p:Prop}(h:p:=by
 refine hq_ λM I=>?_;(first|(have:=cc1;have G:=zy (show ndT (.mk 114 0 noB [] ds)=1+zY ds by unfold ndT;rfl))|(have G:=zy (show ndT (.mk 91 0 noB [] ds)=1+zY ds by unfold ndT;rfl)));have start:H_ (∃q:Nat,Value.int .i64 1=.int .i64 ((1+zY (ds.take q):Nat):Int)/\Value.int .i64 0=I_ q/\q<=ds.length/\ds.length+1-q<=ds.length+1/\Fr w w N_):=zy ⟨0,by simp[zY],rfl,al_ _,M_,A_ _ _⟩;replace ho:=zy ho;replace hd:=zy hd;go_in;go_wp2_with fail;(first|(have:=cc1;go_loopg [3,13,57] (ds.length+1) (λm E L v W=>∃q:Nat,E=.int .i64 ((1+zY (ds.take q):Nat):Int)/\v=I_ q/\q<=ds.length/\ds.length+1-q<=m/\Fr w W N_))|(go_loopg [3,6,20] (ds.length+1) (λm E L v W=>∃q:Nat,E=.int .i64 ((1+zY (ds.take q):Nat):Int)/\v=I_ q/\q<=ds.length/\ds.length+1-q<=m/\Fr w W N_)));case atStart=>exact start.o
 case round=>
  clear start;obtain⟨q,rfl,rfl,U,R,a⟩:=hrel;by_cases C:q<ds.length
  .have K:(q:Int)<(ds.length:Int):=M_;have k:ds[q]?=some ds[q]:=ak_ C;generalize ds[q]=d at k;obtain⟨r,H⟩:=xM k;obtain⟨g,N,J⟩:=zp ho.o M_;cases J;have hv:=hd.o q d k;obtain⟨T,x,hx⟩:=hv.iface;rw[hx]at hv;have O:wr.cell? ⟨g,q,none⟩=some (.iface T x):=by
    rw[<- hx];exact kX (zj ho.o a u_) C
   have F:=zy (ih d M_ M_ wr P _ (hv.fr a u_));have V:q<=1000000000:=by have:=jS ds;omega
   obtain⟨S,u⟩:∃S,zY (ds.take q)=S:=⟨_,rfl⟩;obtain⟨D,y⟩:∃D,ndT d=D:=⟨_,rfl⟩;rw[u]at r H;rw[y]at r H F;rw[u];replace r:=zy r;replace u:=zy u;replace y:=zy y;replace a:=zy a;replace k:=zy k;replace hv:=zy hv;clear hx;go_wp2_with (go_at_call 47;refine F.o.mono ?_;rintro e X ⟨rfl,A⟩;replace A:=zy A);go_roundg (ds.length+1-(q+1));case measure=>omega
   case rel=>exact⟨q+1,by rw[r.o];simp;omega,by simp,C,l_,a.o.trans A.o u_⟩
  .have K:¬((q:Int)<(ds.length:Int)):=M_;rw[bc_ M_];replace a:=zy a;go_wp2_with fail;try go_ret
   rw[I.o,G.o];exact⟨rfl,a.o⟩):p:=h
def FJ(ih:Ge m){ds:Ae}{w:Aw}{P:Az}(hm:1+zY ds<=m+1)(hb:1+zY ds<=1000000000)(ho:w.ownsRow 0 64 1 (.slice la ds.length lc) ds.length ((List.range ds.length).flatMap λi=>[Y i]))(hd:∀i d,ds[i]?=some d->kY w P d (Y i)):Calls prog 47 #[.iface 147 (.slice la ds.length lc)] w λe w'=>e=.returned (Z_ (ndT (.mk 91 0 noB [] ds):Int))/\Fr w w' N_:=by
 exact cq2_
def FV(ih:Ge m){ds:Ae}{w:Aw}{P:Az}(hm:1+zY ds<=m+1)(hb:1+zY ds<=1000000000)(ho:w.ownsRow 0 64 1 (.slice la ds.length lc) ds.length ((List.range ds.length).flatMap λi=>[Y i]))(hd:∀i d,ds[i]?=some d->kY w P d (Y i)):Calls prog 47 #[.iface 155 (.slice la ds.length lc)] w λe w'=>e=.returned (Z_ (ndT (.mk 114 0 noB [] ds):Int))/\Fr w w' N_:=by
 have cc1:=Nat
 exact cq2_
def Uu(J:Ge m){ks:Dx}{ds:Ae}{K:Nat->BA}{w:Aw}{P:Az}(hm:1+zY ds<=m+1)(hb:1+zY ds<=1000000000)(ho:w.ownsRow 0 206 2 (.slice la ds.length lc) ds.length ((List.range ds.length).flatMap λi=>[.string (K i),Y i]))(hd:∀i d,ds[i]?=some d->kY w P d (Y i)):Calls prog 47 #[.iface 150 (.slice la ds.length lc)] w λe w'=>e=.returned (Z_ (ndT (.mk 123 0 noB ks ds):Int))/\Fr w w' N_:=by
 refine hq_ λG F=>?_;have I:=zy (show ndT (.mk 123 0 noB ks ds)=1+zY ds by unfold ndT;rfl);have start:H_ (∃q:Nat,Value.int .i64 1=Z_ ((1+zY (ds.take q):Nat):Int)/\Value.int .i64 0=I_ q/\q<=ds.length/\ds.length+1-q<=ds.length+1/\Fr w w N_):=zy ⟨0,by simp[zY],rfl,al_ _,M_,A_ _ _⟩;replace ho:=zy ho;replace hd:=zy hd;go_in;go_wp2;go_loopg [3,9,34] (ds.length+1) (λm G L v W=>∃q:Nat,G=Z_ ((1+zY (ds.take q):Nat):Int)/\v=I_ q/\q<=ds.length/\ds.length+1-q<=m/\Fr w W N_);case atStart=>exact start
 case round=>
  obtain⟨q,rfl,rfl,G,G,a⟩:=hrel;by_cases y:q<ds.length
  .have H:(q:Int)<(ds.length:Int):=M_;have h:ds[q]?=some ds[q]:=ak_ y;generalize ds[q]=d at h;obtain⟨k,E⟩:=xM h;obtain⟨g,G,G⟩:=zp ho M_;cases G;have hv:=hd.o q d h;obtain⟨T,x,hx⟩:=hv.iface;rw[hx]at hv;obtain⟨G,G⟩:=ry (zj ho a u_) y;rw[hx]at G;have A:Fr wr (wr.alloc (.cells #[.string (K q),.iface T x] 206)) N_:=(A_ wr _).alloc _;have C:=zy (J d M_ M_ (wr.alloc (.cells #[.string (K q),.iface T x] 206)) P _ ((hv.fr a u_).fr A u_));replace A:=zy A;have G:q<=1000000000:=by have:=jS ds;omega
   obtain⟨S,r⟩:=x_ (zY (ds.take q));obtain⟨D,u⟩:=x_ (ndT d);rw[r]at k E;rw[u]at k E C;rw[r];replace k:=zy k;replace r:=zy r;replace u:=zy u;replace a:=zy a;replace h:=zy h;replace hv:=zy hv;go_wp2_with (go_at_call 47;apply C.o.mono;rintro e h ⟨rfl,h⟩;replace h:=zy h);go_roundg (ds.length+1-(q+1));case measure=>omega
   case rel=>exact⟨q+1,by rw[k.o];simp;omega,by simp,y,l_,(a.o.trans A u_).trans h u_⟩
  .have H:¬((q:Int)<(ds.length:Int)):=M_;rw[bc_ M_];replace a:=zy a;go_wp2;try go_ret
   rw[F.o,I.o];exact⟨rfl,a⟩
def Yk:∀m,Ge m:=by
 intro m;induction m with
 |zero=>intro d h;obtain⟨_,_,_,_,_⟩:=d;unfold ndT at h;omega
 |succ m ih=>
  intro d hm hb w P v hv;cases hv with
  |flat h=>
   cases h with
   |nothing=>exact fg D_ y2_ w
   |truth b=>exact fg D_ y2_ w
   |num c n hc h0 h1=>exact fg D_ y2_ w
   |text tx h=>exact fg D_ y2_ w
   |bytes tx h=>exact fg D_ y2_ w
   |sym n l h=>exact fg D_ y2_ w
  |branch n h hd=>
   unfold ndT at hm hb;simp only[zY,b3_]at hm hb;exact Jp ih M_ M_ hd
  |row Y hc ho hP hd=>
   unfold ndT at hm hb;obtain⟨la,lc,rfl⟩:=zw ho;rcases hc with⟨rfl,rfl⟩|⟨rfl,rfl⟩
   .exact FJ ih hm hb ho hd
   .exact FV ih hm hb ho hd
  |map Y hl hk ho hP hd=>
   unfold ndT at hm hb;obtain⟨la,lc,rfl⟩:=zw ho;exact Uu ih (K:=λi=>_) hm hb ho hd
def yi(w:Aw)(B:Nat)(v:Ax)(b:BA):Prop:=w.ownsRow B 5 1 v b.size (Lib.strCells b)
def eH:Tryz.prog.underlying 102=some (.slice 5):=K_
def FR:(Tryz.prog.info? 5).map (λi=>(i.zero,i.size,i.bytes))=some (some (.int .u8 0),1,1):=K_
def vy(a b:BA):Lib.strCells (a++b)=Lib.strCells a++Lib.strCells b:=by
 unfold Lib.strCells;simp
def pN(h:c<256):Lib.strCells (bts [c])=[U_ c]:=by
 unfold Lib.strCells bts;simp;omega
def yi.own{w:Aw}{B:Nat}{v:Ax}(h:yi w B v b)(e:v.ownBlock=some g):B<=g/\g<w.heap.size:=World.ownsRow.lt h g e
section
variable {w W w5:Aw} {B z f:Nat} {T acc:BA} {v v0 v5:Ax} {o:Obj} {x:Int}
end
def bo:∀{ds:List DT},(∀(i:Nat) (d:DT),ds[i]?=some d->okD d)->qL ds
 | [],_=>by simp[qL]
 |d::r,h=>by
  unfold qL;exact⟨h 0 d rfl,bo (λi e he=>h (i+1) e he)⟩
def kY.ok{w:Aw}{P:Az}{d:DT}{v:Ax}(h:kY w P d v):okD d:=by
 induction h with
 |flat h=>
  cases h with
  |nothing=>simp[okD,qL,tk];exact al_ _
  |truth b=>cases b<;>simp[okD,qL,tk]<;>exact al_ _
  |num c n hc h0 h1=>simp only[okD,qL,tk];refine⟨⟨h0,h1,M_⟩,λe=>M_,by show(0:Nat)<=_;omega,by simp,λe=>M_,trivial⟩
  |text tx h=>simp[okD,qL,tk,h]
  |bytes tx h=>simp[okD,qL,tk,h]
  |sym n l h=>simp only[okD,qL,tk];refine⟨⟨M_,M_,by simp⟩,λe=>M_,by show(0:Nat)<=_;omega,by simp,λe=>M_,trivial⟩
 |branch n h hd ih=>simp only[okD,qL,tk];refine⟨⟨M_,M_,by simp⟩,λe=>M_,by show(0:Nat)<=_;omega,by simp,λe=>M_,ih,trivial⟩
 |row Y hc ho hP hd ih=>simp only[okD,tk];refine⟨⟨M_,M_,M_⟩,λe=>M_,by show(0:Nat)<=_;omega,by simp,λe=>M_,bo ih⟩
 |map Y hl hk ho hP hd ih=>simp only[okD,tk];refine⟨⟨M_,M_,by simp⟩,λe=>M_,by show(0:Nat)<=_;omega,hk,λ_=>hl,bo ih⟩
def yi.fr{w w':Aw}{B:Nat}{v:Ax}{S:Az}(h:yi w B v b)(hf:Fr w w' S)(a:∀g,v.ownBlock=some g->¬S g):yi w' B v b:=zj h hf a
def WE{w:Aw}{B:Nat}{v:Ax}(h:yi w B v b):(convert 102 9 v).run prog w=.ok (.string b) w:=by
 obtain⟨xs,a⟩:∃xs:List Int,xs=b.data.toList.map λx=>((x.toNat:Nat):Int):=⟨_,rfl⟩;have hb:strOfNums xs=b:=by
  apply b5_;unfold strOfNums;subst a;apply Array.toList_inj.1;rw[List.map_map];show b.data.toList.map _=_;conv=>rhs;rw[<- List.map_id b.data.toList]
  apply List.map_congr_left;intro x _;show UInt8.ofNat ((x.toNat:Int).toNat)=x;rw[bs_,UInt8.ofNat_toNat]
 have hl:xs.length=b.size:=by subst a;rw[bq_];rfl
 have h0:=h;rcases h.2 with⟨rfl,e⟩|⟨g,k,q,rfl,_⟩
 .have:=run_convert_bytes_nil (P:=prog) w 102 5 underlying102 underlying5 0 0 9 underlying9;have hz:b.data.size=0:=e;have he:b=ByteArray.empty:=b5_ (Array.eq_empty_of_size_eq_zero hz);rw[he];exact this
 .have:=run_convert_bytes_arg (P:=prog) w 102 5 underlying102 underlying5 g 0 b.size k xs hl (λi hi=>by
   rw[bx_]
   refine zt h0 rfl ?_
   unfold Lib.strCells
   subst a
   rw[aw_,as_,as_,ak_ (show i<b.data.toList.length from hi)]
   rfl) 9 underlying9
  rw[hb]at this;exact this
inductive DaV (env:Au) (w:Aw) (P:Az):DT->PT->Value->Prop
 |flat {d:DT} {t:PT} {v:Value} (h:qz d v) (hs:∀n l:Nat,v=.iface 157 (.agg #[U_ l,I_ n])->fW env t n=l/\l<256):DaV env w P d t v
 |branch (n:Nat) (h:n<=4000) {d:DT} {t:PT} {v:Value} (hd:DaV env w P d (zD env t n 0) v):DaV env w P (.mk 40 (n:Int) noB [] [d]) t (.iface 153 (.agg #[I_ n,v]))
 |row {c:Nat} {T:TypeId} {ds:List DT} {t:PT} {lv:Value} (Y:Nat->Value) (hc:(c=91/\T=147)\/(c=114/\T=155)) (ho:w.ownsRow 0 64 1 lv ds.length ((List.range ds.length).flatMap λi=>[Y i])) (hP:∀g,lv.ownBlock=some g->P g)
  (hd:∀i d,ds[i]?=some d->DaV env w P d (zD env t 0 i) (Y i)):DaV env w P (.mk c 0 noB [] ds) t (.iface T lv)
 |map {ks:List BA} {ds:List DT} {t:PT} {lv:Value} (Y:Nat->Value) (hl:ks.length=ds.length) (hk:∀k∈ks,k.size<=4000) (ho:w.ownsRow 0 206 2 lv ds.length ((List.range ds.length).flatMap λi=>[.string (ks.getD i noB),Y i])) (hP:∀g,lv.ownBlock=some g->P g)
  (hd:∀i d,ds[i]?=some d->DaV env w P d (zD env t 0 i) (Y i)):DaV env w P (.mk 123 0 noB ks ds) t (.iface 150 lv)
section
variable {env:Au} {w w':Aw} {P Q S:Az} {d:DT} {t:PT} {v:Ax}
def DaV.mono(h:DaV env w P d t v)(a:∀g,g<w.heap.size->P g->Q g):DaV env w Q d t v:=by
 induction h with
 |flat h hs=>exact .flat h hs
 |branch n h hd ih=>exact .branch n h ih
 |row Y hc ho hP hd ih=>exact .row Y hc ho (λg e=>a g (ho.lt g e).2 (hP g e)) ih
 |map Y hl hk ho hP hd ih=>exact .map Y hl hk ho (λg e=>a g (ho.lt g e).2 (hP g e)) ih
def DaV.fr(h:DaV env w P d t v)(hf:Fr w w' S)(a:∀g,P g->¬S g):DaV env w' P d t v:=by
 induction h with
 |flat h hs=>exact .flat h hs
 |branch n h hd ih=>exact .branch n h ih
 |row Y hc ho hP hd ih=>exact .row Y hc (zj ho hf (λg e=>a g (hP g e))) hP ih
 |map Y hl hk ho hP hd ih=>exact .map Y hl hk (zj ho hf (λg e=>a g (hP g e))) hP ih
def DaV.dat(h:DaV env w P d t v):kY w P d v:=by
 induction h with
 |flat h hs=>exact .flat h
 |branch n h hd ih=>exact .branch n h ih
 |row Y hc ho hP hd ih=>exact .row Y hc ho hP ih
 |map Y hl hk ho hP hd ih=>exact .map Y hl hk ho hP ih
def DaV.iface(h:DaV env w P d t v):∃T x,v=.iface T x:=h.dat.iface
def DaV.plain{T:Av}{x:Ax}(h:qz d (.iface T x))(a:T≠157):DaV env w P d t (.iface T x):=.flat h (λn l e=>by cases e;exact absurd rfl a)
def W_:=@DaV.plain
end
def jX(env:Au)(w:Aw)(B:Nat)(P:Az)(t:PT)(lv:Ax)(ds:Ae):Prop:=
 ∃Y:Nat->Value,w.ownsRow B 64 1 lv ds.length ((List.range ds.length).flatMap λi=>[Y i])/\∀i d,ds[i]?=some d->DaV env w P d (zD env t 0 i) (Y i)
def gi{α:Type}{l:List α}{a x:α}{i:Nat}(h:(l++[a])[i]?=some x):(i<l.length/\l[i]?=some x)\/(i=l.length/\x=a):=by
 by_cases hi:i<l.length
 .rw[aq_ hi]at h;exact .inl ⟨hi,h⟩
 .rw[au_ M_]at h;have h0:i-l.length=0:=by
   rcases Nat.eq_zero_or_pos (i-l.length) with e|e
   .exact e
   .rw[bl_ x1_]at h;cases h
  rw[h0]at h;simp only[aa_,af_]at h;exact .inr ⟨M_,h.symm⟩
section
variable {env:Au} {w w':Aw} {B:Nat} {P Q S:Az} {t:PT} {lv:Ax} {ds:Ae}
def jX.nil(env:Au)(w:Aw)(B:Nat)(P:Az)(t:PT):jX env w B P t (L_) []:=⟨λ_=>.nilIface,World.ownsRow_nil _ _ _ _,λi d h=>by simp at h⟩
def jX.fr(h:jX env w B P t lv ds)(hf:Fr w w' S)(k:∀g,P g->¬S g)(hv:∀g,lv.ownBlock=some g->¬S g):jX env w' B P t lv ds:=by
 obtain⟨Y,a,b⟩:=h;exact⟨Y,zj a hf hv,λi d e=>(b i d e).fr hf k⟩
def jX.row(h:jX env w B P t lv ds):∃ys,w.ownsRow B 64 1 lv ds.length ys:=by
 obtain⟨Y,a,_⟩:=h;exact⟨_,a⟩
def jX.grow{w1 a:Aw}{lv v5 v:Ax}{d:DT}(r:∀i d,ds[i]?=some d->DaV env w1 (λg=>B<=g/\lv.ownBlock≠some g) d (zD env t 0 i) (Y i))(hd:DaV env w1 (λg=>B<=g/\lv.ownBlock≠some g) d (zD env t 0 ds.length) v)(hf:Fr w1 a (λg=>lv.ownBlock=some g\/g=c))(hc:c<B)(hl:v5.ownBlock=lv.ownBlock\/∃h,v5.ownBlock=some h/\w1.heap.size<=h)(ho:a.ownsRow B 64 1 v5 (ds.length+1) (((List.range ds.length).flatMap λi=>[Y i])++[v])):jX env a B (λg=>B<=g/\v5.ownBlock≠some g) t v5 (ds++[d]):=by
 have up:∀{d u v},DaV env w1 (λg=>B<=g/\lv.ownBlock≠some g) d u v->DaV env a (λg=>B<=g/\v5.ownBlock≠some g) d u v:=λh=>by
  have h1:DaV env w1 (λg=>(B<=g/\lv.ownBlock≠some g)/\g<w1.heap.size) _ _ _:=h.mono (λg h1 k=>⟨k,h1⟩);refine(h1.fr hf (λg hg e=>?_)).mono (λg _ hg=>⟨hg.1.1,λe=>?_⟩)
  .rcases e with e|e
   .exact hg.1.2 e
   .have:=hg.1.1;omega
  .rcases hl with h|⟨q,h,y⟩
   .exact hg.1.2 (h▸e)
   .rw[h]at e;have:=hg.2;simp only[af_]at e;omega
 refine⟨λi=>if i<ds.length then Y i else v,?_,λi e he=>?_⟩
 .rw[ah_,ap_,br_,a9_,xf ds.length _ (λi=>[Y i]) (λi hi=>by simp[hi])];simpa using ho
 .rcases gi he with⟨hi,he⟩|⟨rfl,rfl⟩
  .simp only[hi,if_true];exact up (r i e he)
  .simp only[a5_,if_false];exact up hd
def jX.dat(h:jX env w B P t lv ds)(hP:∀g,g<w.heap.size->P g->Q g)(k:∀g,lv.ownBlock=some g->Q g){T:Av}(hc:(c=91/\T=147)\/(c=114/\T=155)):DaV env w Q (.mk c 0 noB [] ds) t (.iface T lv):=by
 obtain⟨Y,a,b⟩:=h;exact .row Y hc (yr a) k (λi d e=>(b i d e).mono hP)
end
def qn(env:Au)(w:Aw)(P:Az)(t:PT)(es:Af)(ys:Ay):Prop:=
 ∃Y:Nat->Value,(ys=(List.range es.length).flatMap λi=>[.string ((es.map Prod.fst).getD i noB),Y i])/\(∀i e,es[i]?=some e->DaV env w P e.2 (zD env t 0 i) (Y i))/\∀e∈es,e.1.size<=4000
section
variable {env:Au} {w w':Aw} {B:Nat} {P Q S:Az} {t:PT} {es:Af} {ys:Ay}
def qn.nil(env:Au)(w:Aw)(P:Az)(t:PT):qn env w P t [] []:=⟨λ_=>.nilIface,rfl,λi d h=>by simp at h,λe h=>by simp at h⟩
def qn.fr(h:qn env w P t es ys)(hf:Fr w w' S)(k:∀g,P g->¬S g):qn env w' P t es ys:=by
 obtain⟨Y,a,b,c⟩:=h;exact⟨Y,a,λi d e=>(b i d e).fr hf k,c⟩
def qn.grow{w1 r:Aw}{lv v5 v:Ax}{key:BA}{d:DT}(h:qn env w1 (λg=>B<=g/\lv.ownBlock≠some g) t es ys)(hd:DaV env w1 (λg=>B<=g/\lv.ownBlock≠some g) d (zD env t 0 es.length) v)(hk:key.size<=4000)(hf:Fr w1 r (λg=>lv.ownBlock=some g\/g=c))(hc:c<B)(hl:v5.ownBlock=lv.ownBlock\/∃h,v5.ownBlock=some h/\w1.heap.size<=h):qn env r (λg=>B<=g/\v5.ownBlock≠some g) t (es++[(key,d)]) (ys++[.string key,v]):=by
 obtain⟨Y,a,b,k⟩:=h;have up:∀{d u v},DaV env w1 (λg=>B<=g/\lv.ownBlock≠some g) d u v->DaV env r (λg=>B<=g/\v5.ownBlock≠some g) d u v:=λh=>by
  have h1:DaV env w1 (λg=>(B<=g/\lv.ownBlock≠some g)/\g<w1.heap.size) _ _ _:=h.mono (λg h1 y=>⟨y,h1⟩);refine(h1.fr hf (λg hg e=>?_)).mono (λg _ hg=>⟨hg.1.1,λe=>?_⟩)
  .rcases e with e|e
   .exact hg.1.2 e
   .have:=hg.1.1;omega
  .rcases hl with h|⟨q,h,A⟩
   .exact hg.1.2 (h▸e)
   .rw[h]at e;have:=hg.2;simp only[af_]at e;omega
 refine⟨λi=>if i<es.length then Y i else v,?_,λi e he=>?_,λe he=>?_⟩
 .have A:=xf es.length (λi=>[Value.string (((es++[(key,d)]).map Prod.fst).getD i noB),if i<es.length then Y i else v]) (λi=>[Value.string ((es.map Prod.fst).getD i noB),Y i]) (λi hi=>by
   simp only[bb_,aw_]
   rw[aq_ (by simpa using hi),i_ hi])
  rw[a,ah_,ap_,br_,a9_,A];simp[aw_]
 .rcases gi he with⟨hi,he⟩|⟨rfl,rfl⟩
  .simp only[hi,if_true];exact up (b i e he)
  .simp only[a5_,if_false];exact up hd
 .rcases a4_.1 he with h|h
  .exact k e h
  .simp only[a2_]at h;subst h;exact hk
def qn.dat{lv:Ax}(h:qn env w P t es ys)(ho:w.ownsRow B 206 2 lv es.length ys)(hP:∀g,g<w.heap.size->P g->Q g)(r:∀g,lv.ownBlock=some g->Q g):DaV env w Q (.mk 123 0 noB (es.map Prod.fst) (es.map Prod.snd)) t (.iface 150 lv):=by
 obtain⟨Y,a,b,k⟩:=h;subst a;refine .map Y x8_ (λx hx=>?_) (by rw[bq_];exact yr ho) r (λi d e=>?_)
 .obtain⟨e,he,rfl⟩:=a3_.1 hx;exact k e he
 .rw[as_]at e;obtain⟨q,u,rfl⟩:=b0_.1 e;exact(b i q u).mono hP
end
def yy(w0 w:Aw):Prop:=∀g,g<w0.heap.size->w.heap[g]?=w0.heap[g]?
def yy.refl(w:Aw):yy w w:=λ_ _=>rfl
def yy.fr{w0 w w':Aw}{S:Az}(h:yy w0 w)(hf:Fr w w' S)(hk:w0.heap.size<=w.heap.size)(a:∀g,S g->w0.heap.size<=g):yy w0 w':=λg hg=>
 (hf.block g M_ (λe=>by have:=a g e;omega)).trans (h g hg)
def yy.err{w0 w:Aw}{e:Av}{k:Ax}(h:yy w0 w)(he:vw g w0 e k):vw g w e k:=
 (World.cell?_of_block (a:=⟨g,0,none⟩) (h g (World.block_lt_of_cell? w0 ⟨g,0,none⟩ he))).trans he
def yy.var{w0 w:Aw}(h:yy w0 w){n:String}{cs:Ca}(hv:w0.var? prog n=some cs):w.var? prog n=some cs:=by
 unfold World.var? at hv⊢;cases hg:Tryz.prog.globalNamed n with
 |none=>rw[hg]at hv;simp at hv
 |some g=>
  rw[hg]at hv;simp only[Option.bind_some]at hv⊢;by_cases hl:g<w0.heap.size
  .rw[h g hl];exact hv
  .rw[Array.getElem?_eq_none M_]at hv;simp at hv
def Fr.grow(w:Aw)(k:Nat)(os:Array Obj):Fr w (Sort.grow (w.drewN k) os) N_:=by
 refine⟨rfl,rfl,rfl,?_,λg hg _=>?_⟩
 .show w.heap.size<=(w.heap++os).size;simp
 .show(w.heap++os)[g]?=w.heap[g]?;rw[Array.getElem?_append_left hg]
def yg(w0:Aw):Prop:=∀(W:World),yy w0 W->∀n:Nat,n<=4000->Calls prog 201 #[I_ n] W λe w'=>∃tx,e=.returned (.string tx)/\tx.size<=100000/\Fr W w' N_
def yk(w0:Aw):Prop:=∀(W:World),yy w0 W->∀k:BA,k.size<=4000->Calls prog 202 #[.string k] W λe w'=>∃tx,e=.returned (.string tx)/\tx.size<=100000/\Fr W w' N_
def Yb:∀(k n:Nat),n<10 ^ (k+1)->Lib.nDigits n<=k+1:=by
 intro k;induction k with
 |zero=>intro n h;rw[Lib.nDigits,dif_pos zd_];omega
 |succ k ih=>
  intro n h;rw[Lib.nDigits];split
  .omega
  .have:=ih (n / 10) (by rw[Nat.div_lt_iff_lt_mul D_];rw[Nat.pow_succ]at h;exact h);omega
def FH{w0:Aw}(h:Lib.TabIs prog w0 "internal/strconv.uint64pow10" .u64 Lib.pow10Tab):yg w0:=by
 intro W a n hn
 have h1:Lib.TabIs prog W "internal/strconv.uint64pow10" .u64 Lib.pow10Tab:=a.var h
 apply(Tryz.strconv_Itoa (n:Int) M_ M_ W h1).mono;rintro e w' ⟨rfl,k,os,rfl⟩;refine⟨_,rfl,?_,Fr.grow W k os⟩;show(Lib.itoa (n:Int)).toArray.size<=100000;rw[List.size_toArray];unfold Lib.itoa;rw[n_ M_,Lib.decDigits_length];have:=Yb 3 (Int.toNat (n:Int)) x1_;omega
def xO(w:Aw)(cv:Ax)(e:Ak)(w':Aw):Prop:=
 ∃g tx,e=.returned (.iface 351 (P_ g))/\w.heap.size<=g/\Blk w' g [.string tx,cv] 353/\Fr w w' N_
def cq15_{p:Prop}(h:p:=by
 refine hq_ λy r=>?_;(first|(have:=cc2;have q:=zy (H w hG k hn))|(have q:=zy (H w hG n hn)));go_in;go_wp2_with (first|(go_at_call 201;apply q.o.mono;rintro e w1 ⟨tx,rfl,u,a⟩;replace a:=zy a)|(go_at_call 202;apply q.o.mono;rintro e w1 ⟨tx,rfl,u,a⟩;replace a:=zy a));try go_ret
 rw[r.o];exact⟨w1.heap.size,_,rfl,a.o.size,B_ w1 _ _,a.o.alloc _⟩):p:=h
def pg{w0 w:Aw}(H:yg w0)(hG:yy w0 w)(hn:n<=4000):Calls prog 153 #[I_ n,.iface cT cx] w (xO w (.iface cT cx)):=by
 exact cq15_
def wn{w0 w:Aw}(H:yg w0)(hG:yy w0 w)(hn:n<=4000):Calls prog 156 #[I_ n,.iface cT cx] w (xO w (.iface cT cx)):=by
 have cc1:=Nat
 exact cq15_
def kU{w0 w:Aw}{k:BA}(H:yk w0)(hG:yy w0 w)(hn:k.size<=4000):Calls prog 154 #[.string k,.iface cT cx] w (xO w (.iface cT cx)):=by
 have cc2:=Nat
 exact cq15_
def gn{w:Aw}{l:Nat}(hl:zl l=true):Calls prog 157 #[U_ l,.iface cT cx] w (xO w (.iface cT cx)):=by
 refine hq_ λh a=>?_;obtain⟨k,hk,e⟩:=kS hl;have hc:l=97\/l=98\/l=99\/l=100\/l=101\/l=102\/l=103\/l=104\/l=105\/l=106\/l=107\/l=108\/l=109\/l=110\/l=111\/l=112\/l=113\/l=114\/l=115\/l=116\/l=117\/l=118\/l=119\/l=120\/l=121\/l=122:=M_;clear hl hk e;rcases hc with rfl|rfl|rfl|rfl|rfl|rfl|rfl|rfl|rfl|rfl|rfl|rfl|rfl|rfl|rfl|rfl|rfl|rfl|rfl|rfl|rfl|rfl|rfl|rfl|rfl|rfl;all_goals
  go_in;go_wp2;try go_ret
  rw[a.o];exact⟨w.heap.size,_,rfl,l_,B_ w _ _,(A_ w _).alloc _⟩
inductive jv (w:Aw) (lo:Nat) (nt:Av) (nx:Ax):Value->Prop
 |base:jv w lo nt nx (.iface nt nx)
 |within (g:Nat) (hg:lo<=g) (tx:BA) {v:Value} (hb:Blk w g [.string tx,v] 353) (h:jv w lo nt nx v):jv w lo nt nx (.iface 351 (P_ g))
def jv.fr{w w':Aw}{nt:Av}{nx v:Ax}{S:Az}(h:jv w lo nt nx v)(hf:Fr w w' S)(a:∀g,lo<=g->¬S g):jv w' lo nt nx v:=by
 induction h with
 |base=>exact .base
 |within g hg tx hb h ih=>exact .within g hg tx (hf.bl hb (a g hg)) ih
def jv.ls{w:Aw}{a:Nat}{nt:Av}{nx v:Ax}(h:jv w lo nt nx v)(hl:a<=lo):jv w a nt nx v:=by
 induction h with
 |base=>exact .base
 |within g hg tx hb h ih=>exact .within g (aj_ hl hg) tx hb ih
def jv.iface{w:Aw}{nt:Av}{nx v:Ax}(h:jv w lo nt nx v):∃T x,v=.iface T x:=by
 cases h<;>exact⟨_,_,rfl⟩
def jv.wrap{w w':Aw}{nt:Av}{nx a v:Ax}(h:jv w lo nt nx a){e:Ak}(q:xO w a e w')(hl:lo<=w.heap.size)(he:e=.returned v):jv w' lo nt nx v:=by
 obtain⟨g,tx,rfl,h1,a,k⟩:=q;cases he;exact .within g (aj_ hl h1) tx a (h.fr k u_)
structure NC(w0:Aw)(P:Az)(ss:BA)(ds:Aq)(sv rv:Ax)(xs:Ay)(s:BA)(nt:Av)(nx:Ax)(pl:Ar)(br i:Nat)(W:Aw):Prop where
 R:yq W br sv rv s i (!pl)
 D:yC W P ss ds sv xs
 G:yy w0 W
 E:vw 3 w0 nt nx
 Pbr:∀g,P g->g<br
 brG:w0.heap.size<=br
 hs:s.size<=4000
 il:i<=s.size
section
variable {w0 W W':Aw} {P:Az} {ss:BA} {ds:Aq} {sv rv:Ax} {xs:Ay} {s:BA} {nt:Av} {nx:Ax} {pl:Ar} {br i i':Nat}
def NC.brP(M:NC w0 P ss ds sv rv xs s nt nx pl br i W):¬P br:=λh=>a5_ _ (M.Pbr br h)
def NC.lt(M:NC w0 P ss ds sv rv xs s nt nx pl br i W):br<W.heap.size:=Blk.lt M.R
def NC.call(M:NC w0 P ss ds sv rv xs s nt nx pl br i W)(h:yq W' br sv rv s i' (!pl))(hf:Fr W W' (· = br))(hi:i'<=s.size):NC w0 P ss ds sv rv xs s nt nx pl br i' W':=by
 have h1:=M.lt;have a:=M.brG;exact⟨h,M.D.fr hf (λg hg e=>M.brP (e▸hg)),M.G.fr hf M_ (λg e=>e▸M.brG),M.E,M.Pbr,M.brG,M.hs,hi⟩
def NC.new(M:NC w0 P ss ds sv rv xs s nt nx pl br i W)(hf:Fr W W' N_):NC w0 P ss ds sv rv xs s nt nx pl br i W':=M.call (hf.bl M.R id) (hf.mono v_) M.il
def NC.si(M:NC w0 P ss ds sv rv xs s nt nx pl br i W)(hf:zq W W'):NC w0 P ss ds sv rv xs s nt nx pl br i W':=M.new ((A_ W _).si hf)
def NC.e(M:NC w0 P ss ds sv rv xs s nt nx pl br i W):W.cell? ⟨3,0,none⟩=some (.iface nt nx):=M.G.err M.E
end
def yw(env:Au)(t:PT)(w:Aw)(sv rv:Ax)(s:BA)(nt:Av)(nx:Ax)(pl:Ar)(br:Nat)(res:Dm)(e:Ak)(w':Aw):Prop:=
 ∃v ev,e=.returned (.tuple #[v,ev])/\Fr w w' (· = br)/\
 match res with
 |some (d,j)=>ev=.nilIface/\DaV env w' (λg=>w.heap.size<=g) d t v/\yq w' br sv rv s j (!pl)/\j<=s.size
 |none=>v=.nilIface/\jv w' w.heap.size nt nx ev/\∃j,yq w' br sv rv s j (!pl)/\j<=s.size
section
variable {w0 w:Aw} {P:Az} {ss:BA} {ds:Aq} {sv rv:Ax} {xs:Ay} {s:BA} {nt:Av} {nx:Ax} {pl:Ar} {br i:Nat}
def oz{env:Au}{t:PT}{W:Aw}{j:Nat}(hf:Fr w W (· = br))(h:yq W br sv rv s j (!pl))(a:j<=s.size):yw env t w sv rv s nt nx pl br none (.returned (.tuple #[.nilIface,.iface nt nx])) W:=⟨.nilIface,_,rfl,hf,rfl,.base,j,h,a⟩
def nok{env:Au}{t:PT}{W:Aw}{j:Nat}{d:DT}{v:Ax}(a:DaV env W (λg=>w.heap.size<=g) d t v)(hf:Fr w W (· = br))(h:yq W br sv rv s j (!pl))(e:j<=s.size):yw env t w sv rv s nt nx pl br (some (d,j)) (.returned (.tuple #[v,.nilIface])) W:=⟨v,_,rfl,hf,rfl,a,h,e⟩
end
def uH{s:BA}{i:Nat}(h:i<=s.size):i<=ze s i/\ze s i<=s.size:=⟨(yR 97 122 s _ i l_).1,(yR 97 122 s _ i l_).2 h⟩
def lf(s:BA)(i:Nat):Option (DT×Nat):=if bt s i=84 then some (.mk 116 1 noB [] [],i+1) else if bt s i=70 then some (.mk 116 0 noB [] [],i+1) else none
def Yj{w0 w:Aw}{P:Az}{ss:BA}{ds:Aq}{sv rv:Ax}{xs:Ay}{s:BA}{nt:Av}{nx:Ax}{pl:Ar}{br i:Nat}{t:PT}(M:NC w0 P ss ds sv rv xs s nt nx pl br i w):Calls prog 191 #[P_ br] w (yw (zx ds) t w sv rv s nt nx pl br (lf s i)):=by
 refine hq_ λJ G=>?_;have A:s.size<=4000:=y3_
 have F:=zy (A_ w (λg=>g=br));have k:=M.il;replace M:=zy M;by_cases r:bt s i=84
 .have y:i+1<=s.size:=zm (s:=s) (i:=i) M_;have hr:=zy (show lf s i=some (.mk 116 1 noB [] [],i+1) by unfold lf;rw[i_ r]);have hb:=zy r;go_in;go_wp2_with (go_at_call 190;apply(yT 84 M.o.R A k D_ D_ hb).mono;rintro e H ⟨rfl,a,h⟩;have q:=zy (M.o.call h a y);have u:=zy (F.o.trans a u_));try go_ret
  rw[G.o,hr.o];exact nok (W_ (.truth true) D_) u q.o.R y
 .by_cases D:bt s i=70
  .have y:i+1<=s.size:=zm (s:=s) (i:=i) M_;have hr:=zy (show lf s i=some (.mk 116 0 noB [] [],i+1) by unfold lf;rw[n_ r,i_ D]);have hn:=zy r;have hb:=zy D;go_in;go_wp2_with (first
    |(go_at_call 190;apply(xQ 84 M.o.R A k D_ D_ hn).mono;rintro e H ⟨rfl,a,h⟩;have q:=zy (M.o.call h a k);have u:=zy (F.o.trans a u_))
    |(go_at_call 190;apply(yT 70 q.o.R A k D_ D_ hb).mono;rintro e I ⟨rfl,a,h⟩;have C:=zy (q.o.call h a y);have E:=zy (u.o.trans a u_)))
   try go_ret
   rw[G.o,hr.o];exact nok (W_ (.truth false) D_) E C.o.R y
  .have hr:=zy (show lf s i=none by unfold lf;rw[n_ r,n_ D]);have hn:=zy r;have hb:=zy D;go_in;go_wp2_with (first
    |(go_at_call 190;apply(xQ 84 M.o.R A k D_ D_ hn).mono;rintro e H ⟨rfl,a,h⟩;have q:=zy (M.o.call h a k);have u:=zy (F.o.trans a u_))
    |(go_at_call 190;apply(xQ 70 q.o.R A k D_ D_ hb).mono;rintro e I ⟨rfl,a,h⟩;have C:=zy (q.o.call h a k);have E:=zy (u.o.trans a u_)))
   have a:=C.o.e;go_quiet (fail);go_wp2;try go_ret
   rw[G.o,hr.o];exact oz (E.o.si (zq.drewN _ _)) (C.o.R.si (zq.drewN _ _)) k
def eX(w:Aw)(sv rv:Ax)(s:BA)(pl:Ar)(br i d:Nat)(e:Ak)(w':Aw):Prop:=
 ∃tx b,e=.returned (.tuple #[.string tx,.bool b])/\Fr w w' (· = br)/\
  ((bt s i=d/\bt s (ze s (i+1))=d/\b=true/\tx=s.extract (i+1) (ze s (i+1))/\yq w' br sv rv s (ze s (i+1)+1) (!pl)/\ze s (i+1)+1<=s.size)\/
   (¬(bt s i=d/\bt s (ze s (i+1))=d)/\b=false/\∃j,yq w' br sv rv s j (!pl)/\j<=s.size))
def cwbX1_{p:Prop}(h:p:=by
 (first|(have:=cc1)|(have hlt2:e1+1<=s.size:=zm (s:=s) (i:=e1) M_));have hbb:=zy hb2;replace hb:=zy hb;replace he1:=zy he1;go_in;go_wp2_with (first
  |(go_at_call 190;apply(yT d M.o.R hs4 hil rfl hd0 hb.o).mono;rintro e w2 ⟨rfl,hf2,h2⟩;have F1:=zy (F.o.trans hf2 u_);clear F M;replace h2:=zy h2;clear hf2)
  |(go_at_call 217;apply(ww h2.o hs4 hlt).mono;rintro e w3 ⟨rfl,hf3,h3⟩;rw[show zJ 97 122 s (i+1)=e1 from he1.o]at h3⊢;have F2:=zy (F1.o.trans hf3 u_);replace h3:=zy h3;clear hf3)
  |(go_at_call 190;(first|(have:=cc1;apply(xQ d h3.o hs4 hle.2 rfl hd0 hbb.o).mono)|(apply(yT d h3.o hs4 hle.2 rfl hd0 hbb.o).mono));rintro e w4 ⟨rfl,hf4,h4⟩;have F3:=zy (F2.o.trans hf4 u_);replace h4:=zy h4;clear hf4))
 try go_ret
 rw[Q_.o];(first|(have:=cc1;refine⟨_,false,rfl,F3.o,.inr ⟨λh=>?_,rfl,e1,h4.o,hle.2⟩⟩)|(refine⟨_,true,rfl,F3.o,.inl ?_⟩));(first|(have:=cc1;rw[he1.o]at h)|(rw[he1.o]));(first|(have:=cc1;exact hbb.o h.2)|(exact⟨hb.o,hbb.o,rfl,rfl,h4.o,hlt2⟩))):p:=h
def bX{w0 w:Aw}{P:Az}{ss:BA}{ds:Aq}{sv rv:Ax}{xs:Ay}{s:BA}{nt:Av}{nx:Ax}{pl:Ar}{br i:Nat}{c:Int}(d:Nat)(M:NC w0 P ss ds sv rv xs s nt nx pl br i w)(hd:c=(d:Int))(hd0:0<d):Calls prog 213 #[P_ br,.int .u8 c] w (eX w sv rv s pl br i d):=by
 subst hd;refine hq_ λk Q_=>?_;have hs4:s.size<=4000:=y3_
 have hil:=M.il;have F:=zy (A_ w (λg=>g=br));replace M:=zy M;by_cases hb:bt s i=d
 .have hlt:i+1<=s.size:=zm (s:=s) (i:=i) M_;have hle:=uH hlt;obtain⟨e1,he1⟩:=x_ (ze s (i+1));rw[he1]at hle;by_cases hb2:bt s e1=d
  .exact cwbX1_
  .have cc1:=Nat;exact cwbX1_
 .have a:=zy hb;go_in;go_wp2_with (go_at_call 190;apply(xQ d M.o.R hs4 hil rfl hd0 a).mono;rintro e w2 ⟨rfl,hf2,h2⟩;have F1:=zy (F.o.trans hf2 u_);replace h2:=zy h2);try go_ret
  rw[Q_.o];exact⟨_,false,rfl,F1,.inr ⟨λh=>a.o h.1,rfl,i,h2,hil⟩⟩
def sC(s:BA)(i:Nat):Option (DT×Nat):=if bt s i=34/\bt s (ze s (i+1))=34 then some (.mk 115 0 (s.extract (i+1) (ze s (i+1))) [] [],ze s (i+1)+1) else none
def cwaO1_{p:Prop}(h:p:=by
 (first|(have:=cc1;have hr:=zy (show rX s n i=none by unfold rX;rw[n_ (λh=>hb ⟨h.1,h.2.2⟩)]))|(have hr:=zy (show sC s i=none by unfold sC;rw[n_ hb])));replace hb:=zy hb;(try have:=cc1;clear M);go_in;go_wp2_with (go_at_call 213;apply hC.o.mono;rintro e w2 ⟨tx,b,rfl,hf2,hm⟩;obtain⟨rfl,j,h2,hj⟩:b=false/\∃j,yq w2 br sv rv s j (!pl)/\j<=s.size:=xs_;(first|(have:=cc1;have e0:=(M0.o.call h2 hf2 hj).e)|(have a:=M.o.call h2 hf2 hj;have e0:=a.e));replace hf2:=zy hf2;replace h2:=zy h2;(first|(have:=cc1;clear hm)|(clear hm a)));go_quiet (fail);go_wp2;try go_ret
 rw[Q_.o,hr.o];(first|(have:=cc1;exact oz ((F0.o.trans hf2.o u_).si (zq.drewN _ _)) (h2.o.si (zq.drewN _ _)) hj)|(exact oz (hf2.o.si (zq.drewN _ _)) (h2.o.si (zq.drewN _ _)) hj))):p:=h
def aO{w0 w:Aw}{t:PT}{P:Az}{ss:BA}{ds:Aq}{sv rv:Ax}{xs:Ay}{s:BA}{nt:Av}{nx:Ax}{pl:Ar}{br i:Nat}(M:NC w0 P ss ds sv rv xs s nt nx pl br i w):Calls prog 193 #[P_ br] w (yw (zx ds) t w sv rv s nt nx pl br (sC s i)):=by
 refine hq_ λa Q_=>?_;have hC:=zy (bX (c:=34) 34 M rfl D_);have a:=M.hs;replace M:=zy M;by_cases hb:bt s i=34/\bt s (ze s (i+1))=34
 .have hr:=zy (show sC s i=some (.mk 115 0 (s.extract (i+1) (ze s (i+1))) [] [],ze s (i+1)+1) by unfold sC;rw[i_ hb]);replace hb:=zy hb;go_in;go_wp2_with (go_at_call 213;apply hC.o.mono;rintro e w2 ⟨tx,b,rfl,hf2,hm⟩;obtain⟨rfl,rfl,h2,hj⟩:b=true/\tx=s.extract (i+1) (ze s (i+1))/\yq w2 br sv rv s (ze s (i+1)+1) (!pl)/\ze s (i+1)+1<=s.size:=(by rcases hm with⟨_,_,q1,a,q2,q3⟩|⟨q,_⟩;(exact⟨q1,a,q2,q3⟩);exact absurd hb.o q);replace hf2:=zy hf2;replace h2:=zy h2;replace hj:=zy hj);try go_ret
  rw[Q_.o,hr.o];exact nok (W_ (.text _ z2_) D_) hf2 h2 hj
 .exact cwaO1_
def rX(s:BA)(n i:Nat):Option (DT×Nat):=if bt s i=39/\ze s (i+1)-(i+1)=n/\bt s (ze s (i+1))=39 then some (.mk 102 0 (s.extract (i+1) (ze s (i+1))) [] [],ze s (i+1)+1) else none
def Yf{w0 w:Aw}{t:PT}{P:Az}{ss:BA}{ds:Aq}{sv rv:Ax}{xs:Ay}{s:BA}{nt:Av}{nx:Ax}{pl:Ar}{br i:Nat}{p:Int}(M:NC w0 P ss ds sv rv xs s nt nx pl br i w):Calls prog 199 #[P_ br,.agg #[Z_ p,I_ n]] w (yw (zx ds) t w sv rv s nt nx pl br (rX s n i)):=by
 refine hq_ λr Q_=>?_;have r:Fr w (w.alloc (.cells #[Z_ p,I_ n] 235)) N_:=(A_ w _).alloc _;have M0:=M.new r;have F:=M.lt;have F:=M.hs;have hC:=zy (bX (c:=39) 39 M0 rfl D_);have k:=B_ w #[Z_ p,I_ n] 235;have F0:=zy (r.mono (T:=λg=>g=br) v_);replace M0:=zy M0;replace k:=zy k;by_cases hb:bt s i=39/\bt s (ze s (i+1))=39
 .have r:i+1<=s.size:=zm (s:=s) (i:=i) M_;have D:=uH r;have A:(s.extract (i+1) (ze s (i+1))).size=ze s (i+1)-(i+1):=z2_
  replace hb:=zy hb;have u:H_ (∀e w2,eX (w.alloc (.cells #[Z_ p,I_ n] 235)) sv rv s pl br i 39 e w2->∃tx,e=.returned (.tuple #[.string tx,.bool true])/\tx=s.extract (i+1) (ze s (i+1))/\(tx.size:Int)=((ze s (i+1)-(i+1):Nat):Int)/\Fr (w.alloc (.cells #[Z_ p,I_ n] 235)) w2 (· = br)/\yq w2 br sv rv s (ze s (i+1)+1) (!pl)/\ze s (i+1)+1<=s.size):=zy (by
   rintro e w2 ⟨tx,b,rfl,hf2,hm⟩
   rcases hm with⟨_,_,rfl,rfl,q2,q3⟩|⟨q,_⟩
   .exact⟨_,rfl,rfl,by rw[A],hf2,q2,q3⟩
   .exact absurd hb.o q)
  by_cases hn:ze s (i+1)-(i+1)=n
  .have hr:=zy (show rX s n i=some (.mk 102 0 (s.extract (i+1) (ze s (i+1))) [] [],ze s (i+1)+1) by unfold rX;rw[i_ ⟨hb.o.1,hn,hb.o.2⟩]);rw[hn]at u;go_in;go_wp2_with (go_at_call 213;apply hC.o.mono;intro e w2 hB;obtain⟨tx,rfl,a,C,hf2,h2,hj⟩:=u.o e w2 hB;replace a:=zy a;have E:=(hf2.bl k M_).c1;revert hf2 h2 hj;refine h_ λhf2 h2 hj=>?_);try go_ret
   rw[Q_.o,hr.o];exact nok (by rw[<- a.o];exact W_ (.bytes _ (by rw[a.o,bk_];omega)) D_) (F0.o.trans hf2 u_) h2 hj
  .have hr:=zy (show rX s n i=none by unfold rX;rw[n_ (λh=>hn h.2.1)]);have y:∀z:Int,z=((ze s (i+1)-(i+1):Nat):Int)->(z != (n:Int))=true:=λz hz=>by rw[hz];simp;omega
   replace y:=zy y;go_in;go_wp2_with (go_at_call 213;apply hC.o.mono;intro e w2 hB;obtain⟨tx,rfl,a,C,hf2,h2,hj⟩:=u.o e w2 hB;have a:=y.o _ C;have E:=(hf2.bl k M_).c1;have e0:=(M0.o.call h2 hf2 hj).e;revert hf2 h2 hj;refine h_ λhf2 h2 hj=>?_);go_quiet (fail);go_wp2;try go_ret
   rw[Q_.o,hr.o];exact oz ((F0.o.trans hf2 u_).si (zq.drewN _ _)) (h2.o.si (zq.drewN _ _)) hj
 .have cc1:=Nat;exact cwaO1_
def cR:∀(l:List Nat) (q b:Nat),l[q]?=some b->b∉l.take q->l.findIdx? (λc=>c==b)=some q
 | [],q,b,h,_=>by simp at h
 |a::r,0,b,h,_=>by
  simp only[aa_,af_]at h;simp[List.findIdx?_cons,h]
 |a::r,q+1,b,h,hn=>by
  simp only[ab_]at h;simp only[List.take_succ_cons,an_,not_or]at hn;rw[List.findIdx?_cons,n_ (by simp;omega),cR r q b h hn.2];rfl
def fX{l:Ao}{b:Nat}(h:b∉l):l.findIdx? (λc=>c==b)=none:=by
 rw[List.findIdx?_eq_none_iff];intro x hx;exact beq_eq_false_iff_ne.2 (λe=>h (e▸hx))
def iN(s:BA)(l:As)(i:Nat):Option (DT×Nat):=
 match (l.map Prod.fst).findIdx? (λc=>c==bt s i) with|none=>none|some q=>some (.mk 101 q noB [] [],i+1)
def aI{w0 w:Aw}{t:PT}{P:Az}{ss:BA}{ds:Aq}{sv rv:Ax}{xs:Ay}{s:BA}{nt:Av}{nx:Ax}{pl:Ar}{br i:Nat}{p:Int}{lv u:Ax}{l:As}(M:NC w0 P ss ds sv rv xs s nt nx pl br i w)(a8:∀n,fW (zx ds) t n=(l.map Prod.fst).getD n 0)(ho:w.ownsRow 0 192 2 lv l.length (zI l))(I:∀g,lv.ownBlock=some g->P g)(hl:l.length<=300)(a7:∀q∈l,zl q.1=true):Calls prog 198 #[P_ br,.agg #[Z_ p,lv,u]] w (yw (zx ds) t w sv rv s nt nx pl br (iN s l i)):=by
 refine hq_ λa9 L=>?_;obtain⟨la,lc,rfl⟩:=zw ho;have V:s.size<=4000:=y3_
 have E:=M.il;have b5:=M.lt;have Z:=M.brP;have F:Fr w (w.alloc (.cells #[Z_ p,.slice la l.length lc,u] 233)) N_:=(A_ w _).alloc _;have start:H_ (∃q:Nat,Value.int .i64 0=I_ q/\q<=l.length/\l.length+1-q<=l.length+1/\Fr w (w.alloc (.cells #[Z_ p,.slice la l.length lc,u] 233)) (λg=>g=br)/\yq (w.alloc (.cells #[Z_ p,.slice la l.length lc,u] 233)) br sv rv s i (!pl)/\bt s i∉(l.take q).map Prod.fst):=zy ⟨0,rfl,al_ _,M_,F.mono v_,F.bl M.R id,by simp⟩;replace M:=zy M;replace ho:=zy ho;replace I:=zy I;clear F;go_in;go_wp2;go_loopg [6,11] (l.length+1) (λm v6 v W=>∃q:Nat,v=I_ q/\q<=l.length/\l.length+1-q<=m/\Fr w W (λg=>g=br)/\yq W br sv rv s i (!pl)/\bt s i∉(l.take q).map Prod.fst);case atStart=>exact start
 case round=>
  clear start;obtain⟨q,rfl,hq,hm,hf,y,he⟩:=hrel;have b6:=hf.size;by_cases H:q<l.length
  .have a3:(q:Int)<(l.length:Int):=M_;have hd:l[q]?=some l[q]:=ak_ H;have U:l[q]∈l:=bj_ H;generalize l[q]=f at hd U;obtain⟨c,X⟩:=f;obtain⟨k,hk,a2⟩:=kS (a7 _ U);have N:0<c:=by have:c=97+k:=hk;omega
   clear hk a2;obtain⟨g,b4,a1⟩:=zp ho M_;cases a1;have a5:¬g=br:=λe=>Z (e▸I.o g rfl);have J:=zj ho hf (λg' e=>by simp only[Value.ownBlock,af_]at e;subst e;exact a5);have c0:=zt J rfl (xV hd).1;have c1:=zt J rfl (xV hd).2;have K:=eS hd;have A:=(A_ wr N_).alloc (.cells #[I_ X,U_ c] 192);have C:=B_ wr #[I_ X,U_ c] 192;have D:=A.bl y id;have O:=zy (hf.trans A v_);clear J;by_cases hb:bt s i=c
   .have G:=zy (yT c (show yq _ br sv rv s i (!pl) from D) V E rfl N hb);have a4:i+1<=s.size:=zm (s:=s) (i:=i) M_;have hr:=zy (show iN s l i=some (.mk 101 (q:Int) noB [] [],i+1) by unfold iN;rw[cR _ q (bt s i) (by rw[as_,hd,hb];rfl) yu_]);have a6:=zy (show fW (zx ds) t q=c/\c<256 from⟨by rw[a8,aw_,as_,hd];rfl,by have:=fC s i;omega⟩);replace C:=zy C;clear D y hf A he K hb;go_wp2_with (go_at_call 190;apply G.o.mono;rintro e w2 ⟨rfl,a,r⟩;have n1:=(a.bl C M_).c1;replace a:=zy a;replace r:=zy r);try go_ret
    rw[L.o,hr.o];exact nok (.flat (.sym q c M_) (λn l' e=>by cases e;exact a6)) (O.o.trans a u_) r a4
   .have G:=zy (xQ c (show yq _ br sv rv s i (!pl) from D) V E rfl N hb);have a0:=zy (show bt s i∉(l.take (q+1)).map Prod.fst by rw[K,a4_,a2_];rintro(h|h);exact he h;exact hb h);clear D y hf A he K hb C;go_wp2_with (go_at_call 190;apply G.o.mono;rintro e w2 ⟨rfl,a,r⟩;replace a:=zy a;replace r:=zy r);go_roundg (l.length+1-(q+1));case measure=>omega
    case rel=>exact⟨q+1,rfl,H,l_,O.o.trans a u_,r,a0⟩
  .have a3:¬((q:Int)<(l.length:Int)):=M_;rw[bc_ M_]at he;have hr:=zy (show iN s l i=none by unfold iN;rw[fX he]);have e0:=(M.o.call y hf E).e;replace hf:=zy hf;replace y:=zy y;clear he;go_wp2;go_quiet (fail);go_wp2;try go_ret
   rw[L.o,hr.o];exact oz (hf.o.si (zq.drewN _ _)) (y.o.si (zq.drewN _ _)) E
def vO{St:Type}(step:St->Nat->Option (St×Nat))(s:BA)(fin:Nat):Nat->St->Nat->Option (St×Nat)
 | 0,_,_=>none
 |n+1,σ,j=>
  match step σ j with
  |none=>none
  |some (σ',j')=>if bt s j'=fin then some (σ',j'+1) else if bt s j'=44 then vO step s fin n σ' (j'+1) else none
def jd{St:Type}(step:St->Nat->Option (St×Nat))(s:BA)(op fin:Nat)(σ:St)(i:Nat):Option (St×Nat):=
 if bt s i=op then (if bt s (i+1)=fin then some (σ,i+2) else vO step s fin (s.size+2) σ (i+1)) else none
structure eo{St:Type}(sv rv:Ax)(s:BA)(nt:Av)(nx:Ax)(pl:Ar)(br fid:Nat)(caps:Ca)(step:St->Nat->Option (St×Nat))(Inv:St->Nat->World->Prop)(Bad:Da):Prop where
 F:∀W:World,(callFunc fid caps).run prog W=.ok (.enter fid caps) W
 R:∀{σ j W},Inv σ j W->yq W br sv rv s j (!pl)/\j<=s.size/\W.cell? ⟨3,0,none⟩=some (.iface nt nx)
 K:∀{σ j j' W W'},Inv σ j W->yq W' br sv rv s j' (!pl)->Fr W W' (· = br)->j'<=s.size->j<=j'->Inv σ j' W'
 B:∀{σ j W},Inv σ j W->Bad (.iface nt nx) W
 C:∀{σ j W},Inv σ j W->Calls prog fid caps W λe W'=>∃v,e=.returned v/\match step σ j with|some (σ',j')=>v=.nilIface/\j<j'/\Inv σ' j' W'|none=>(∃T x,v=.iface T x)/\Bad v W'
def sg{St:Type}(Inv:St->Nat->World->Prop)(Bad:Da)(res:Option (St×Nat))(e:Ak)(w':Aw):Prop:=
 ∃v,e=.returned v/\match res with|some (σ,j)=>v=.nilIface/\Inv σ j w'|none=>(∃T x,v=.iface T x)/\Bad v w'
def py{St:Type}{sv rv:Ax}{s:BA}{nt:Av}{nx:Ax}{pl:Ar}{br fid:Nat}{caps:Ca}{step:St->Nat->Option (St×Nat)}{Inv:St->Nat->World->Prop}{Bad:Da}(I:eo sv rv s nt nx pl br fid caps step Inv Bad){w:Aw}{σ:St}{i:Nat}{co cf:Int}(A fin:Nat)(H:yq w br sv rv s i (!pl))(b4:i<=s.size)(hS:∀W',yq W' br sv rv s (i+1) (!pl)->Fr w W' (· = br)->i+1<=s.size->Inv σ (i+1) W')(a5:∀W',yq W' br sv rv s i (!pl)->Fr w W' (· = br)->Bad (.iface nt nx) W'/\W'.cell? ⟨3,0,none⟩=some (.iface nt nx))(E:s.size<=4000)(b7:co=(A:Int))(a9:cf=(fin:Int))(b6:0<A)(a0:0<fin):Calls prog 214 #[P_ br,.int .u8 co,.int .u8 cf,.func (.func fid) #[] caps] w (sg Inv Bad (jd step s A fin σ i)):=by
 subst b7;subst a9;refine hq_ λb8 Q_=>?_;by_cases N:bt s i=A;case neg=>
  have hr:=zy (show jd step s A fin σ i=none by unfold jd;rw[n_ N]);have X:=zy (xQ A H E b4 rfl b6 N);replace a5:=zy a5;clear H N hS;go_in;go_wp2_with (go_at_call 190;apply X.o.mono;rintro e k ⟨rfl,L,h⟩;obtain⟨B2,e2⟩:=a5.o k h L;replace B2:=zy B2;clear L h);try go_ret
  rw[Q_.o,hr.o];exact⟨_,rfl,⟨_,_,rfl⟩,B2.o⟩
 case pos=>
 have a3:i+1<=s.size:=zm (s:=s) (i:=i) M_;have X:=zy (yT A H E b4 rfl b6 N);replace hS:=zy hS;replace I:=zy I;clear a5;by_cases Z:bt s (i+1)=fin;case pos=>
  have a4:i+1+1<=s.size:=zm (s:=s) (i:=i+1) M_;have hr:=zy (show jd step s A fin σ i=some (σ,i+2) by unfold jd;rw[i_ N,i_ Z]);have a7:H_ (∀k,yq k br sv rv s (i+1) (!pl)->_):=zy (λk h=>yT (w:=k) fin h E a3 rfl a0 Z);clear H N Z;go_in;go_wp2_with (first
   |(go_at_call 190;apply X.o.mono;rintro e k ⟨rfl,L,h⟩;have I2:=zy (hS.o k h L a3);clear L X;replace h:=zy h)
   |(go_at_call 190;apply(a7.o k h.o).mono;rintro e w3 ⟨rfl,a1,h3⟩;have I3:=zy (I.o.K I2.o h3 a1 a4 M_);clear a1 h3))
  try go_ret
  rw[Q_.o,hr.o];exact⟨_,rfl,rfl,I3.o⟩
 case neg=>
  have hr:=zy (show jd step s A fin σ i=vO step s fin (s.size+2) σ (i+1) by unfold jd;rw[i_ N,n_ Z]);have a7:H_ (∀k,yq k br sv rv s (i+1) (!pl)->_):=zy (λk h=>xQ (w:=k) fin h E a3 rfl a0 Z);clear H N Z;go_in;go_wp2_with (first
   |(go_at_call 190;apply X.o.mono;rintro e k ⟨rfl,L,h⟩;have I2:=zy (hS.o k h L a3);clear L X;replace h:=zy h)
   |(go_at_call 190;apply(a7.o k h.o).mono;rintro e w3 ⟨rfl,a1,h3⟩;have I3:=I.o.K I2.o h3 a1 a3 l_;have start:=zy (⟨s.size+2,σ,i+1,I3,M_,M_,hr.o⟩:∃n σ' j,Inv σ' j w3/\s.size+1-j<=s.size+1/\s.size+1-j<=n/\jd step s A fin σ i=vO step s fin n σ' j);clear I3 a1 h3 I2 hr))
  go_loopg [] (s.size+1) (λm W=>∃n σ' j,Inv σ' j W/\s.size+1-j<=m/\s.size+1-j<=n/\jd step s A fin σ i=vO step s fin n σ' j);case atStart=>exact start.o
  case round=>
   clear start;have a9:=I.o.F;obtain⟨n,σ1,j,hI,hm,hn,hr⟩:=hrel;obtain⟨H,h,hE⟩:=I.o.R hI;have r:=I.o.C hI;obtain⟨n',rfl⟩:∃n',n=n'+1:=⟨n-1,M_⟩;rw[vO]at hr;cases a6:step σ1 j with
   |none=>
    rw[a6]at hr r;replace hr:=zy hr;replace r:=zy r;clear H hE hI a6;go_wp2_with (apply r.o.mono;rintro e w5 ⟨v5,rfl,⟨a,a,rfl⟩,hB⟩;replace hB:=zy hB;clear r);try go_ret
    rw[Q_.o,hr.o];exact⟨_,rfl,⟨_,_,rfl⟩,hB.o⟩
   |some q=>
    obtain⟨σ2,O⟩:=q;rw[a6]at hr r;simp only at hr;replace r:=zy r;clear H hE hI a6;by_cases y:bt s O=fin
    .rw[i_ y]at hr;replace hr:=zy hr;have a4:O+1<=s.size:=zm (s:=s) (i:=O) M_;replace y:=zy y;go_wp2_with (first
      |(apply r.o.mono;rintro e w5 ⟨v5,rfl,rfl,b5,a⟩;have U:=zy ((I.o.R a).1);have D:=(I.o.R a).2.1;replace a:=zy a;clear r)
      |(go_at_call 190;apply(yT fin U.o E D rfl a0 y.o).mono;rintro e w6 ⟨rfl,M,G⟩;have u:=zy (I.o.K a.o G M a4 M_);clear M G))
     try go_ret
     rw[Q_.o,hr.o];exact⟨_,rfl,rfl,u.o⟩
    .rw[n_ y]at hr;by_cases J:bt s O=44
     .rw[i_ J]at hr;replace hr:=zy hr;have a4:O+1<=s.size:=zm (s:=s) (i:=O) M_;replace y:=zy y;replace J:=zy J;go_wp2_with (first
       |(apply r.o.mono;rintro e w5 ⟨v5,rfl,rfl,b5,a⟩;have U:=zy ((I.o.R a).1);have D:=(I.o.R a).2.1;replace a:=zy a;clear r)
       |(go_at_call 190;apply(xQ fin U.o E D rfl a0 y.o).mono;rintro e w6 ⟨rfl,M,G⟩;have u:=I.o.K a.o G M D l_;have a8:=zy ((I.o.R u).1);replace u:=zy u;clear M G U)
       |(go_at_call 190;apply(yT 44 a8.o E D rfl D_ J.o).mono;rintro e w7 ⟨rfl,a2,h7⟩;have V:=zy (I.o.K u.o h7 a2 a4 M_);clear a2 h7))
      go_roundg (s.size+1-(O+1));case measure=>omega
      case rel=>exact⟨n',σ2,O+1,V.o,l_,M_,hr.o⟩
     .rw[n_ J]at hr;replace hr:=zy hr;replace y:=zy y;replace J:=zy J;go_wp2_with (first
       |(apply r.o.mono;rintro e w5 ⟨v5,rfl,rfl,b5,a⟩;have U:=zy ((I.o.R a).1);have D:=(I.o.R a).2.1;replace a:=zy a;clear r)
       |(go_at_call 190;apply(xQ fin U.o E D rfl a0 y.o).mono;rintro e w6 ⟨rfl,M,G⟩;have u:=I.o.K a.o G M D l_;have a8:=zy ((I.o.R u).1);replace u:=zy u;clear M G U)
       |(go_at_call 190;apply(xQ 44 a8.o E D rfl D_ J.o).mono;rintro e w7 ⟨rfl,a2,h7⟩;have V:=I.o.K u.o h7 a2 D l_;have a:=(I.o.R V).2.2;replace V:=zy V;clear a2 h7))
      try go_ret
      rw[Q_.o,hr.o];exact⟨_,rfl,⟨_,_,rfl⟩,I.o.B V.o⟩
def qy(w0:Aw)(P:Az)(ss:BA)(ds:Aq)(sv rv:Ax)(xs:Ay)(s:BA)(nt:Av)(nx:Ax)(pl:Ar)(br f:Nat)(t:PT)(j:Nat):Prop:=
 ∀(w:World) (v:Value),NC w0 P ss ds sv rv xs s nt nx pl br j w->TyV w P t v->
  Calls prog 148 #[P_ br,v] w (yw (zx ds) t w sv rv s nt nx pl br (rdT s (zx ds) pl f t j))
def wX(R:Aj)(l:Ae)(j:Nat):Option (List DT×Nat):=(R j).map (λq=>(l++[q.1],q.2))
def YY(R:Aj)(s:BA)(fin:Nat):∀n l j a,vO (wX R) s fin n l j=(ye R s fin false n a j).map (λq=>(l++q.1.map Prod.snd,q.2)):=by
 intro n;induction n with
 |zero=>intro l j a;rfl
 |succ n ih=>
  intro l j a;rw[vO,ye];simp only[kJ,be_,if_false,wX];cases R j with
  |none=>rfl
  |some q=>
   obtain⟨d,j'⟩:=q;simp only[bh_];split
   .rfl
   .split
    .rw[ih (l++[d]) (j'+1) (some noB)];cases ye R s fin false n (some noB) (j'+1) with
     |none=>rfl
     |some q=>simp
    .rfl
def JZ(R:Aj)(s:BA)(i:Nat):xN R s 91 i=(jd (wX R) s 91 93 [] i).map (λq=>(.mk 91 0 noB [] q.1,q.2)):=by
 unfold jd xN qj;by_cases h:bt s i=91
 .rw[i_ h,i_ h,show xj 91=93 from rfl,show((91:Nat)==123)=false from rfl];by_cases a:bt s (i+1)=93
  .rw[i_ a,i_ a];rfl
  .rw[n_ a,n_ a,YY R s 93 _ [] (i+1) none];cases ye R s 93 false (s.size+2) none (i+1) with
   |none=>rfl
   |some q=>simp
 .rw[n_ h,n_ h];rfl
structure LI(w0 w:Aw)(P:Az)(ss:BA)(ds:Aq)(sv rv:Ax)(xs:Ay)(s:BA)(nt:Av)(nx:Ax)(pl:Ar)(br i:Nat)(t:PT)(p:Int)(v:Ax)(l:Ae)(j:Nat)(W:Aw):Prop where
 M:NC w0 P ss ds sv rv xs s nt nx pl br j W
 fr:Fr w W (· = br)
 lt:br<w.heap.size
 hB:w.heap.size+3<=W.heap.size
 b2:Blk W w.heap.size [P_ br] 308
 b3:Blk W (w.heap.size+1) [Z_ p,v] 219
 ty:TyV W P t v
 c:i+l.length<j
 row:∃lv,Blk W (w.heap.size+2) [lv] 147/\jX (zx ds) W (w.heap.size+3) (λg=>w.heap.size+3<=g/\lv.ownBlock≠some g) (.wrap 91 0 t) lv l
section
variable {w0 w:Aw} {P:Az} {ss:BA} {ds:Aq} {sv rv:Ax} {xs:Ay} {s:BA} {nt:Av} {nx:Ax} {pl:Ar} {br i:Nat} {t:PT} {p:Int} {v:Ax} {l:Ae} {j j':Nat} {W W':Aw}
def LI.call(L:LI w0 w P ss ds sv rv xs s nt nx pl br i t p v l j W)(h:yq W' br sv rv s j' (!pl))(hf:Fr W W' (· = br))(k:j'<=s.size)(hc:i+l.length<j'):LI w0 w P ss ds sv rv xs s nt nx pl br i t p v l j' W':=by
 have h1:=L.lt;obtain⟨lv,r1,a⟩:=L.row;obtain⟨ys,q⟩:=a.row;exact⟨L.M.call h hf k,L.fr.trans hf u_,L.lt,aj_ L.hB hf.size,hf.bl L.b2 M_,hf.bl L.b3 M_,L.ty.fr hf (λg hg e=>L.M.brP (e▸hg)),hc,lv,hf.bl r1 M_,a.fr hf (λg hg e=>M_) (λg hg e=>by have:=q.lt g hg;omega)⟩
end
def Zb(w:Aw)(sv rv:Ax)(s:BA)(nt:Av)(nx:Ax)(pl:Ar)(br:Nat)(ev:Ax)(W:Aw):Prop:=
 Fr w W (· = br)/\jv W w.heap.size nt nx ev/\∃j,yq W br sv rv s j (!pl)/\j<=s.size
def sP:Tryz.prog.underlying 147=some (.slice 64):=K_
def qP:(Tryz.prog.info? 64).map (λi=>(i.zero,i.size,i.bytes))=some (some .nilIface,1,16):=K_
def cwYg1_{p:Prop}(h:p:=by
 obtain⟨d,H⟩:=q;(first|(have:=cc1;have a1:=hgo _ d H hp)|(have a1:=hgo d H hp));(first|(have:=cc1;have hst:=zy (show jH (rdT s (zx ds) pl f) fs ld j=some (ld++[d],H) by unfold jH;rw[hnn.o,hd];simp only;rw[hp];rfl))|(have hst:=zy (show wX (rdT s (zx ds) pl f t) l j=some (l++[d],H) by unfold wX;rw[hp];rfl)));replace hp:=zy hp;obtain⟨ti,V,X,Z,a0⟩:=info_parts qP;(try have:=cc1;clear hgo);go_in;go_wp2_with (first
  |(go_at_call 148;apply hC.o.mono;rintro e w1 ⟨v1,ev1,rfl,hf1,hm⟩;rw[hp.o]at hm;obtain⟨rfl,J,h1,hj1⟩:=hm;obtain⟨dT,dx,rfl⟩:=J.iface;(first|(have:=cc1;have r:=L1.o.call h1 hf1 hj1 (by rw[hnn.o];omega))|(have L1:=L.o.call h1 hf1 hj1 M_));(first|(have:=cc1;clear k0 c20 c31)|(obtain⟨lv,q1,Y,q2,qY⟩:=L.o.row));(first|(have:=cc1;have a:=(hf1.bl (hA1.o.bl r1.o id) M_))|(have r3:=zy q2.lt));(first|(have:=cc1;have r3:=zj (zj r2.o hA1.o u_) hf1 (λg hg e=>(by have:=r2.o.lt g hg;omega)))|(have r1:=hf1.bl q1 M_));(first|(have:=cc1;have a3:=zy (λi d (e:ld[i]?=some d)=>((rY.o i d e).fr hA1.o u_).fr hf1 (λg hg e=>zt_)))|(have r2:=zj q2 hf1 (λg hg e=>zc_);have rY:=zy (λi d (e:l[i]?=some d)=>(qY i d e).fr hf1 (λg hg e=>zt_));obtain⟨la,lc,rfl⟩:=zw r2));replace J:=zy J;(first|(have:=cc1;have k0:=a.c0)|(clear q1 q2 qY));(first|(have:=cc1;have kg:=a.th 0)|(have k0:=r1.c0));(first|(have:=cc1;have H:=r.hB)|(have kg:=r1.th 0));(first|(have:=cc1;replace r:=zy r)|(have H:=L1.hB));(first|(have:=cc1;replace a:=zy a)|(replace L1:=zy L1));(first|(have:=cc1;replace r3:=zy r3)|(replace r1:=zy r1;replace r2:=zy r2));clear hf1 h1)
  |(at_builtin;go_must ((first|(have:=cc1;refine wpList_append_own_at _ rfl _ _ 155 rfl (w.heap.size+3) 64 ti _ 1 16 Zn V X Z a0 rfl D_ (.slice la n lc) n ((List.range n).flatMap λi=>[Y i]) rfl ?hown _ 1 1 [.iface dT dx] rfl rfl (zF _ #[.iface dT dx] _ _ ?nn) ?one ?b1 ?b2 ?b3 ?_)|(refine wpList_append_own_at _ rfl _ _ 147 rfl (w.heap.size+3) 64 ti _ 1 16 sP V X Z a0 rfl D_ (.slice la l.length lc) l.length ((List.range l.length).flatMap λi=>[Y i]) rfl ?hown _ 1 1 [.iface dT dx] rfl rfl (zF _ #[.iface dT dx] _ _ ?nn) ?one ?b1 ?b2 ?b3 ?_)))
    case hown=>(first|(have:=cc1;exact World.ownsRow.alloc r3.o _)|(exact World.ownsRow.alloc r2.o _))
    case nn=>simp
    case one=>simp[Value.oneCell']
    case b1=>unfold maxLen;omega
    case b2=>omega
    case b3=>simp;omega
    intro v5 w5 I N a2 O
    (first|(have:=cc1;have u:Fr w1 w5 (λg=>(Value.slice la n lc).ownBlock=some g):=Y_ ((A_ w1 _).alloc _) N (λk e _=>e))|(have u:Fr w1 w5 (λg=>(Value.slice la l.length lc).ownBlock=some g):=Y_ ((A_ w1 _).alloc _) N (λk e _=>e)))
    (first|(have:=cc1;have C:=u.bl a.o (λe=>by have:=r3.o.lt _ e;omega))|(have a:=(u.bl r1.o (λe=>by have:=r2.o.lt _ e;omega)).cell 0))
    (first|(have:=cc1;have a:=C.c0)|(have f5:=(u.bl r1.o (λe=>by have:=r2.o.lt _ e;omega)).th 0))
    (first|(have:=cc1;have f5:=C.th 0)|(have C:=u.bl r1.o (λe=>by have:=r2.o.lt _ e;omega);simp only[aa_]at a))
    have K:∀g,v5.ownBlock=some g->w.heap.size+3<=g:=(λg hg=>(I.lt g hg).1)
    obtain⟨A,y,rfl⟩:=zp I M_
    replace u:=zy u
    replace I:=zy I
    replace C:=zy C
    replace K:=zy K
    (first|(have:=cc1;have U:H_ ((Value.slice (some ⟨A,0,none⟩) (n+1) y).ownBlock=(Value.slice la n lc).ownBlock\/∃h,(Value.slice (some ⟨A,0,none⟩) (n+1) y).ownBlock=some h/\w1.heap.size<=h):=zy (O.imp id (λe=>⟨_,e,by simp⟩)))|(have U:H_ ((Value.slice (some ⟨A,0,none⟩) (l.length+1) y).ownBlock=(Value.slice la l.length lc).ownBlock\/∃h,(Value.slice (some ⟨A,0,none⟩) (l.length+1) y).ownBlock=some h/\w1.heap.size<=h):=zy (O.imp id (λe=>⟨_,e,by simp⟩))))
    clear N O a2))
 try go_ret
 rw[Q_.o];refine⟨_,rfl,?_⟩;rw[hst.o];refine⟨rfl,a1,?_⟩;(first|(have:=cc1;have H:Fr w5 (w5.setCell ⟨w.heap.size+2,0,none⟩ (S_ A (n+1) y)) (λg=>g=w.heap.size+2):=(A_ w5 (λg=>g=w.heap.size+2)).setCell ⟨w.heap.size+2,0,none⟩ _ (λ_=>rfl))|(have H:Fr w5 (w5.setCell ⟨w.heap.size+2,0,none⟩ (.slice (some ⟨A,0,none⟩) (l.length+1) y)) (λg=>g=w.heap.size+2):=(A_ w5 (λg=>g=w.heap.size+2)).setCell ⟨w.heap.size+2,0,none⟩ _ (λ_=>rfl)));(first|(have:=cc1;have a:Fr w1 (w5.setCell ⟨w.heap.size+2,0,none⟩ (S_ A (n+1) y)) (λg=>w.heap.size+2<=g):=(u.o.mono (λg _ e=>by have:=r3.o.lt g e;omega)).trans H (λg _ e=>M_))|(have a:Fr w1 (w5.setCell ⟨w.heap.size+2,0,none⟩ (.slice (some ⟨A,0,none⟩) (l.length+1) y)) (λg=>w.heap.size+2<=g):=(u.o.mono (λg _ e=>by have:=r2.o.lt g e;omega)).trans H (λg _ e=>M_)));(first|(have:=cc1;have hM1:=r.o.M)|(have hM1:=L1.o.M));have y:=hM1.brG;(first|(have:=cc1;have y:=r.o.lt)|(have y:=L1.o.lt));have y:∀g,P g->¬(w.heap.size+2<=g):=λg hg=>by have:=hM1.Pbr g hg;omega
 (first|(have:=cc1;exact⟨r.o.sub,⟨a.bl hM1.R M_,hM1.D.fr a y,hM1.G.fr a z8_ (λg e=>M_),hM1.E,hM1.Pbr,hM1.brG,hM1.hs,hM1.il⟩,r.o.fr.trans a (λg hg e=>M_),r.o.lt,aj_ r.o.hB a.size,a.bl r.o.b2 M_,a.bl r.o.b3 M_,r.o.F.fr a y,by rw[ah_,hnn.o,ap_];omega,by rw[ah_,hnn.o,ap_];omega,_,C.o.set 0 _,jX.grow (t:=tt) (c:=w.heap.size+2) a3.o (by rw[hsb.o];exact(J.o.mono (λg _ hg=>⟨by have:=L.o.hB;rw[hz1.o]at hg;omega,λe=>by have:=r2.o.lt g e;rw[hz1.o]at hg;omega⟩))) ((u.o.mono (λ_ _ e=>.inl e)).trans H (λ_ _ e=>.inr e)) M_ U.o (by rw[hnn.o];exact zj I.o H (λg hg e=>by have:=K.o g hg;omega))⟩)|(exact⟨⟨a.bl hM1.R M_,hM1.D.fr a y,hM1.G.fr a z8_ (λg e=>M_),hM1.E,hM1.Pbr,hM1.brG,hM1.hs,hM1.il⟩,L1.o.fr.trans a (λg hg e=>M_),L1.o.lt,aj_ L1.o.hB a.size,a.bl L1.o.b2 M_,a.bl L1.o.b3 M_,L1.o.ty.fr a y,by rw[ah_,ap_];omega,_,C.o.set 0 _,jX.grow (t:=.wrap 91 0 t) (c:=w.heap.size+2) rY.o (J.o.mono (λg _ hg=>⟨by have:=L.o.hB;omega,λe=>by have:=r3.o g e;omega⟩)) ((u.o.mono (λ_ _ e=>.inl e)).trans H (λ_ _ e=>.inr e)) M_ U.o (zj I.o H (λg hg e=>by have:=K.o g hg;omega))⟩))):p:=h
def Yg{w0 w:Aw}{P:Az}{ss:BA}{ds:Aq}{sv rv:Ax}{xs:Ay}{s:BA}{nt:Av}{nx:Ax}{pl:Ar}{br i:Nat}{t:PT}{p:Int}{vT:Av}{vx:Ax}{l:Ae}{j f:Nat}{W:Aw}(L:LI w0 w P ss ds sv rv xs s nt nx pl br i t p (.iface vT vx) l j W)(y:yg w0)(A:qy w0 P ss ds sv rv xs s nt nx pl br f t j)(hgo:∀d j',rdT s (zx ds) pl f t j=some (d,j')->j<j'):Calls prog 215 #[P_ w.heap.size,.pointer (some ⟨w.heap.size+1,0,none⟩),.pointer (some ⟨w.heap.size+2,0,none⟩)] W λe W'=>∃v,e=.returned v/\match wX (rdT s (zx ds) pl f t) l j with|some (l',j')=>v=.nilIface/\j<j'/\LI w0 w P ss ds sv rv xs s nt nx pl br i t p (.iface vT vx) l' j' W'|none=>(∃T x,v=.iface T x)/\Zb w sv rv s nt nx pl br v W':=by
 refine hq_ λH Q_=>?_;have hC:=zy (A W _ L.M L.ty);have c20:=L.b2.c0;have c31:=L.b3.c1;have A:=L.M.il;have A:=L.M.hs;have A:=L.c;have A:=L.lt;replace L:=zy L;cases hp:rdT s (zx ds) pl f t j with
 |none=>
  have hst:=zy (show wX (rdT s (zx ds) pl f t) l j=none by unfold wX;rw[hp];rfl);replace hp:=zy hp;go_in;go_wp2_with (first
   |(go_at_call 148;apply hC.o.mono;rintro e w1 ⟨v1,ev1,rfl,hf1,hm⟩;rw[hp.o]at hm;obtain⟨rfl,h,E,h1,hj1⟩:=hm;obtain⟨A,A,rfl⟩:=h.iface;have k:=(L.o.M.call h1 hf1 hj1).G;obtain⟨lv,r1,r2⟩:=L.o.row;obtain⟨ys,r3⟩:=r2.row;obtain⟨la,lc,rfl⟩:=zw r3;have k0:=(hf1.bl r1 M_).c0;replace hf1:=zy hf1;replace h:=zy h;replace h1:=zy h1;replace k:=zy k)
   |(go_at_call 153;apply(pg (n:=l.length) y k M_).mono;intro e k C;obtain⟨u,F,rfl,k,r,a⟩:=C;replace a:=zy a;replace r:=zy r))
  try go_ret
  rw[Q_.o];refine⟨_,rfl,?_⟩;rw[hst.o];have k:=(L.o.fr.trans hf1 u_).size;have D:=L.o.fr.size;exact⟨⟨_,_,rfl⟩,(L.o.fr.trans hf1 u_).trans a v_,.within u M_ F r ((h.o.ls D).fr a u_),E,a.o.bl h1 id,hj1⟩
 |some q=>
  exact cwYg1_
end Go.Proofs.YtamhgejdkclmdaaGreatDoor
