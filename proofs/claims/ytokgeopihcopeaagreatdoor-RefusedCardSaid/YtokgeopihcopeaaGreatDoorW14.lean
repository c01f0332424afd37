import Derived.Test.YtokgeopihcopeaaGreatDoorW13
import Derived.Lib.AppendStr
import Derived.Deep.RegionWith
set_option linter.unusedVariables false
set_option maxHeartbeats 16000000
set_option maxRecDepth 100000
set_option linter.defProp false
set_option linter.unusedSimpArgs false
open Go.Proofs.Tryz
namespace Go.Proofs.YtokgeopihcopeaaGreatDoor
open Go.RowKit
variable {b tx:BA}{u:Ax}{Y:Ai}{m lc c n g:Nat}{la:Am}{ks:Dq}
def Ge(m:Nat):Prop:=∀(d:DT),ndT d<=m->ndT d<=1000000000->∀(w:World) (P:Nat->Prop) (v:Value),xW w P d v->
 Calls prog 45 #[v] w λe w'=>e=.returned (Z_ (ndT d:Int))/\Fr w w' N_
def qQ{w:Aw}(ho:w.ownsRow 0 52 1 (S_ g n c) n ((List.range n).flatMap λi=>[Y i])){q:Nat}(a:q<n):w.cell? ⟨g,q,none⟩=some (Y q):=
 zr ho rfl (by have:=mH n (λi=>[Y i]) (m:=1) (λ_ _=>rfl) q 0 a D_;simpa using this)
def bQ{w:Aw}{K:Nat->BA}(ho:w.ownsRow 0 201 2 (S_ g n c) n ((List.range n).flatMap λi=>[.string (K i),Y i])){q:Nat}(a:q<n):w.cell? ⟨g,q*2,none⟩=some (.string (K q))/\w.cell? ⟨g,q*2+1,none⟩=some (Y q):=by
 have h:=mH n (λi=>[.string (K i),Y i]) (m:=2) (λ_ _=>rfl) q;exact⟨zr ho rfl (by have:=h 0 a D_;simpa using this),zr ho rfl (by have:=h 1 a D_;simpa using this)⟩
def gE{d:DT}{T:Av}{x:Ax}(a:T≠144/\T≠147/\T≠150/\T≠152)(hd:ndT d=1)(w:Aw):Calls prog 45 #[.iface T x] w λe w'=>e=.returned (Z_ (ndT d:Int))/\Fr w w' N_:=by
 refine hq_ λh h=>?_;have i:=WT T a.1;have i:=Pu T a.2.1;have i:=Xy T a.2.2.1;have i:=Xz T a.2.2.2;replace hd:=zy hd;go_in;go_wp2;try go_ret
 rw[h.o,hd.o];exact⟨rfl,A_ _ _⟩
def Jq(j:Ge m){d:DT}{v:Ax}{w:Aw}{P:Az}(hm:ndT d<=m)(hb:ndT d<=1000000000)(hv:xW w P d v):Calls prog 45 #[.iface 150 (.agg #[I_ n,v])] w λe w'=>e=.returned (Z_ (ndT (.mk 40 (n:Int) noB [] [d]):Int))/\Fr w w' N_:=by
 refine hq_ λl k=>?_;obtain⟨T,x,rfl⟩:=hv.iface;have i:=zy (show ndT (.mk 40 (n:Int) noB [] [d])=1+ndT d by simp only[ndT,za,bp_]);have A:Fr w (w.alloc (.cells #[I_ n,.iface T x] 150)) N_:=(A_ w _).alloc _;have h:=zy (j d hm hb _ P _ (hv.fr A u_));obtain⟨D,a⟩:=x_ (ndT d);rw[a]at h i hb;replace a:=zy a;replace A:=zy A;go_in;go_wp2_with (go_at_call 45;apply h.o.mono;rintro e a ⟨rfl,a⟩;replace a:=zy a);try go_ret
 rw[k.o,i.o];exact⟨by simp,A.o.trans a u_⟩
def cq2_{p:Prop}(h:p:=by
 refine hq_ λJ F=>?_;(first|(have:=cc1;have C:=zy (show ndT (.mk 114 0 noB [] ds)=1+za ds by unfold ndT;rfl))|(have C:=zy (show ndT (.mk 91 0 noB [] ds)=1+za ds by unfold ndT;rfl)));have start:H_ (∃q:Nat,Value.int .i64 1=.int .i64 ((1+za (ds.take q):Nat):Int)/\Value.int .i64 0=I_ q/\q<=ds.length/\ds.length+1-q<=ds.length+1/\Fr w w N_):=zy ⟨0,by simp[za],rfl,am_ _,M_,A_ _ _⟩;replace ho:=zy ho;replace hd:=zy hd;go_in;go_wp2_with fail;(first|(have:=cc1;go_loopg [3,13,57] (ds.length+1) (λm y I v W=>∃q:Nat,y=.int .i64 ((1+za (ds.take q):Nat):Int)/\v=I_ q/\q<=ds.length/\ds.length+1-q<=m/\Fr w W N_))|(go_loopg [3,6,20] (ds.length+1) (λm y I v W=>∃q:Nat,y=.int .i64 ((1+za (ds.take q):Nat):Int)/\v=I_ q/\q<=ds.length/\ds.length+1-q<=m/\Fr w W N_)));case atStart=>exact start.o
 case round=>
  clear start;obtain⟨q,rfl,rfl,N,M,a⟩:=hrel;by_cases s:q<ds.length
  .have H:(q:Int)<(ds.length:Int):=M_;have i:ds[q]?=some ds[q]:=aj_ s;generalize ds[q]=d at i;obtain⟨j,E⟩:=xJ i;obtain⟨g,K,G⟩:=zg ho.o M_;cases G;have hv:=hd.o q d i;obtain⟨T,x,hx⟩:=hv.iface;rw[hx]at hv;have L:wr.cell? ⟨g,q,none⟩=some (.iface T x):=by
    rw[<- hx];exact qQ (zj ho.o a u_) s
   have A:=zy (ih d M_ M_ wr P _ (hv.fr a u_));have O:q<=1000000000:=by have:=xR ds;omega
   obtain⟨S,k⟩:∃S,za (ds.take q)=S:=⟨_,rfl⟩;obtain⟨D,l⟩:∃D,ndT d=D:=⟨_,rfl⟩;rw[k]at j E;rw[l]at j E A;rw[k];replace j:=zy j;replace k:=zy k;replace l:=zy l;replace a:=zy a;replace i:=zy i;replace hv:=zy hv;clear hx;go_wp2_with (go_at_call 45;refine A.o.mono ?_;rintro e R ⟨rfl,r⟩;replace r:=zy r);go_roundg (ds.length+1-(q+1));case measure=>omega
   case rel=>exact⟨q+1,by rw[j.o];simp;omega,by simp,s,l_,a.o.trans r.o u_⟩
  .have H:¬((q:Int)<(ds.length:Int)):=M_;rw[bc_ M_];replace a:=zy a;go_wp2_with fail;try go_ret
   rw[F.o,C.o];exact⟨rfl,a.o⟩):p:=h
def FQ(ih:Ge m){ds:Ae}{w:Aw}{P:Az}(hm:1+za ds<=m+1)(hb:1+za ds<=1000000000)(ho:w.ownsRow 0 52 1 (.slice la ds.length lc) ds.length ((List.range ds.length).flatMap λi=>[Y i]))(hd:∀i d,ds[i]?=some d->xW w P d (Y i)):Calls prog 45 #[.iface 144 (.slice la ds.length lc)] w λe w'=>e=.returned (Z_ (ndT (.mk 91 0 noB [] ds):Int))/\Fr w w' N_:=by
 exact cq2_
def FJ(ih:Ge m){ds:Ae}{w:Aw}{P:Az}(hm:1+za ds<=m+1)(hb:1+za ds<=1000000000)(ho:w.ownsRow 0 52 1 (.slice la ds.length lc) ds.length ((List.range ds.length).flatMap λi=>[Y i]))(hd:∀i d,ds[i]?=some d->xW w P d (Y i)):Calls prog 45 #[.iface 152 (.slice la ds.length lc)] w λe w'=>e=.returned (Z_ (ndT (.mk 114 0 noB [] ds):Int))/\Fr w w' N_:=by
 have cc1:=Nat
 exact cq2_
def Uc(G:Ge m){ds:Ae}{K:Nat->BA}{w:Aw}{P:Az}(hm:1+za ds<=m+1)(hb:1+za ds<=1000000000)(ho:w.ownsRow 0 201 2 (.slice la ds.length lc) ds.length ((List.range ds.length).flatMap λi=>[.string (K i),Y i]))(hd:∀i d,ds[i]?=some d->xW w P d (Y i)):Calls prog 45 #[.iface 147 (.slice la ds.length lc)] w λe w'=>e=.returned (Z_ (ndT (.mk 123 0 noB ks ds):Int))/\Fr w w' N_:=by
 refine hq_ λC y=>?_;have F:=zy (show ndT (.mk 123 0 noB ks ds)=1+za ds by unfold ndT;rfl);have start:H_ (∃q:Nat,Value.int .i64 1=Z_ ((1+za (ds.take q):Nat):Int)/\Value.int .i64 0=I_ q/\q<=ds.length/\ds.length+1-q<=ds.length+1/\Fr w w N_):=zy ⟨0,by simp[za],rfl,am_ _,M_,A_ _ _⟩;replace ho:=zy ho;replace hd:=zy hd;go_in;go_wp2;go_loopg [3,9,34] (ds.length+1) (λm C H v W=>∃q:Nat,C=Z_ ((1+za (ds.take q):Nat):Int)/\v=I_ q/\q<=ds.length/\ds.length+1-q<=m/\Fr w W N_);case atStart=>exact start
 case round=>
  obtain⟨q,rfl,rfl,C,C,a⟩:=hrel;by_cases p:q<ds.length
  .have E:(q:Int)<(ds.length:Int):=M_;have h:ds[q]?=some ds[q]:=aj_ p;generalize ds[q]=d at h;obtain⟨j,s⟩:=xJ h;obtain⟨g,C,C⟩:=zg ho M_;cases C;have hv:=hd.o q d h;obtain⟨T,x,hx⟩:=hv.iface;rw[hx]at hv;obtain⟨C,C⟩:=bQ (zj ho a u_) p;rw[hx]at C;have A:Fr wr (wr.alloc (.cells #[.string (K q),.iface T x] 201)) N_:=(A_ wr _).alloc _;have r:=zy (G d M_ M_ (wr.alloc (.cells #[.string (K q),.iface T x] 201)) P _ ((hv.fr a u_).fr A u_));replace A:=zy A;have C:q<=1000000000:=by have:=xR ds;omega
   obtain⟨S,k⟩:=x_ (za (ds.take q));obtain⟨D,l⟩:=x_ (ndT d);rw[k]at j s;rw[l]at j s r;rw[k];replace j:=zy j;replace k:=zy k;replace l:=zy l;replace a:=zy a;replace h:=zy h;replace hv:=zy hv;go_wp2_with (go_at_call 45;apply r.o.mono;rintro e h ⟨rfl,h⟩;replace h:=zy h);go_roundg (ds.length+1-(q+1));case measure=>omega
   case rel=>exact⟨q+1,by rw[j.o];simp;omega,by simp,p,l_,(a.o.trans A u_).trans h u_⟩
  .have E:¬((q:Int)<(ds.length:Int)):=M_;rw[bc_ M_];replace a:=zy a;go_wp2;try go_ret
   rw[y.o,F.o];exact⟨rfl,a⟩
def Yj:∀m,Ge m:=by
 intro m;induction m with
 |zero=>intro d h;obtain⟨_,_,_,_,_⟩:=d;unfold ndT at h;omega
 |succ m ih=>
  intro d hm hb w P v hv;cases hv with
  |flat h=>
   cases h with
   |nothing=>exact gE D_ y6_ w
   |truth b=>exact gE D_ y6_ w
   |num c n hc h0 h1=>exact gE D_ y6_ w
   |text tx h=>exact gE D_ y6_ w
   |bytes tx h=>exact gE D_ y6_ w
   |sym n l h=>exact gE D_ y6_ w
  |branch n h hd=>
   unfold ndT at hm hb;simp only[za,bp_]at hm hb;exact Jq ih M_ M_ hd
  |row Y hc ho hP hd=>
   unfold ndT at hm hb;obtain⟨la,lc,rfl⟩:=zw ho;rcases hc with⟨rfl,rfl⟩|⟨rfl,rfl⟩
   .exact FQ ih hm hb ho hd
   .exact FJ ih hm hb ho hd
  |map Y hl hk ho hP hd=>
   unfold ndT at hm hb;obtain⟨la,lc,rfl⟩:=zw ho;exact Uc ih (K:=λi=>_) hm hb ho hd
def zG(w:Aw)(B:Nat)(v:Ax)(b:BA):Prop:=w.ownsRow B 5 1 v b.size (Lib.strCells b)
def FZ{n:Int}(h0 : -9223372036854775808<=n)(h1:n<0):IntKind.u64.wrap (bits .xor .i64 (-1) n) = -(n+1):=by
 have e:bits .xor .i64 (-1) n=IntKind.i64.wrap ((BitVec.ofInt 64 (-1) ^^^ BitVec.ofInt 64 n).toNat:Int):=rfl;have a:BitVec.ofInt 64 (-1)=BitVec.allOnes 64:=D_;rw[e,a,BitVec.allOnes_xor,BitVec.toNat_not,IntKind.wrap_u64,BitVec.toNat_ofInt];simp only[IntKind.wrap,IntKind.bits,IntKind.signed];have:((n % ((2 ^ 64:Nat):Int)).toNat:Int)=n+18446744073709551616:=by
  have:n % ((2 ^ 64:Nat):Int)=n+18446744073709551616:=M_;omega
 simp;omega
def Uv{x:Nat}(h:x<256):x ||| 128=x % 128+128:=by
 have k:∀y,y<128->128+y=128 ||| y:=λy hy=>by
  have:=Nat.two_pow_add_eq_or_of_lt (i:=7) (b:=y) M_ 1;simpa using this
 by_cases hx:x<128
 .rw[Nat.mod_eq_of_lt hx,Nat.or_comm,<- k x hx];omega
 .have e:x=128 |||(x-128):=by rw[<- k _ M_];omega
  rw[show x ||| 128=x by
   conv=>lhs;rw[e,Nat.or_comm,<- Nat.or_assoc,Nat.or_self,<- e]]
  omega
def MM{z:Nat}:bits .or .u8 ((z:Int) % 256) 128=((z % 128+128:Nat):Int):=by
 have e:bits .or .u8 ((z:Int) % 256) 128=IntKind.u8.wrap ((BitVec.ofInt 8 ((z:Int) % 256) ||| BitVec.ofInt 8 128).toNat:Int):=rfl;have h1:(BitVec.ofInt 8 ((z % 256:Nat):Int)).toNat=z % 256:=by
  rw[BitVec.ofInt_natCast,BitVec.toNat_ofNat];exact Nat.mod_eq_of_lt M_
 have a:(BitVec.ofInt 8 128).toNat=128:=D_;rw[e,show((z:Int) % 256)=((z % 256:Nat):Int) by omega,BitVec.toNat_or,h1,a,Uv M_];simp[IntKind.wrap,IntKind.bits,IntKind.signed];omega
def Wi{w:Aw}{n:Int}(h0 : -9223372036854775808<=n)(h1:n<=9223372036854775807):Calls prog 129 #[Z_ n] w λe w'=>e=.returned (.int .u64 (kB n:Int))/\w'=w:=by
 refine hq_ λh a=>?_;by_cases hn:n<0
 .go_in;go_wp2;try go_ret
  rw[a.o,FZ h0 hn,IntKind.wrap_u64,IntKind.wrap_u64];unfold kB;rw[i_ hn];refine⟨?_,rfl⟩
  congr 2
  omega
 .go_in;go_wp2;try go_ret
  rw[a.o];unfold kB;rw[n_ M_];refine⟨?_,rfl⟩
  congr 2
  omega
def wU:Tryz.prog.underlying 94=some (.slice 5):=K_
def oQ:(Tryz.prog.info? 5).map (λi=>(i.zero,i.size,i.bytes))=some (some (.int .u8 0),1,1):=K_
def ya(a b:BA):Lib.strCells (a++b)=Lib.strCells a++Lib.strCells b:=by
 unfold Lib.strCells;simp
def jh(h:c<256):Lib.strCells (bts [c])=[U_ c]:=by
 unfold Lib.strCells bts;simp;omega
def Own(w:Aw)(v v':Ax):Prop:=v'.ownBlock=v.ownBlock\/∃h,v'.ownBlock=some h/\w.heap.size<=h
def Own.trans{w W:Aw}{v e a:Ax}(h:Own w v e)(k:a.ownBlock=e.ownBlock\/a.ownBlock=some W.heap.size)(hs:w.heap.size<=W.heap.size):Own w v a:=by
 rcases k with k|k
 .unfold Own;rw[k];exact h
 .exact .inr ⟨_,k,hs⟩
def Own.fr{w W a:Aw}{v i:Ax}(h:Own w v i)(j:Fr w W (λg=>v.ownBlock=some g))(k:Fr W a (λg=>i.ownBlock=some g)):Fr w a (λg=>v.ownBlock=some g):=by
 refine j.trans k (λx hx e=>?_);rcases h with h|⟨q,h,a⟩
 .rw[<- h];exact e
 .rw[h]at e;simp only[af_]at e;omega
def dz(w:Aw)(B:Nat)(v:Ax)(b:BA)(e:Ak)(w':Aw):Prop:=∃v',e=.returned v'/\zG w' B v' b/\Fr w w' (λg=>v.ownBlock=some g)/\Own w v v'
def pV(w:Aw)(B:Nat)(v:Ax)(b:BA)(e:Ak)(w':Aw):Prop:=∃v',e=.returned v'/\zG w' B v' b/\Fr w w' (λg=>v.ownBlock=some g)
def xF(w:Aw)(B:Nat)(b:BA)(e:Ak)(w':Aw):Prop:=∃v',e=.returned v'/\zG w' B v' b/\Fr w w' (λg=>B<=g)
def zG.own{w:Aw}{B:Nat}{v:Ax}(h:zG w B v b)(e:v.ownBlock=some g):B<=g/\g<w.heap.size:=World.ownsRow.lt h g e
def dc(w:Aw)(B:Nat)(v:Ax)(T:BA)(q:Nat)(v0 v5:Ax)(W:Aw):Prop:=
 ∃(z f:Nat) (acc:BA),v5=.int .u64 (z:Int)/\z<18446744073709551616/\z<128 ^ (f+1)/\f<=q/\T=acc++bts (wF f z)/\zG W B v0 acc/\Fr w W (λg=>v.ownBlock=some g)/\Own w v v0
section
variable {w W w5:Aw} {B z f:Nat} {T acc:BA} {v v0 v5:Ax} {o:Obj} {x:Int}
def dc.more{f':Nat}(hz:128<=z)(j:z<18446744073709551616)(hf:z<128 ^ (f+1))(h:f=f'+1)(i:T=acc++bts (wF f z))(a:Fr w W (λg=>v.ownBlock=some g))(e:Own w v v0)(ho:w5.ownsRow B 5 1 v5 (acc.size+1) (Lib.strCells acc++[.int .u8 x]))(hx:x=((z % 128+128:Nat):Int))(hg:(W.alloc o).grownBy w5 v0.ownBlock)(hl:v5.ownBlock=v0.ownBlock\/v5.ownBlock=some (W.alloc o).heap.size):dc w B v T f' v5 (.int .u64 ((z / 128:Nat):Int)) w5:=by
 subst h hx;refine⟨z / 128,f',acc++bts [z % 128+128],rfl,M_,?_,l_,?_,?_,?_,?_⟩
 .rw[Nat.pow_succ]at hf;omega
 .rw[i,wF,n_ M_,bj_,<- rW];rfl
 .unfold zG;rw[ya,jh M_,ah_,yP];exact ho
 .exact e.fr a (((A_ W _).alloc o).gw hg (λk hk _=>hk))
 .exact e.trans hl (by have:=a.size;simp;omega)
def dc.last(hz:z<128)(i:T=acc++bts (wF f z))(a:Fr w W (λg=>v.ownBlock=some g))(h:Own w v v0)(ho:w5.ownsRow B 5 1 v5 (acc.size+1) (Lib.strCells acc++[.int .u8 x]))(hx:x=(z:Int))(hg:(W.alloc o).grownBy w5 v0.ownBlock)(hl:v5.ownBlock=v0.ownBlock\/v5.ownBlock=some (W.alloc o).heap.size):dz w B v T (.returned v5) w5:=by
 subst hx;refine⟨v5,rfl,?_,?_,?_⟩
 .have e:wF f z=[z]:=by cases f<;>simp[wF,hz]
  rw[i,e];unfold zG;rw[ya,jh M_,ah_,yP];exact ho
 .exact h.fr a (((A_ W _).alloc o).gw hg (λk hk _=>hk))
 .exact h.trans hl (by have:=a.size;simp;omega)
end
def oG{n:Int}(h0 : -9223372036854775808<=n)(h1:n<=9223372036854775807):kB n<18446744073709551616:=by
 unfold kB;split<;>omega
def cwmj1_{p:Prop}(h:p:=by
 (first|(have:=cc2;have hz':¬(z:Int)≥128:=M_;clear hz3)|(go_in));go_wp2_with (first
  |(at_builtin;go_must ((first|(have:=cc1;refine wpList_append_own_at _ rfl _ _ 94 rfl B 5 ti _ 1 1 wU hi1 hi2 hi3 hi4 rfl D_ _ b.size (Lib.strCells b) rfl ?hown _ 1 1 [.int .u8 1] rfl rfl (zK _ #[.int .u8 1] _ _ ?nn) ?one ?b1 ?b2 ?b3 ?_)|(have:=cc2;refine wpList_append_own_at _ rfl _ _ 94 rfl B 5 ti _ 1 1 wU hi1 hi2 hi3 hi4 rfl D_ _ acc.size (Lib.strCells acc) rfl ?hown _ 1 1 [U_ z] rfl rfl (zK _ #[U_ z] _ _ ?nn) ?one ?b1 ?b2 ?b3 ?_)|(refine wpList_append_own_at _ rfl _ _ 94 rfl B 5 ti _ 1 1 wU hi1 hi2 hi3 hi4 rfl D_ _ b.size (Lib.strCells b) rfl ?hown _ 1 1 [.int .u8 0] rfl rfl (zK _ #[.int .u8 0] _ _ ?nn) ?one ?b1 ?b2 ?b3 ?_)))
    case hown=>(first|(have:=cc2;exact World.ownsRow.alloc hbuf'.o _)|(exact World.ownsRow.alloc hb.o _))
    case nn=>simp
    case one=>simp[Value.oneCell']
    case b1=>unfold maxLen;omega
    case b2=>omega
    case b3=>simp;omega
    intro v5 w5 ho5 hg5 hn5 hl5))
 try go_ret
 rw[Q_.o];(first|(have:=cc1;exact fin.o 1 _ _ _ M_ ho5 hg5)|(have:=cc2;exact dc.last hz hT2'.o hF'.o hO.o ho5 rfl hg5 hl5)|(exact fin.o 0 _ _ _ M_ ho5 hg5))):p:=h
def mj{w:Aw}{B:Nat}{v:Ax}{n:Int}(h0 : -9223372036854775808<=n)(h1:n<=9223372036854775807)(hb:zG w B v b)(hB:B<=w.heap.size)(hs:b.size<=100000000):Calls prog 80 #[v,Z_ n] w (dz w B v (b++zH n)):=by
 refine hq_ λr Q_=>?_;have l:=@Wi;obtain⟨T,a⟩:=x_ (b++zH n);obtain⟨j,i⟩:=x_ (kB n);have start:H_ (dc w B v T 10 v (.int .u64 (j:Int)) w):=zy ⟨j,10,b,rfl,o1_ (oG h0 h1),o1_ (oG h0 h1),l_,by rw[<- a,<- i];rfl,hb,A_ _ _,.inl rfl⟩;rw[a]at Q_;have j:T.size<=100000011:=by have:=xo n;rw[<- a,ah_];omega
 replace a:=zy a;replace hb:=zy hb;obtain⟨ti,hi1,hi2,hi3,hi4⟩:=info_parts oQ;go_in;go_wp2_with (go_at_call 129;apply(l h0 h1).mono;rintro e w1 ⟨rfl,h⟩;replace h:=h.symm;subst h;rw[i]);go_loopg [0,5] 10 (λq v0 v5 W=>dc w B v T q v0 v5 W);case atStart=>exact start
 case round=>
  obtain⟨z,f,acc,rfl,p,hz3,hf,h,i,a,hO⟩:=hrel;have j:acc.size<=100000011:=by
   have:=congrArg ByteArray.size h;rw[ah_]at this;omega
  have j:B<=wr.heap.size:=by have:=a.size;omega
  have hF':=zy a;replace hO:=zy hO;have hbuf':=zy i;have hT2':=zy h;by_cases hz:z<128
  .have cc2:=Nat;exact cwmj1_
  .have hz':(z:Int)≥128:=M_;obtain⟨f',k⟩:∃f',f=f'+1:=by
    rcases f with _|f'
    .simp at hz3;omega
    .exact⟨f',rfl⟩
   have a:=zy hz3;go_wp2_with (first
    |(at_builtin;go_must (refine wpList_append_own_at _ rfl _ _ 94 rfl B 5 ti _ 1 1 wU hi1 hi2 hi3 hi4 rfl D_ _ acc.size (Lib.strCells acc) rfl ?hown _ 1 1 [.int .u8 (bits .or .u8 ((z:Int) % 256) 128)] rfl rfl (zK _ #[.int .u8 (bits .or .u8 ((z:Int) % 256) 128)] _ _ ?nn) ?one ?b1 ?b2 ?b3 ?_)
      case hown=>exact World.ownsRow.alloc hbuf' _
      case nn=>simp
      case one=>simp[Value.oneCell']
      case b1=>unfold maxLen;omega
      case b2=>omega
      case b3=>simp;omega
      intro v5 w5 ho5 hg5 hn5 hl5))
   go_roundg f';case measure=>omega
   case rel=>exact dc.more M_ p a k hT2' hF' hO ho5 MM hg5 hl5
def Vw{w:Aw}{B:Nat}{v:Ax}(j:tx.size<=4000)(hb:zG w B v b)(hB:B<=w.heap.size)(hs:b.size<=100000000):Calls prog 81 #[v,.string tx] w (pV w B v (b++(zH tx.size++tx))):=by
 refine hq_ λj l=>?_;have j:=zy (mj (n:=(tx.size:Int)) M_ M_ hb hB hs);have C:=xo tx.size;obtain⟨ti,q,r,s,y⟩:=info_parts oQ;replace hb:=zy hb;go_in;go_wp2_with (first
  |(go_at_call 80;apply j.o.mono;rintro e w1 ⟨j,rfl,j,h,i⟩;have C:=h.size;revert j h i;refine h_ λj h i=>?_)
  |(at_builtin;go_must (refine Lib.wpList_append_own_string _ rfl _ _ 94 9 rfl B 5 ti wU wM q r s y _ (b++zH tx.size).size (Lib.strCells (b++zH tx.size)) rfl ?hown tx rfl ?b1 ?b2 ?b3 ?_)
    case hown=>exact j
    case b1=>rw[ah_];unfold maxLen;omega
    case b2=>rw[ah_];omega
    case b3=>omega
    intro v5 w5 A p j))
 try go_ret
 rw[l.o];refine⟨v5,rfl,?_,i.o.fr h ((A_ w1 _).gw p (λk hk _=>hk))⟩;rw[<- bj_];unfold zG;rw[ya (b++zH tx.size),ah_ (a:=b++zH tx.size)];exact A
def Gq{w:Aw}{B:Nat}{t:Aq}{v:Ax}(hb:zG w B v b)(hB:B<=w.heap.size)(hs:b.size<=100000000):Calls prog 79 #[v,.bool t] w (pV w B v (b++bts [if t=true then 1 else 0])):=by
 refine hq_ λa Q_=>?_;obtain⟨ti,hi1,hi2,hi3,hi4⟩:=info_parts oQ;have fin:∀(c:Nat) (w5:World) (v5:Value) (o:Obj),c<256->w5.ownsRow B 5 1 v5 (b.size+1) (Lib.strCells b++[U_ c])->(w.alloc o).grownBy w5 v.ownBlock->pV w B v (b++bts [c]) (.returned v5) w5:=by
  intro c w5 v5 o hc ho hg;refine⟨v5,rfl,?_,((A_ w _).alloc o).gw hg (λk hk _=>hk)⟩;unfold zG;rw[ya,jh hc,ah_,yP];exact ho
 replace fin:=zy fin;replace hb:=zy hb;cases t
 .exact cwmj1_
 .have cc1:=Nat;exact cwmj1_
def bh:∀{ds:List DT},(∀(i:Nat) (d:DT),ds[i]?=some d->okD d)->kx ds
 | [],_=>by simp[kx]
 |d::r,h=>by
  unfold kx;exact⟨h 0 d rfl,bh (λi e he=>h (i+1) e he)⟩
def xW.ok{w:Aw}{P:Az}{d:DT}{v:Ax}(h:xW w P d v):okD d:=by
 induction h with
 |flat h=>
  cases h with
  |nothing=>simp[okD,kx,dO];exact am_ _
  |truth b=>cases b<;>simp[okD,kx,dO]<;>exact am_ _
  |num c n hc h0 h1=>simp only[okD,kx,dO];refine⟨⟨h0,h1,M_⟩,λe=>M_,by show(0:Nat)<=_;omega,by simp,λe=>M_,trivial⟩
  |text tx h=>simp[okD,kx,dO,h]
  |bytes tx h=>simp[okD,kx,dO,h]
  |sym n l h=>simp only[okD,kx,dO];refine⟨⟨M_,M_,by simp⟩,λe=>M_,by show(0:Nat)<=_;omega,by simp,λe=>M_,trivial⟩
 |branch n h hd ih=>simp only[okD,kx,dO];refine⟨⟨M_,M_,by simp⟩,λe=>M_,by show(0:Nat)<=_;omega,by simp,λe=>M_,ih,trivial⟩
 |row Y hc ho hP hd ih=>simp only[okD,dO];refine⟨⟨M_,M_,M_⟩,λe=>M_,by show(0:Nat)<=_;omega,by simp,λe=>M_,bh ih⟩
 |map Y hl hk ho hP hd ih=>simp only[okD,dO];refine⟨⟨M_,M_,by simp⟩,λe=>M_,by show(0:Nat)<=_;omega,hk,λ_=>hl,bh ih⟩
def Xh(m:Nat):Prop:=∀(d:DT),ndT d<=m->∀(w:World) (P:Nat->Prop) (B:Nat) (v u:Value) (b:BA),xW w P d v->(∀g,P g->g<B)->B<=w.heap.size->zG w B u b->b.size+8022*ndT d<=90000000->
 Calls prog 46 #[u,v] w (xF w B (b++byT d))
def Gk(D:Xh m){ds:Ae}{w:Aw}{P:Az}{B:Nat}(hm:za ds<=m)(hP:∀g,P g->g<B)(hB:B<=w.heap.size)(hu:zG w B u b)(hs:b.size+8022*za ds<=90000000)(ho:w.ownsRow 0 52 1 (.slice la ds.length lc) ds.length ((List.range ds.length).flatMap λi=>[Y i]))(hl:∀g,(Value.slice la ds.length lc).ownBlock=some g->P g)(hd:∀i d,ds[i]?=some d->xW w P d (Y i)):Calls prog 82 #[u,.slice la ds.length lc] w (xF w B (b++yS false [] ds)):=by
 refine hq_ λr y=>?_;have l:kx ds:=bh (λi d e=>(hd i d e).ok);have start:H_ (∃q:Nat,Value.int .i64 0=I_ q/\q<=ds.length/\ds.length+1-q<=ds.length+1/\zG w B u (b++yS false [] (ds.take q))/\Fr w w (λg=>B<=g)):=zy ⟨0,rfl,am_ _,M_,by rw[List.take_zero];simp only[yS];rw[wn];exact hu,A_ _ _⟩;have r:=xR ds;replace ho:=zy ho;replace hd:=zy hd;replace hl:=zy hl;replace hP:=zy hP;replace l:=zy l;replace hu:=zy hu;go_in;go_wp2;go_loopg [0,6,9] (ds.length+1) (λm v0 r v W=>∃q:Nat,v=I_ q/\q<=ds.length/\ds.length+1-q<=m/\zG W B v0 (b++yS false [] (ds.take q))/\Fr w W (λg=>B<=g));case atStart=>exact start
 case round=>
  obtain⟨q,rfl,r,r,j,a⟩:=hrel;by_cases p:q<ds.length
  .have A:(q:Int)<(ds.length:Int):=M_;have k:ds[q]?=some ds[q]:=aj_ p;generalize ds[q]=d at k;obtain⟨E,F⟩:=xJ k;have C:=fe false [] (ds.take q) x6_ (uJ l q);have r:yS false [] (ds.take (q+1))=yS false [] (ds.take q)++byT d:=by
    rw[uO false ds [] q d k]
    congr 1
    try simp only[itB,a1_,if_false,jH]
   obtain⟨g,l,l⟩:=zg ho M_;cases l;have hv:=hd.o q d k;obtain⟨T,x,hx⟩:=hv.iface;rw[hx]at hv;have l:∀g,P g->¬B<=g:=λg h=>by have:=hP.o g h;omega
   have s:wr.cell? ⟨g,q,none⟩=some (.iface T x):=by
    rw[<- hx];exact qQ (zj ho a (λg e=>l g (hl.o g e))) p
   have s:=zy (D d M_ wr P B _ _ _ (hv.fr a l) hP (o1_ a.size) j xw_);rw[bj_,<- r]at s;have D:q<=90000000:=M_;replace r:=zy r;replace a:=zy a;replace k:=zy k;replace hv:=zy hv;replace j:=zy j;replace l:=zy l;go_wp2_with (go_at_call 46;apply s.o.mono;rintro e k ⟨k,rfl,k,l⟩;replace l:=zy l;replace k:=zy k);go_roundg (ds.length+1-(q+1));case measure=>omega
   case rel=>exact⟨q+1,by simp,p,l_,k,a.o.trans l u_⟩
  .have A:¬((q:Int)<(ds.length:Int)):=M_;rw[bc_ M_]at j;replace a:=zy a;replace j:=zy j;go_wp2;try go_ret
   rw[y.o];exact⟨_,rfl,j,a⟩
def zG.fr{w w':Aw}{B:Nat}{v:Ax}{S:Az}(h:zG w B v b)(hf:Fr w w' S)(a:∀g,v.ownBlock=some g->¬S g):zG w' B v b:=zj h hf a
def Vr(s:Xh m)(hn:n<=4000){d:DT}{v:Ax}{w:Aw}{P:Az}{B:Nat}(hm:ndT d<=m)(hv:xW w P d v)(hP:∀g,P g->g<B)(hB:B<=w.heap.size)(hu:zG w B u b)(hs:b.size+8022*(1+ndT d)<=90000000):Calls prog 46 #[u,.iface 150 (.agg #[I_ n,v])] w (xF w B (b++byT (.mk 40 (n:Int) noB [] [d]))):=by
 refine hq_ λE A=>?_;obtain⟨T,x,rfl⟩:=hv.iface;have q:byT (.mk 40 (n:Int) noB [] [d])=zH n++byT d:=by
  have e:byT (.mk 40 (n:Int) noB [] [d])=zH n++yS false [] [d]:=by
   conv=>lhs;unfold byT
   rw[n_ D_,n_ D_,n_ D_,n_ D_,i_ rfl];rfl
  rw[e]
  congr 1
  simp only[yS,wn];exact jH _
 have E:=xo n;have r:∀g,P g->¬B<=g:=λg h=>by have:=hP g h;omega
 have p:∀W,Fr (w.alloc (.cells #[I_ n,.iface T x] 150)) W N_->Calls prog 80 #[u,I_ n] W (λe w'=>∃a,e=.returned a/\H_ (zG w' B a (b++zH n)/\Fr w w' (λg=>B<=g))/\w'.cell? ⟨w.heap.size,1,none⟩=some (.iface T x)):=by
  intro W k;have hz:=k.size;simp at hz;have E:zG W B u b:=(zG.fr (zG.fr hu ((A_ w N_).alloc _) u_) k u_);apply(mj M_ M_ E M_ M_).mono;rintro e w1 ⟨a,rfl,hb1,j,E⟩;refine⟨a,rfl,zy ⟨hb1,?_⟩,?_⟩
  .refine((((A_ w _).alloc _).trans (T:=λ_=>False) k v_).trans j (λx _ e=>?_));exact(hu.own e).1
  .have h1:=B_ w #[I_ n,.iface T x] 150;have i:=j.bl (k.bl h1 (λf=>f)) (λe=>o1_ ((hu.own e).2));rw[i.cell 1];rfl
 have l:∀W a,zG W B a (b++zH n)->Fr w W (λg=>B<=g)->Calls prog 46 #[a,.iface T x] W (xF w B (b++byT (.mk 40 (n:Int) noB [] [d]))):=by
  intro W a hb1 j;have hz:=j.size;apply(s d hm W P B _ a _ (hv.fr j r) hP M_ hb1 xw_).mono;rintro e F ⟨y,rfl,D,C⟩;refine⟨y,rfl,?_,j.trans C u_⟩;rw[q,<- bj_];exact D
 replace p:=zy p;replace l:=zy l
 go_in;go_wp2;go_region_with (first
  |(go_at_call 80;apply(p.o _ xr_).mono;rintro e w1 ⟨a,rfl,hb1,c1⟩)
  |(go_at_call 46;apply(l.o _ _ xc_ y2_).mono;rintro e F i;replace i:=zy i;obtain⟨y,rfl,_⟩:=i.o))
 all_goals (try go_wp2)
 all_goals (try go_ret)
 all_goals (rw[A.o];exact i)
def UO(ih:Xh m){ds:Ae}{w:Aw}{P:Az}{B:Nat}(hm:za ds<=m)(hP:∀g,P g->g<B)(hB:B<=w.heap.size)(hu:zG w B u b)(hs:b.size+8022*(1+za ds)<=90000000)(hk:∀k∈ks,k.size<=4000)(ho:w.ownsRow 0 201 2 (.slice la ds.length lc) ds.length ((List.range ds.length).flatMap λi=>[.string (ks.getD i noB),Y i]))(hl:∀g,(Value.slice la ds.length lc).ownBlock=some g->P g)(hd:∀i d,ds[i]?=some d->xW w P d (Y i)):Calls prog 83 #[u,.slice la ds.length lc] w (xF w B (b++(zH ds.length++yS true ks ds))):=by
 refine hq_ λa0 N=>?_;have M:kx ds:=bh (λi d e=>(hd i d e).ok);have a2:=xR ds;have a3:=xo ds.length;have E:=zy (mj (n:=(ds.length:Int)) M_ M_ hu hB M_);obtain⟨b1,hb1⟩:=x_ (b++zH ds.length);rw[hb1]at E;have a1:b1.size<=b.size+11:=by rw[<- hb1,ah_];omega
 have C:b++(zH ds.length++yS true ks ds)=b1++yS true ks ds:=by rw[<- hb1,bj_]
 rw[C]at N;have H:=zy (λg e=>(zG.own hu (g:=g) e).1);have start:H_ (∀(a:Value) (W:World),zG W B a b1->Fr w W (λg=>u.ownBlock=some g)->∃q:Nat,Value.int .i64 0=I_ q/\q<=ds.length/\ds.length+1-q<=ds.length+1/\zG W B a (b1++yS true ks (ds.take q))/\Fr w W (λg=>B<=g)):=zy λa W h1 D=>⟨0,rfl,am_ _,M_,by rw[List.take_zero];simp only[yS];rw[wn];exact h1,D.mono (λg _ e=>H.o g e)⟩;replace ho:=zy ho;replace hd:=zy hd;replace hl:=zy hl;replace hP:=zy hP;replace M:=zy M;replace hu:=zy hu;replace hk:=zy hk;go_in;go_wp2_with (go_at_call 80;apply E.o.mono;rintro e w1 ⟨a,rfl,C,j,H⟩;revert C j H;refine h_ λC j H=>?_);go_loopg [0,6,13] (ds.length+1) (λm v0 v6 v W=>∃q:Nat,v=I_ q/\q<=ds.length/\ds.length+1-q<=m/\zG W B v0 (b1++yS true ks (ds.take q))/\Fr w W (λg=>B<=g));case atStart=>exact start.o _ _ C j
 case round=>
  obtain⟨q,rfl,C,C,l,p⟩:=hrel;by_cases L:q<ds.length
  .have X:(q:Int)<(ds.length:Int):=M_;have s:ds[q]?=some ds[q]:=aj_ L;generalize ds[q]=d at s;obtain⟨t1,t2⟩:=xJ s;have Z:=fe true ks (ds.take q) hk (uJ M q);obtain⟨K,G⟩:=x_ (ks.getD q noB);have O:yS true ks (ds.take (q+1))=yS true ks (ds.take q)++((zH K.size++K)++byT d):=by
    rw[uO true ds ks q d s,G];rfl
   have C:K.size<=4000:=by
    rw[<- G,as_];cases E:ks[q]? with
    |none=>exact am_ _
    |some y=>exact hk.o y (ai_ E)
   obtain⟨g,E,E⟩:=zg ho M_;cases E;have hv:=hd.o q d s;obtain⟨T,x,hx⟩:=hv.iface;rw[hx]at hv;have J:∀g,P g->¬B<=g:=λg h=>by have:=hP.o g h;omega
   obtain⟨E,H⟩:=bQ (K:=λi=>ks.getD i noB) (zj ho p (λg e=>J g (hl.o g e))) L;rw[hx]at H;simp only[G]at E;have E:=p.size;have I:∀W,Fr (wr.alloc (.cells #[.string K,.iface T x] 201)) W N_->Calls prog 81 #[u0,.string K] W (λe w'=>∃a,e=.returned a/\H_ (zG w' B a ((b1++yS true ks (ds.take q))++(zH K.size++K))/\Fr w w' (λg=>B<=g))/\w'.cell? ⟨wr.heap.size,1,none⟩=some (.iface T x)):=by
    intro W A;have hz:=A.size;simp at hz;have E:zG W B u0 (b1++yS true ks (ds.take q)):=(zG.fr (zG.fr l ((A_ wr N_).alloc _) u_) A u_);apply(Vw C E M_ xw_).mono;rintro e w1 ⟨a,rfl,hb1,j⟩;refine⟨a,rfl,zy ⟨hb1,?_⟩,?_⟩
    .refine p.trans ((((A_ wr _).alloc _).trans (T:=λ_=>False) A v_).trans j (λx _ e=>?_)) u_;exact(l.own e).1
    .have h1:=B_ wr #[.string K,.iface T x] 201;have D:=j.bl (A.bl h1 (λf=>f)) (λe=>o1_ ((l.own e).2));rw[D.cell 1];rfl
   have F:∀W a,zG W B a ((b1++yS true ks (ds.take q))++(zH K.size++K))->Fr w W (λg=>B<=g)->Calls prog 46 #[a,.iface T x] W (xF w B (b1++yS true ks (ds.take (q+1)))):=by
    intro W a hb1 j;have hz:=j.size;have A:=xo K.size;apply(ih d M_ W P B _ a _ (hv.fr j J) hP M_ hb1 (by simp only[ah_];omega)).mono;rintro e U ⟨R,rfl,r,V⟩;refine⟨R,rfl,?_,j.trans V u_⟩;rw[O];simp only[bj_]at r⊢;exact r
   have j:q<=90000000:=M_;replace I:=zy I;replace F:=zy F;replace p:=zy p;replace s:=zy s;replace hv:=zy hv;replace l:=zy l;go_wp2;go_region_with (first
    |(go_at_call 81;apply(I.o _ xr_).mono;rintro e w1 ⟨a,rfl,hb1,c1⟩)
    |(go_at_call 46;apply(F.o _ _ xc_ y2_).mono;rintro e U ⟨R,rfl,r,a⟩;replace r:=zy r;replace a:=zy a))
   all_goals
    go_wp2;go_roundg (ds.length+1-(q+1));case measure=>omega
    case rel=>exact⟨q+1,by simp,L,l_,by first|exact r.o|exact zG.fr r (A_ U N_).drew u_,by first|exact a.o|exact a.o.drew⟩
  .have X:¬((q:Int)<(ds.length:Int)):=M_;rw[bc_ M_]at l;replace p:=zy p;replace l:=zy l;go_wp2;try go_ret
   rw[N.o];exact⟨_,rfl,l,p⟩
def pV.all{w w':Aw}{B:Nat}{b0:BA}{e:Ak}(hu:zG w B u b0)(h:pV w B u b e w'):xF w B b e w':=by
 obtain⟨v,rfl,h1,a⟩:=h;exact⟨v,rfl,h1,a.mono (λg _ e=>(hu.own e).1)⟩
def dz.all{w w':Aw}{B:Nat}{b0:BA}{e:Ak}(hu:zG w B u b0)(h:dz w B u b e w'):xF w B b e w':=by
 obtain⟨v,rfl,h1,a,_⟩:=h;exact⟨v,rfl,h1,a.mono (λg _ e=>(hu.own e).1)⟩
def Zl{w:Aw}{B:Nat}(_hB:B<=w.heap.size)(hu:zG w B u b)(_hs:b.size+8022<=90000000):Calls prog 46 #[u,.iface 136 (.agg #[])] w (xF w B (b++byT (.mk 110 0 noB [] []))):=by
 refine hq_ λa a=>?_;have e:byT (.mk 110 0 noB [] [])=noB:=by unfold byT;rw[n_ D_,n_ D_,n_ D_,n_ D_,n_ D_,n_ D_,jH];simp only[yS]
 replace hu:=zy hu;go_in;go_wp2;try go_ret
 rw[a.o,e,wn];exact⟨_,rfl,hu,A_ _ _⟩
def QZ{w:Aw}{B:Nat}{t:Aq}(hB:B<=w.heap.size)(hu:zG w B u b)(hs:b.size+8022<=90000000):Calls prog 46 #[u,.iface 137 (.bool t)] w (xF w B (b++byT (.mk 116 (if t=true then 1 else 0) noB [] []))):=by
 refine hq_ λh a=>?_;have i:byT (.mk 116 (if t=true then 1 else 0) noB [] [])=bts [if t=true then 1 else 0]:=by unfold byT;rw[i_ rfl];cases t<;>rfl
 have h:=zy (Gq (t:=t) hu hB M_);replace hu:=zy hu;go_in;go_wp2_with (go_at_call 79;apply h.o.mono;rintro e w1 h1;replace h1:=zy h1;obtain⟨h,rfl,_⟩:=h1.o);try go_ret
 rw[a.o,i];exact h1.o.all hu
def BJ{w:Aw}{B:Nat}{n:Int}(hc:c=105\/c=108)(h0 : -9223372036854775808<=n)(h1:n<=9223372036854775807)(hB:B<=w.heap.size)(hu:zG w B u b)(hs:b.size+8022<=90000000):Calls prog 46 #[u,.iface 139 (Z_ n)] w (xF w B (b++byT (.mk c n noB [] []))):=by
 refine hq_ λh a=>?_;have i:byT (.mk c n noB [] [])=zH n:=by unfold byT;rw[n_ M_,i_ M_]
 have h:=zy (mj h0 h1 hu hB M_);replace hu:=zy hu;go_in;go_wp2_with (go_at_call 80;apply h.o.mono;rintro e w1 h1;replace h1:=zy h1;obtain⟨h,rfl,_⟩:=h1.o);try go_ret
 rw[a.o,i];exact h1.o.all hu
def GM{w:Aw}{B:Nat}(j:tx.size<=4000)(hB:B<=w.heap.size)(hu:zG w B u b)(hs:b.size+8022<=90000000):Calls prog 46 #[u,.iface 141 (.string tx)] w (xF w B (b++byT (.mk 115 0 tx [] []))):=by
 refine hq_ λh a=>?_;have i:byT (.mk 115 0 tx [] [])=zH tx.size++tx:=by unfold byT;rw[n_ D_,n_ D_,i_ rfl]
 have h:=zy (Vw j hu hB M_);replace hu:=zy hu;go_in;go_wp2_with (go_at_call 81;apply h.o.mono;rintro e w1 h1;replace h1:=zy h1;obtain⟨h,rfl,_⟩:=h1.o);try go_ret
 rw[a.o,i];exact h1.o.all hu
def BV{w:Aw}{B:Nat}{l:Nat}(hn:n<=4000)(hB:B<=w.heap.size)(hu:zG w B u b)(hs:b.size+8022<=90000000):Calls prog 46 #[u,.iface 154 (.agg #[U_ l,I_ n])] w (xF w B (b++byT (.mk 101 (n:Int) noB [] []))):=by
 refine hq_ λi h=>?_;have j:byT (.mk 101 (n:Int) noB [] [])=zH n:=by unfold byT;rw[n_ D_,i_ D_]
 have A:Fr w (w.alloc (.cells #[U_ l,I_ n] 154)) N_:=(A_ w _).alloc _;have a:zG (w.alloc (.cells #[U_ l,I_ n] 154)) B u b:=hu.fr A u_;have i:=zy (mj (n:=(n:Int)) M_ M_ a (o1_ A.size) M_);revert hu A a;refine h_ λhu A a=>?_;go_in;go_wp2_with (go_at_call 80;apply i.o.mono;rintro e w1 h1;replace h1:=zy h1;obtain⟨i,rfl,_⟩:=h1.o);try go_ret
 rw[h.o,j];obtain⟨k,h,i,j⟩:=h1.o.all a;exact⟨k,h,i,(A.o.mono v_).trans j u_⟩
def GE:Tryz.prog.underlying 155=some .string:=K_
def QY{w:Aw}{B:Nat}(a:tx.size<=4000)(hB:B<=w.heap.size)(hu:zG w B u b)(hs:b.size+8022<=90000000):Calls prog 46 #[u,.iface 155 (.string tx)] w (xF w B (b++byT (.mk 102 0 tx [] []))):=by
 refine hq_ λa a=>?_;have h:byT (.mk 102 0 tx [] [])=tx:=by unfold byT;rw[n_ D_,n_ D_,n_ D_,i_ rfl]
 obtain⟨ti,j,l,p,q⟩:=info_parts oQ;replace hu:=zy hu;go_in
 go_wp2_with (at_builtin;go_must (refine Lib.wpList_append_own_string _ rfl _ _ 94 155 rfl B 5 ti wU GE j l p q _ b.size (Lib.strCells b) rfl ?hown tx rfl ?b1 ?b2 ?b3 ?_)
              case hown=>exact hu
              case b1=>unfold maxLen;omega
              case b2=>omega
              case b3=>omega
              intro v5 w5 r i j)
 try go_ret
 rw[a.o,h];refine⟨v5,rfl,?_,((A_ w _).gw i (λk hk _=>hk)).mono (λg _ e=>(hu.o.own e).1)⟩;unfold zG;rw[ya,ah_];exact r
def BQ(a:Xh m){ds:Ae}{w:Aw}{P:Az}{B:Nat}(hm:za ds<=m)(hP:∀g,P g->g<B)(hB:B<=w.heap.size)(hu:zG w B u b)(hs:b.size+8022*(1+za ds)<=90000000)(hk:∀k∈ks,k.size<=4000)(ho:w.ownsRow 0 201 2 (.slice la ds.length lc) ds.length ((List.range ds.length).flatMap λi=>[.string (ks.getD i noB),Y i]))(hl:∀g,(Value.slice la ds.length lc).ownBlock=some g->P g)(hd:∀i d,ds[i]?=some d->xW w P d (Y i)):Calls prog 46 #[u,.iface 147 (.slice la ds.length lc)] w (xF w B (b++byT (.mk 123 0 noB ks ds))):=by
 refine hq_ λj h=>?_;have l:byT (.mk 123 0 noB ks ds)=zH ds.length++yS true ks ds:=by
  conv=>lhs;unfold byT
  rw[n_ D_,n_ D_,n_ D_,n_ D_,n_ D_,i_ D_];try rfl
 have j:=xR ds;have j:=zy (UO a hm hP hB hu hs hk ho hl hd);go_in;go_wp2_with (go_at_call 83;apply j.o.mono;rintro e w1 h1;replace h1:=zy h1;obtain⟨a,rfl,_⟩:=h1.o);try go_ret
 rw[h.o,l];exact h1
def GC(a:Xh m){ds:Ae}{w:Aw}{P:Az}{B:Nat}(hm:za ds<=m)(hP:∀g,P g->g<B)(hB:B<=w.heap.size)(hu:zG w B u b)(hs:b.size+8022*(1+za ds)<=90000000)(ho:w.ownsRow 0 52 1 (.slice la ds.length lc) ds.length ((List.range ds.length).flatMap λi=>[Y i]))(hl:∀g,(Value.slice la ds.length lc).ownBlock=some g->P g)(hd:∀i d,ds[i]?=some d->xW w P d (Y i)):Calls prog 46 #[u,.iface 152 (.slice la ds.length lc)] w (xF w B (b++byT (.mk 114 0 noB [] ds))):=by
 refine hq_ λj h=>?_;have k:byT (.mk 114 0 noB [] ds)=yS false [] ds:=by
  conv=>lhs;unfold byT
  rw[n_ D_,n_ D_,n_ D_,n_ D_,n_ D_,n_ D_,jH];try rfl
 have j:=xR ds;have j:=zy (Gk a hm hP hB hu M_ ho hl hd);go_in;go_wp2_with (go_at_call 82;apply j.o.mono;rintro e w1 h1;replace h1:=zy h1;obtain⟨a,rfl,_⟩:=h1.o);try go_ret
 rw[h.o,k];exact h1
def GL(r:Xh m){ds:Ae}{w:Aw}{P:Az}{B:Nat}(hm:za ds<=m)(hP:∀g,P g->g<B)(hB:B<=w.heap.size)(hu:zG w B u b)(hs:b.size+8022*(1+za ds)<=90000000)(ho:w.ownsRow 0 52 1 (.slice la ds.length lc) ds.length ((List.range ds.length).flatMap λi=>[Y i]))(hl:∀g,(Value.slice la ds.length lc).ownBlock=some g->P g)(hd:∀i d,ds[i]?=some d->xW w P d (Y i)):Calls prog 46 #[u,.iface 144 (.slice la ds.length lc)] w (xF w B (b++byT (.mk 91 0 noB [] ds))):=by
 refine hq_ λp y=>?_;have E:byT (.mk 91 0 noB [] ds)=zH ds.length++yS false [] ds:=by
  conv=>lhs;unfold byT
  rw[n_ D_,n_ D_,n_ D_,n_ D_,n_ D_,i_ D_];try rfl
 have p:=xR ds;have p:=xo ds.length;have D:=zy (mj (n:=(ds.length:Int)) M_ M_ hu hB M_);have k:∀W j,zG W B j (b++zH ds.length)->Fr w W (λg=>u.ownBlock=some g)->Calls prog 82 #[j,.slice la ds.length lc] W (xF w B (b++byT (.mk 91 0 noB [] ds))):=by
  intro W j h1 p;have l:=p.mono (T:=λg=>B<=g) (λg _ e=>(hu.own e).1);have q:∀g,P g->¬B<=g:=λg h=>by have:=hP g h;omega
  apply(Gk r hm hP (o1_ p.size) h1 xw_ (zj ho l (λg e=>q g (hl g e))) hl (λi d e=>(hd i d e).fr l q)).mono;rintro e F ⟨s,rfl,A,C⟩;refine⟨s,rfl,?_,l.trans C u_⟩;rw[E,<- bj_];exact A
 replace k:=zy k;go_in;go_wp2_with (first
  |(go_at_call 80;apply D.o.mono;rintro e w1 ⟨j,rfl,h1,j,l⟩;revert h1 j l;refine h_ λh1 j l=>?_)
  |(go_at_call 82;apply(k.o _ _ h1 j).mono;rintro e F a;replace a:=zy a;obtain⟨s,rfl,_⟩:=a.o))
 try go_ret
 rw[y.o];exact a
def BK:∀m,Xh m:=by
 intro m;induction m with
 |zero=>intro d h;obtain⟨_,_,_,_,_⟩:=d;unfold ndT at h;omega
 |succ m ih=>
  intro d hm w P B v u b hv hP hB hu hs;cases hv with
  |flat h=>
   have a:1<=ndT d:=z4_
   cases h with
   |nothing=>exact Zl hB hu M_
   |truth b=>exact QZ hB hu M_
   |num c n hc h0 h1=>exact BJ hc h0 h1 hB hu M_
   |text tx h=>exact GM h hB hu M_
   |bytes tx h=>exact QY h hB hu M_
   |sym n l h=>exact BV h hB hu M_
  |branch n h hd=>
   unfold ndT at hm hs;simp only[za,bp_]at hm hs;exact Vr ih h M_ hd hP hB hu hs
  |row Y hc ho hl hd=>
   unfold ndT at hm hs;obtain⟨la,lc,rfl⟩:=zw ho;rcases hc with⟨rfl,rfl⟩|⟨rfl,rfl⟩
   .exact GL ih M_ hP hB hu hs ho hl hd
   .exact GC ih M_ hP hB hu hs ho hl hd
  |map Y hl hk ho hl2 hd=>
   unfold ndT at hm hs;obtain⟨la,lc,rfl⟩:=zw ho;exact BQ ih M_ hP hB hu hs hk ho hl2 hd
def oS{w:Aw}{B:Nat}{v:Ax}(h:zG w B v b):(convert 94 9 v).run prog w=.ok (.string b) w:=by
 obtain⟨xs,a⟩:∃xs:List Int,xs=b.data.toList.map λx=>((x.toNat:Nat):Int):=⟨_,rfl⟩;have hb:strOfNums xs=b:=by
  apply b2_;unfold strOfNums;subst a;apply Array.toList_inj.1;rw[List.map_map];show b.data.toList.map _=_;conv=>rhs;rw[<- List.map_id b.data.toList]
  apply List.map_congr_left;intro x _;show UInt8.ofNat ((x.toNat:Int).toNat)=x;rw[bt_,UInt8.ofNat_toNat]
 have hl:xs.length=b.size:=by subst a;rw[bu_];rfl
 have h0:=h;rcases h.2 with⟨rfl,e⟩|⟨g,j,k,rfl,_⟩
 .have:=run_convert_bytes_nil (P:=prog) w 94 5 underlying94 underlying5 0 0 9 underlying9;have hz:b.data.size=0:=e;have he:b=ByteArray.empty:=b2_ (Array.eq_empty_of_size_eq_zero hz);rw[he];exact this
 .have:=run_convert_bytes_arg (P:=prog) w 94 5 underlying94 underlying5 g 0 b.size j xs hl (λi hi=>by
   rw[be_]
   refine zr h0 rfl ?_
   unfold Lib.strCells
   subst a
   rw[as_,ax_,ax_,aj_ (show i<b.data.toList.length from hi)]
   rfl) 9 underlying9
  rw[hb]at this;exact this
def Vl{d:DT}{w:Aw}{P:Az}{v:Ax}(hv:xW w P d v)(hs:8022*ndT d<=90000000):Calls prog 26 #[v] w λe w'=>e=.returned (.string (byT d))/\Fr w w' N_:=by
 refine hq_ λi j=>?_;obtain⟨T,x,rfl⟩:=hv.iface;have i:=zy (BK (ndT d) d l_ w (λg=>P g/\g<w.heap.size) w.heap.size _ (L_) noB (hv.mono (λg h1 k=>⟨k,h1⟩)) (λg h=>h.2) l_ (World.ownsRow_nil _ _ _ _) (by show 0+_<=_;omega));rw[jH]at i;go_in;go_wp2_with (go_at_call 46;apply i.o.mono;rintro e w1 ⟨i,rfl,h1,a⟩;have i:=oS h1;replace a:=zy a;replace h1:=zy h1);try go_ret
 rw[j.o];exact⟨rfl,a.o.mono (λg hg e=>M_)⟩
inductive DaV (env:Au) (w:Aw) (P:Az):DT->PT->Value->Prop
 |flat {d:DT} {t:PT} {v:Value} (h:qx d v) (hs:∀n l:Nat,v=.iface 154 (.agg #[U_ l,I_ n])->fU env t n=l/\l<256):DaV env w P d t v
 |branch (n:Nat) (h:n<=4000) {d:DT} {t:PT} {v:Value} (hd:DaV env w P d (yg env t n 0) v):DaV env w P (.mk 40 (n:Int) noB [] [d]) t (.iface 150 (.agg #[I_ n,v]))
 |row {c:Nat} {T:TypeId} {ds:List DT} {t:PT} {lv:Value} (Y:Nat->Value) (hc:(c=91/\T=144)\/(c=114/\T=152)) (ho:w.ownsRow 0 52 1 lv ds.length ((List.range ds.length).flatMap λi=>[Y i])) (hP:∀g,lv.ownBlock=some g->P g)
  (hd:∀i d,ds[i]?=some d->DaV env w P d (yg env t 0 i) (Y i)):DaV env w P (.mk c 0 noB [] ds) t (.iface T lv)
 |map {ks:List BA} {ds:List DT} {t:PT} {lv:Value} (Y:Nat->Value) (hl:ks.length=ds.length) (hk:∀k∈ks,k.size<=4000) (ho:w.ownsRow 0 201 2 lv ds.length ((List.range ds.length).flatMap λi=>[.string (ks.getD i noB),Y i])) (hP:∀g,lv.ownBlock=some g->P g)
  (hd:∀i d,ds[i]?=some d->DaV env w P d (yg env t 0 i) (Y i)):DaV env w P (.mk 123 0 noB ks ds) t (.iface 147 lv)
section
variable {env:Au} {w w':Aw} {P Q S:Az} {d:DT} {t:PT} {v:Ax}
def DaV.mono(h:DaV env w P d t v)(a:∀g,g<w.heap.size->P g->Q g):DaV env w Q d t v:=by
 induction h with
 |flat h hs=>exact .flat h hs
 |branch n h hd ih=>exact .branch n h ih
 |row Y hc ho hP hd ih=>exact .row Y hc ho (λg e=>a g (ho.lt g e).2 (hP g e)) ih
 |map Y hl hk ho hP hd ih=>exact .map Y hl hk ho (λg e=>a g (ho.lt g e).2 (hP g e)) ih
def DaV.fr(h:DaV env w P d t v)(hf:Fr w w' S)(a:∀g,P g->¬S g):DaV env w' P d t v:=by
 induction h with
 |flat h hs=>exact .flat h hs
 |branch n h hd ih=>exact .branch n h ih
 |row Y hc ho hP hd ih=>exact .row Y hc (zj ho hf (λg e=>a g (hP g e))) hP ih
 |map Y hl hk ho hP hd ih=>exact .map Y hl hk (zj ho hf (λg e=>a g (hP g e))) hP ih
def DaV.dat(h:DaV env w P d t v):xW w P d v:=by
 induction h with
 |flat h hs=>exact .flat h
 |branch n h hd ih=>exact .branch n h ih
 |row Y hc ho hP hd ih=>exact .row Y hc ho hP ih
 |map Y hl hk ho hP hd ih=>exact .map Y hl hk ho hP ih
def DaV.iface(h:DaV env w P d t v):∃T x,v=.iface T x:=h.dat.iface
def DaV.plain{T:Av}{x:Ax}(h:qx d (.iface T x))(a:T≠154):DaV env w P d t (.iface T x):=.flat h (λn l e=>by cases e;exact absurd rfl a)
def V_:=@DaV.plain
end
def jY(env:Au)(w:Aw)(B:Nat)(P:Az)(t:PT)(lv:Ax)(ds:Ae):Prop:=
 ∃Y:Nat->Value,w.ownsRow B 52 1 lv ds.length ((List.range ds.length).flatMap λi=>[Y i])/\∀i d,ds[i]?=some d->DaV env w P d (yg env t 0 i) (Y i)
def gZ{α:Type}{l:List α}{a x:α}{i:Nat}(h:(l++[a])[i]?=some x):(i<l.length/\l[i]?=some x)\/(i=l.length/\x=a):=by
 by_cases hi:i<l.length
 .rw[ar_ hi]at h;exact .inl ⟨hi,h⟩
 .rw[aw_ M_]at h;have h0:i-l.length=0:=by
   rcases Nat.eq_zero_or_pos (i-l.length) with e|e
   .exact e
   .rw[bm_ x1_]at h;cases h
  rw[h0]at h;simp only[aa_,af_]at h;exact .inr ⟨M_,h.symm⟩
section
variable {env:Au} {w w':Aw} {B:Nat} {P Q S:Az} {t:PT} {lv:Ax} {ds:Ae}
def jY.nil(env:Au)(w:Aw)(B:Nat)(P:Az)(t:PT):jY env w B P t (L_) []:=⟨λ_=>.nilIface,World.ownsRow_nil _ _ _ _,λi d h=>by simp at h⟩
def jY.fr(h:jY env w B P t lv ds)(hf:Fr w w' S)(j:∀g,P g->¬S g)(hv:∀g,lv.ownBlock=some g->¬S g):jY env w' B P t lv ds:=by
 obtain⟨Y,a,b⟩:=h;exact⟨Y,zj a hf hv,λi d e=>(b i d e).fr hf j⟩
def jY.row(h:jY env w B P t lv ds):∃ys,w.ownsRow B 52 1 lv ds.length ys:=by
 obtain⟨Y,a,_⟩:=h;exact⟨_,a⟩
def jY.grow{w1 a:Aw}{lv v5 v:Ax}{d:DT}(j:∀i d,ds[i]?=some d->DaV env w1 (λg=>B<=g/\lv.ownBlock≠some g) d (yg env t 0 i) (Y i))(hd:DaV env w1 (λg=>B<=g/\lv.ownBlock≠some g) d (yg env t 0 ds.length) v)(hf:Fr w1 a (λg=>lv.ownBlock=some g\/g=c))(hc:c<B)(hl:v5.ownBlock=lv.ownBlock\/∃h,v5.ownBlock=some h/\w1.heap.size<=h)(ho:a.ownsRow B 52 1 v5 (ds.length+1) (((List.range ds.length).flatMap λi=>[Y i])++[v])):jY env a B (λg=>B<=g/\v5.ownBlock≠some g) t v5 (ds++[d]):=by
 have up:∀{d u v},DaV env w1 (λg=>B<=g/\lv.ownBlock≠some g) d u v->DaV env a (λg=>B<=g/\v5.ownBlock≠some g) d u v:=λh=>by
  have h1:DaV env w1 (λg=>(B<=g/\lv.ownBlock≠some g)/\g<w1.heap.size) _ _ _:=h.mono (λg h1 a=>⟨a,h1⟩);refine(h1.fr hf (λg hg e=>?_)).mono (λg _ hg=>⟨hg.1.1,λe=>?_⟩)
  .rcases e with e|e
   .exact hg.1.2 e
   .have:=hg.1.1;omega
  .rcases hl with h|⟨q,h,a⟩
   .exact hg.1.2 (h▸e)
   .rw[h]at e;have:=hg.2;simp only[af_]at e;omega
 refine⟨λi=>if i<ds.length then Y i else v,?_,λi e he=>?_⟩
 .rw[ag_,ao_,bv_,bb_,yo ds.length _ (λi=>[Y i]) (λi hi=>by simp[hi])];simpa using ho
 .rcases gZ he with⟨hi,he⟩|⟨rfl,rfl⟩
  .simp only[hi,if_true];exact up (j i e he)
  .simp only[a5_,if_false];exact up hd
def jY.dat(h:jY env w B P t lv ds)(hP:∀g,g<w.heap.size->P g->Q g)(j:∀g,lv.ownBlock=some g->Q g){T:Av}(hc:(c=91/\T=144)\/(c=114/\T=152)):DaV env w Q (.mk c 0 noB [] ds) t (.iface T lv):=by
 obtain⟨Y,a,b⟩:=h;exact .row Y hc (yl a) j (λi d e=>(b i d e).mono hP)
end
def qe(env:Au)(w:Aw)(P:Az)(t:PT)(es:Ag)(ys:Ay):Prop:=
 ∃Y:Nat->Value,(ys=(List.range es.length).flatMap λi=>[.string ((es.map Prod.fst).getD i noB),Y i])/\(∀i e,es[i]?=some e->DaV env w P e.2 (yg env t 0 i) (Y i))/\∀e∈es,e.1.size<=4000
section
variable {env:Au} {w w':Aw} {B:Nat} {P Q S:Az} {t:PT} {es:Ag} {ys:Ay}
def qe.nil(env:Au)(w:Aw)(P:Az)(t:PT):qe env w P t [] []:=⟨λ_=>.nilIface,rfl,λi d h=>by simp at h,λe h=>by simp at h⟩
def qe.fr(h:qe env w P t es ys)(hf:Fr w w' S)(j:∀g,P g->¬S g):qe env w' P t es ys:=by
 obtain⟨Y,a,b,c⟩:=h;exact⟨Y,a,λi d e=>(b i d e).fr hf j,c⟩
def qe.grow{w1 j:Aw}{lv v5 v:Ax}{key:BA}{d:DT}(h:qe env w1 (λg=>B<=g/\lv.ownBlock≠some g) t es ys)(hd:DaV env w1 (λg=>B<=g/\lv.ownBlock≠some g) d (yg env t 0 es.length) v)(hk:key.size<=4000)(hf:Fr w1 j (λg=>lv.ownBlock=some g\/g=c))(hc:c<B)(hl:v5.ownBlock=lv.ownBlock\/∃h,v5.ownBlock=some h/\w1.heap.size<=h):qe env j (λg=>B<=g/\v5.ownBlock≠some g) t (es++[(key,d)]) (ys++[.string key,v]):=by
 obtain⟨Y,a,b,k⟩:=h;have up:∀{d u v},DaV env w1 (λg=>B<=g/\lv.ownBlock≠some g) d u v->DaV env j (λg=>B<=g/\v5.ownBlock≠some g) d u v:=λh=>by
  have h1:DaV env w1 (λg=>(B<=g/\lv.ownBlock≠some g)/\g<w1.heap.size) _ _ _:=h.mono (λg h1 j=>⟨j,h1⟩);refine(h1.fr hf (λg hg e=>?_)).mono (λg _ hg=>⟨hg.1.1,λe=>?_⟩)
  .rcases e with e|e
   .exact hg.1.2 e
   .have:=hg.1.1;omega
  .rcases hl with h|⟨q,h,j⟩
   .exact hg.1.2 (h▸e)
   .rw[h]at e;have:=hg.2;simp only[af_]at e;omega
 refine⟨λi=>if i<es.length then Y i else v,?_,λi e he=>?_,λe he=>?_⟩
 .have j:=yo es.length (λi=>[Value.string (((es++[(key,d)]).map Prod.fst).getD i noB),if i<es.length then Y i else v]) (λi=>[Value.string ((es.map Prod.fst).getD i noB),Y i]) (λi hi=>by
   simp only[bf_,as_]
   rw[ar_ (by simpa using hi),i_ hi])
  rw[a,ag_,ao_,bv_,bb_,j];simp[as_]
 .rcases gZ he with⟨hi,he⟩|⟨rfl,rfl⟩
  .simp only[hi,if_true];exact up (b i e he)
  .simp only[a5_,if_false];exact up hd
 .rcases a4_.1 he with h|h
  .exact k e h
  .simp only[a2_]at h;subst h;exact hk
def qe.dat{lv:Ax}(h:qe env w P t es ys)(ho:w.ownsRow B 201 2 lv es.length ys)(hP:∀g,g<w.heap.size->P g->Q g)(j:∀g,lv.ownBlock=some g->Q g):DaV env w Q (.mk 123 0 noB (es.map Prod.fst) (es.map Prod.snd)) t (.iface 147 lv):=by
 obtain⟨Y,a,b,k⟩:=h;subst a;refine .map Y x6_ (λx hx=>?_) (by rw[bu_];exact yl ho) j (λi d e=>?_)
 .obtain⟨e,he,rfl⟩:=a7_.1 hx;exact k e he
 .rw[ax_]at e;obtain⟨q,l,rfl⟩:=cl_.1 e;exact(b i q l).mono hP
end
end Go.Proofs.YtokgeopihcopeaaGreatDoor
