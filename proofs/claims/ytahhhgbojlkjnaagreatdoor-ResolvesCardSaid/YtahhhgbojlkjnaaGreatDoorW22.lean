import Derived.Test.YtahhhgbojlkjnaaGreatDoorW21
import Derived.Laws.BitsAllLaws
import Derived.Laws.Shifts
import Derived.Lib.ConvBytes
set_option maxHeartbeats 16000000
set_option maxRecDepth 100000
set_option linter.defProp false
set_option linter.unusedSimpArgs false
open Go.Proofs.Tryz
namespace Go.Proofs.YtahhhgbojlkjnaaGreatDoor
open Go.RowKit
variable {c lc:Nat}{la:Ao}{Y:Cx}
section
variable {w:Aw} {P Pd:Au} {bz k:Nat} {ts:Aq} {env:Ay}
def Fy{m0 p:Nat}(ih:QG env m0){fs:Am}{ds:Ak}{vk vs:Ax}(hm:1+zM ds<=m0+1)(hb:1+zM ds<=100000)(he:env c=some (.recd fs))(hcn:zZ c=true)(hfl:ds.length=fs.length)(hju:∀(i:Nat) (d:DT) (g:PF),ds[i]?=some d->fs[i]?=some g->gO env d g.ty)(hu:∀g∈fs,okT env g.ty)(Z:ZAt w P bz ts env)(hk:isT ts k (.leaf c p))(hD:zF w Pd (.mk 114 0 noB [] ds) (zq 114 0 noB vk vs))(hok:okD (.mk 114 0 noB [] ds)):Calls prog 8 #[P_ bz,.agg (zq 114 0 noB vk vs).toArray,I_ k] w λe w'=>e=.returned (.string (txT env (.mk 114 0 noB [] ds) (.leaf c p)))/\Fr w w' N_:=by
 have cc1:=Nat
 exact cq1_
def nM(o:jr env):∀m,QG env m:=by
 intro m;induction m with
 |zero=>intro d h;obtain⟨_,_,_,_,_⟩:=d;unfold ndT at h;omega
 |succ m ih=>
  intro d hm hb f t q g w P Pd bz ts k Z hk p n tx vk vs a;obtain⟨k0,l,r,ks,ds⟩:=d;obtain⟨rfl,rfl,rfl⟩:k0=p/\l=n/\r=tx:=by
   generalize l:zq p n tx vk vs=v at a;cases a with
   |mk X hk hkP hs hsP hd=>
    simp only[zq,List.cons.injEq,and_true,Value.int.injEq,Value.string.injEq,true_and]at l;exact⟨M_,l.2.1.symm,l.2.2.1.symm⟩
  unfold ndT at hm hb;cases q with
  |flat h=>
   rcases h with rfl|rfl|rfl|rfl|rfl|rfl
   .exact Fx Z hk a f
   .exact GA Z hk a f
   .exact Fj Z hk a f
   .exact Fv Z hk a f
   .exact GO Z hk a f
   .exact Fq Z hk a f
  |wrap h=>
   unfold okT at g;rcases g.1 with rfl|rfl
   .exact PJ ih hm hb h g.2 Z hk a f
   .exact GE ih hm hb h g.2 Z hk a f
  |alts hl h=>
   unfold okT at g;simp only[zM,bs_]at hm hb;exact PQ ih hm hb hl h (xC g.2 _ (al_ hl)).2 Z hk a f
  |sym he hnb hn=>
   unfold okT at g;have l:=(o _ _ he).2;exact Fk he (by
    rcases g with h|h
    .exact absurd h hnb
    .exact h.1) hn l Z hk a
  |recd he hnb hl h=>
   unfold okT at g;exact Fy ih hm hb he (by
    rcases g with h|h
    .exact absurd h hnb
    .exact h.1) hl h (o _ _ he) Z hk a f
end
set_option maxRecDepth 100000
set_option linter.defProp false
@[go_sem]def WQ:=xw 138 69
@[go_sem]def GZ:=vR 138 69 (.agg #[])
section
variable {w0 w:Aw} {env:Ay} {m:Nat} {P:Au} {B:Nat} {u:Ax} {b:BA} {t:PT}
def oT(hB:B<=w.heap.size)(hu:ye w B u b)(hs:b.size+8022<=90000000):Calls prog 36 #[u,.iface 138 (.agg #[])] w (yQ w B (b++txT env (.mk 110 0 noB [] []) t)):=by
 refine hq_ λa a=>?_;have g:txT env (.mk 110 0 noB [] []) t=bts [78]:=by
  conv=>lhs;unfold txT
  rw[i_ rfl]
 have A:Fr w (w.alloc (.cells #[] 138)) N_:=(A_ w _).alloc _;have l:=zy (ye.fr hu A u_);have hz:=A.size;replace A:=zy A;go_in;go_wp2_with (at_builtin;refine qm rfl _ _ rfl 78 rfl D_ l M_ M_ x8_ rfl rfl ?_;intro l l f h);try go_ret
 rw[a.o,g];exact⟨_,rfl,f,(FrU.of A).trans h⟩
def JQ{c:Ap}(hB:B<=w.heap.size)(hu:ye w B u b)(hs:b.size+8022<=90000000):Calls prog 36 #[u,.iface 139 (.bool c)] w (yQ w B (b++txT env (.mk 116 (if c=true then 1 else 0) noB [] []) t)):=by
 refine hq_ λf a=>?_;have g:txT env (.mk 116 (if c=true then 1 else 0) noB [] []) t=(if c=true then bts [84] else bts [70]):=by
  conv=>lhs;unfold txT
  rw[n_ D_,i_ rfl];cases c<;>rfl
 have f:=zy (FZ (t:=c) hu hB M_);go_in;go_wp2_with (go_at_call 60;apply f.o.mono;rintro e w1 h1;replace h1:=zy h1;obtain⟨f,rfl,_⟩:=h1.o);try go_ret
 rw[a.o,g];exact h1
def Fi(a:jK w0){n:Int}(hc:c=105\/c=108)(p : -9223372036854775808<=n)(q:n<=9223372036854775807)(h0:w0.heap.size<=B)(hB:B<=w.heap.size)(f:yt w0 w)(hu:ye w B u b)(hs:b.size+8022<=90000000):Calls prog 36 #[u,.iface 141 (Z_ n)] w (yQ w B (b++txT env (.mk c n noB [] []) t)):=by
 refine hq_ λh g=>?_;have l:txT env (.mk c n noB [] []) t=xK n:=by
  conv=>lhs;unfold txT
  rw[n_ M_,n_ M_,i_ M_]
 have h:=zy (a w B h0 hB f u b n p q hu M_);go_in;go_wp2_with (go_at_call 61;apply h.o.mono;rintro e w1 h1;replace h1:=zy h1;obtain⟨a,rfl,_⟩:=h1.o);try go_ret
 rw[g.o,l];exact h1
def KW{tx:BA}(h:tx.size<=4000)(hB:B<=w.heap.size)(hu:ye w B u b)(hs:b.size+8022<=90000000):Calls prog 36 #[u,.iface 143 (.string tx)] w (yQ w B (b++txT env (.mk 115 0 tx [] []) t)):=by
 refine hq_ λf a=>?_;have g:txT env (.mk 115 0 tx [] []) t=bts [34]++(tx++bts [34]):=by
  conv=>lhs;unfold txT
  rw[n_ D_,n_ D_,n_ D_,i_ rfl]
 have f:=zy (Yq (c:=34) (y:=34) rfl D_ h hu hB M_);go_in;go_wp2_with (go_at_call 62;apply f.o.mono;rintro e w1 h1;replace h1:=zy h1;obtain⟨f,rfl,_⟩:=h1.o);try go_ret
 rw[a.o,g];exact h1
def JK{tx:BA}(h:tx.size<=4000)(hB:B<=w.heap.size)(hu:ye w B u b)(hs:b.size+8022<=90000000):Calls prog 36 #[u,.iface 150 (.string tx)] w (yQ w B (b++txT env (.mk 102 0 tx [] []) t)):=by
 refine hq_ λf a=>?_;have g:txT env (.mk 102 0 tx [] []) t=bts [39]++(tx++bts [39]):=by
  conv=>lhs;unfold txT
  rw[n_ D_,n_ D_,n_ D_,n_ D_,i_ rfl]
 have f:=zy (Yq (c:=39) (y:=39) rfl D_ h hu hB M_);go_in;go_wp2_with (go_at_call 62;apply f.o.mono;rintro e w1 h1;replace h1:=zy h1;obtain⟨f,rfl,_⟩:=h1.o);try go_ret
 rw[a.o,g];exact h1
def Fs{n l:Nat}(hl:fI env t n=l)(p:l<256)(hB:B<=w.heap.size)(hu:ye w B u b)(hs:b.size+8022<=90000000):Calls prog 36 #[u,.iface 149 (.agg #[.int .u8 (l:Int),.int .i64 (n:Int)])] w (yQ w B (b++txT env (.mk 101 (n:Int) noB [] []) t)):=by
 refine hq_ λr a=>?_;have g:txT env (.mk 101 (n:Int) noB [] []) t=bts [l]:=by
  conv=>lhs;unfold txT
  rw[if_neg D_,if_neg D_,if_neg D_,if_neg D_,if_neg D_,if_pos rfl,bb_,hl]
 have A:Fr w (w.alloc (.cells #[.int .u8 (l:Int),.int .i64 (n:Int)] 149)) (λ_=>False):=(A_ w _).alloc _;have q:=zy (ye.fr hu A u_);have hz:=A.size;replace A:=zy A;clear hu hl;go_in;go_wp2_with (at_builtin;refine qm rfl _ _ rfl l rfl p q.o M_ M_ x8_ rfl rfl ?_;intro x y f h);try go_ret
 rw[a.o,g];exact⟨_,rfl,f,(FrU.of A.o).trans h⟩
def cq28_{p:Prop}(h:p:=by
 refine hq_ λl g=>?_;(first|(have:=cc1;refine have f:txT env (.mk 114 0 noB [] ds) t=bts [40]++(jn 0 (xA env t 0 0 false [] ds)++bts [41]):=?_;?_)|(have:=cc2;refine have f:txT env (.mk 123 0 noB ks ds) t=bts [123]++(jn 0 (xA env t 0 0 true ks ds)++bts [125]):=?_;?_)|(refine have f:txT env (.mk 91 0 noB [] ds) t=bts [91]++(jn 0 (xA env t 0 0 false [] ds)++bts [93]):=?_;?_))
 .conv=>lhs;unfold txT
  rw[n_ D_,n_ D_,n_ D_,n_ D_,n_ D_,n_ D_,n_ D_];rfl
 (first|(have:=cc1;have a:=zy (PN ih (t:=t) (o:=40) (c:=41) (y:=40) (z:=41) rfl rfl D_ D_ hm hP h0 hB hG hu hs ho hl hd))|(have:=cc2;have a:=zy (BW ih (t:=t) hm hP h0 hB hG hu hs hk ho hl hd))|(have a:=zy (PN ih (t:=t) (o:=91) (c:=93) (y:=91) (z:=93) rfl rfl D_ D_ hm hP h0 hB hG hu hs ho hl hd)));(first|(have:=cc2;clear ih hP hu ho hl hd hG hk)|(clear ih hP hu ho hl hd hG));go_in;go_wp2_with ((first|go_at_call 63|go_at_call 64);apply a.o.mono;rintro e w1 h1;replace h1:=zy h1;obtain⟨q,rfl,_⟩:=h1.o);try go_ret
 rw[g.o,f];exact h1.o):p:=h
def KF(ih:aB w0 env m){ds:Ak}(hm:zM ds<=m)(hP:∀g,P g->g<B)(h0:w0.heap.size<=B)(hB:B<=w.heap.size)(hG:yt w0 w)(hu:ye w B u b)(hs:b.size+8022*(1+zM ds)<=90000000)(ho:w.ownsRow 0 69 1 (.slice la ds.length lc) ds.length ((List.range ds.length).flatMap λi=>[Y i]))(hl:∀g,(Value.slice la ds.length lc).ownBlock=some g->P g)(hd:∀i d,ds[i]?=some d->DaV env w P d (zN env t 0 i) (Y i)):Calls prog 36 #[u,.iface 129 (.slice la ds.length lc)] w (yQ w B (b++txT env (.mk 91 0 noB [] ds) t)):=by
 exact cq28_
def KG(ih:aB w0 env m){ds:Ak}(hm:zM ds<=m)(hP:∀g,P g->g<B)(h0:w0.heap.size<=B)(hB:B<=w.heap.size)(hG:yt w0 w)(hu:ye w B u b)(hs:b.size+8022*(1+zM ds)<=90000000)(ho:w.ownsRow 0 69 1 (.slice la ds.length lc) ds.length ((List.range ds.length).flatMap λi=>[Y i]))(hl:∀g,(Value.slice la ds.length lc).ownBlock=some g->P g)(hd:∀i d,ds[i]?=some d->DaV env w P d (zN env t 0 i) (Y i)):Calls prog 36 #[u,.iface 136 (.slice la ds.length lc)] w (yQ w B (b++txT env (.mk 114 0 noB [] ds) t)):=by
 have cc1:=Nat
 exact cq28_
def Fe(ih:aB w0 env m){ks:Aa}{ds:Ak}(hm:zM ds<=m)(hP:∀g,P g->g<B)(h0:w0.heap.size<=B)(hB:B<=w.heap.size)(hG:yt w0 w)(hu:ye w B u b)(hs:b.size+8022*(1+zM ds)<=90000000)(hk:∀k∈ks,k.size<=4000)(ho:w.ownsRow 0 133 2 (.slice la ds.length lc) ds.length ((List.range ds.length).flatMap λi=>[.string (ks.getD i noB),Y i]))(hl:∀g,(Value.slice la ds.length lc).ownBlock=some g->P g)(hd:∀i d,ds[i]?=some d->DaV env w P d (zN env t 0 i) (Y i)):Calls prog 36 #[u,.iface 131 (.slice la ds.length lc)] w (yQ w B (b++txT env (.mk 123 0 noB ks ds) t)):=by
 have cc2:=Nat
 exact cq28_
def Xd(p:aB w0 env m)(h:jK w0){n:Nat}(hn:n<=4000){d:DT}{v:Ax}(hm:ndT d<=m)(a:DaV env w P d (zN env t n 0) v)(hP:∀g,P g->g<B)(h0:w0.heap.size<=B)(hB:B<=w.heap.size)(l:yt w0 w)(hu:ye w B u b)(hs:b.size+8022*(1+ndT d)<=90000000):Calls prog 36 #[u,.iface 135 (.agg #[I_ n,v])] w (yQ w B (b++txT env (.mk 40 (n:Int) noB [] [d]) t)):=by
 refine hq_ λr q=>?_;obtain⟨T,x,rfl⟩:=a.iface;have A:Fr w (w.alloc (.cells #[I_ n,.iface T x] 135)) N_:=(A_ w _).alloc _;have hz:=A.size;have r:=zy (KN p h hn hm (a.fr A u_) hP h0 M_ (l.fr A M_ (λg f=>f.elim)) (ye.fr hu A u_) hs);replace A:=zy A
 go_in;go_wp2_with (go_at_call 65;apply r.o.mono;rintro e w1 h1;replace h1:=zy h1;obtain⟨a,rfl,_⟩:=h1.o);try go_ret
 rw[q.o];exact h1.o.pre (FrU.of A)
def Fa(f:jK w0):∀m,aB w0 env m:=by
 intro m;induction m with
 |zero=>intro d h;obtain⟨_,_,_,_,_⟩:=d;unfold ndT at h;omega
 |succ m ih=>
  intro d hm w P B t v u b g hP h0 hB a hu hs;cases g with
  |flat h hsy=>
   have g:1<=ndT d:=by obtain⟨_,_,_,_,_⟩:=d;unfold ndT;omega
   cases h with
   |nothing=>exact oT hB hu M_
   |truth b=>exact JQ hB hu M_
   |num c n hc i0 i1=>exact Fi f hc i0 i1 h0 hB a hu M_
   |text tx h=>exact KW h hB hu M_
   |bytes tx h=>exact JK h hB hu M_
   |sym n l h=>exact Fs (hsy n l rfl).1 (hsy n l rfl).2 hB hu M_
  |branch n h hd=>
   unfold ndT at hm hs;simp only[zM,bs_]at hm hs;exact Xd ih f h M_ hd hP h0 hB a hu hs
  |row Y hc ho hl hd=>
   unfold ndT at hm hs;obtain⟨la,lc,rfl⟩:=zh ho;rcases hc with⟨rfl,rfl⟩|⟨rfl,rfl⟩
   .exact KF ih M_ hP h0 hB a hu hs ho hl hd
   .exact KG ih M_ hP h0 hB a hu hs ho hl hd
  |map Y hl hk ho hl2 hd=>
   unfold ndT at hm hs;obtain⟨la,lc,rfl⟩:=zh ho;exact Fe ih M_ hP h0 hB a hu hs hk ho hl2 hd
def oU(p:jK w0){d:DT}{v:Ax}(l:DaV env w P d t v)(hk:w0.heap.size<=w.heap.size)(q:yt w0 w)(hs:8022*ndT d<=90000000):Calls prog 20 #[v] w λe w'=>e=.returned (.string (txT env d t))/\Fr w w' N_:=by
 refine hq_ λa r=>?_;obtain⟨T,x,rfl⟩:=l.iface;have a:=Fa p (ndT d) d l_ w (λg=>P g/\g<w.heap.size) w.heap.size t _ (L_) noB (l.mono (λg h1 y=>⟨y,h1⟩)) (λg h=>h.2) hk l_ q (World.ownsRow_nil _ _ _ _) (by show 0+_<=_;omega);rw[jY]at a;replace a:=zy a;go_in;go_wp2_with (go_at_call 36;apply a.o.mono;rintro e w1 ⟨a,rfl,h1,f⟩;have a:=Qa h1;replace f:=zy f;replace h1:=zy h1);try go_ret
 rw[r.o];exact⟨rfl,f.o.all.mono (λg hg e=>M_)⟩
end
def yL(w:Aw)(br:Nat)(sv rv:Ax)(s:BA)(i n:Nat):Prop:=Blk w br [sv,rv,.string s,I_ i,I_ n] 98
section
variable {w w':Aw} {br:Nat} {sv rv:Ax} {s:BA} {i n:Nat}
def yL.c0(h:yL w br sv rv s i n):w.cell? ⟨br,0,none⟩=some sv:=by rw[G_ h];rfl
def yL.c1(h:yL w br sv rv s i n):w.cell? ⟨br,1,none⟩=some rv:=by rw[G_ h];rfl
def yL.c2(h:yL w br sv rv s i n):w.cell? ⟨br,2,none⟩=some (.string s):=by rw[G_ h];rfl
def yL.c3(h:yL w br sv rv s i n):w.cell? ⟨br,3,none⟩=some (I_ i):=by rw[G_ h];rfl
def yL.c4(h:yL w br sv rv s i n):w.cell? ⟨br,4,none⟩=some (I_ n):=by rw[G_ h];rfl
def yL.th(h:yL w br sv rv s i n)(o:Nat):w.frozen? ⟨br,o,none⟩=false:=Blk.th h o
def yL.si(h:yL w br sv rv s i n)(a:zw w w'):yL w' br sv rv s i n:=by obtain⟨n,rfl⟩:=a;exact h
def yL.inc(h:yL w br sv rv s i n):yL (w.setCell ⟨br,3,none⟩ (Z_ ((i:Int)+1))) br sv rv s (i+1) n:=C_ h 3 _
def yL.move(h:yL w br sv rv s i n)(j:Nat):yL (w.setCell ⟨br,3,none⟩ (Z_ ((i:Int)+(j:Int)))) br sv rv s (i+j) n:=by
 have:=C_ h 3 (Z_ ((i:Int)+(j:Int)));unfold yL;exact this
def yL.node(h:yL w br sv rv s i n):yL (w.setCell ⟨br,4,none⟩ (Z_ ((n:Int)+1))) br sv rv s i (n+1):=C_ h 4 _
end
def vU(w:Aw)(dt:As)(dx:Ax):Prop:=w.cell? ⟨4,0,none⟩=some (.iface dt dx)
section
variable {w:Aw} {br:Nat} {sv rv:Ax} {s:BA} {i n:Nat} {dt:As} {dx:Ax}
def dC(h:yL w br sv rv s i n)(hs:s.size<=4000)(hl:i<s.size):Calls prog 124 #[P_ br] w λe w'=>e=.returned (.tuple #[.int .u8 (bt s i:Int),.nilIface])/\yL w' br sv rv s (i+1) n/\Fr w w' (· = br):=by
 refine hq_ λf a=>?_;have c2:=h.c2;have c3:=h.c3;have f3:=h.th 3;have f:((i:Int)==(s.size:Int))=false:=x4_
 have f:(i:Int)<(s.size:Int):=M_;obtain⟨x,hx⟩:=x_ (bt s i);have f:((s[i]'hl).toNat:Int)=(x:Int):=zq_
 rw[hx]at a;replace hx:=zy hx;replace h:=zy h;go_in;go_wp2;go_quiet (fail);go_wp2;go_quiet (fail);go_wp2;try go_ret
 rw[a.o];refine⟨rfl,?_,?_⟩
 .exact((h.o.si (zw.drewN _ _)).inc).si (zw.drewN _ _)
 .exact(((A_ w (· = br)).si (zw.drewN _ _)).setCell _ _ (λ_=>rfl)).si (zw.drewN _ _)
def iQ(h:yL w br sv rv s i n)(hl:i=s.size)(f:vU w dt dx):Calls prog 124 #[P_ br] w λe w'=>e=.returned (.tuple #[.int .u8 0,.iface dt dx])/\yL w' br sv rv s i n/\Fr w w' (· = br):=by
 refine hq_ λa a=>?_;have c2:=h.c2;have c3:=h.c3;have g:((i:Int)==(s.size:Int))=true:=x4_
 have he:=f;unfold vU at he;replace hl:=zy hl;replace h:=zy h;go_in;go_wp2;go_quiet (fail);go_wp2;go_quiet (fail);go_wp2;try go_ret
 rw[a.o];exact⟨rfl,h.o.si ((zw.drewN _ _).trans (zw.drewN _ _)),(A_ w _).si ((zw.drewN _ _).trans (zw.drewN _ _))⟩
end
def KP{m:Nat}(h:m<9223372036854775808):bits .xor .i64 (-1) (m:Int) = -(m:Int)-1:=by
 have e:bits .xor .i64 (-1) (m:Int)=IntKind.i64.wrap ((BitVec.ofInt 64 (-1) ^^^ BitVec.ofInt 64 (m:Int)).toNat:Int):=rfl;have a:BitVec.ofInt 64 (-1)=BitVec.allOnes 64:=D_;rw[e,a,BitVec.allOnes_xor,BitVec.toNat_not,BitVec.toNat_ofInt];have:(((m:Int) % ((2 ^ 64:Nat):Int)).toNat:Int)=(m:Int):=M_;simp only[IntKind.wrap,IntKind.bits,IntKind.signed];simp;omega
def cP{w:Aw}{z:Nat}(hz:z<18446744073709551616):Calls prog 155 #[.int .u64 (z:Int)] w λe w'=>e=.returned (Z_ (kB z))/\w'=w:=by
 refine hq_ λg a=>?_;have hc:IntKind.i64.wrap ((z:Int) / 2)=((z / 2:Nat):Int):=by
  simp only[IntKind.wrap,IntKind.bits,IntKind.signed];simp;omega
 by_cases h1:z % 2=1
 .have f:(z:Int) % 2=1:=M_;have hx:=KP (m:=z / 2) M_;go_in;go_wp2;try go_ret
  rw[a.o];unfold kB;rw[i_ h1];refine⟨?_,rfl⟩
  congr 2
 .have f:¬(z:Int) % 2=1:=M_;go_in;go_wp2;try go_ret
  rw[a.o];unfold kB;rw[n_ h1];refine⟨?_,rfl⟩
  congr 2
def Va(w:Aw)(br:Nat)(sv rv:Ax)(s:BA)(n:Nat)(dt:As)(dx:Ax)(r:Dy)(e:Ah)(w':Aw):Prop:=
 Fr w w' (· = br)/\match r with
 |some (v,j)=>e=.returned (.tuple #[Z_ v,.nilIface])/\j<=s.size/\yL w' br sv rv s j n
 |none=>e=.returned (.tuple #[O_,.iface dt dx])/\∃j,j<=s.size/\yL w' br sv rv s j n
def sN(lo hi:Int):Option (Nat×Nat)->Option (Int×Nat)
 |none=>none
 |some (z,j)=>if z<18446744073709551616/\lo<=kB z/\kB z<=hi then some (kB z,j) else none
def QJ(s:BA)(lo f:Int)(i:Nat):vu s lo f i=sN lo f (wP s i 0 0):=by
 rw[tX];unfold vu bL sN;cases wF s 10 i with
 |none=>rfl
 |some q=>
  obtain⟨z,j⟩:=q;simp only;by_cases h:z<18446744073709551616
  .rw[i_ h];simp only;by_cases a:lo<=kB z/\kB z<=f
   .rw[i_ a,i_ ⟨h,a⟩]
   .rw[n_ a,n_ (λx=>a x.2)]
  .rw[n_ h,n_ (λx=>h x.1)]
def PW(k:Nat):(2:Int) ^ (7*k)=((128 ^ k:Nat):Int):=by
 rw[show(128:Nat)=2 ^ 7 from rfl,<- Nat.pow_mul,Int.natCast_pow];rfl
def Ff{k acc:Nat}(hk:k<=9)(hb:¬(k=9/\2<=c % 128))(a:acc<128 ^ k):∃X:Nat,X=c % 128*128 ^ k/\acc+X<18446744073709551616/\IntKind.u64.wrap ((c:Int) % 128*2 ^ (7*k))=(X:Int)/\(X:Int) / 2 ^ (7*k)=(c:Int) % 128/\bits .or .u64 (acc:Int) (X:Int)=((acc+X:Nat):Int):=by
 have hp:=Jh k;have h:acc+c % 128*128 ^ k<18446744073709551616:=by
  by_cases g:k=9
  .subst g;have:c % 128<=1:=M_;have:=b1_ (128 ^ 9) this;omega
  .have h1:=fp (k:=k) M_;have f:c % 128*128 ^ k<=127*128 ^ k:=b1_ _ M_;omega
 have f:(c:Int) % 128*2 ^ (7*k)=((c % 128*128 ^ k:Nat):Int):=by rw[PW,Int.natCast_mul];rfl
 refine⟨_,rfl,h,?_,?_,?_⟩
 .rw[f,IntKind.wrap_u64];omega
 .rw[PW,<- Int.natCast_ediv,Nat.mul_div_cancel _ hp];rfl
 .rw[u64_or_nat _ _ M_ M_]
  congr 1
  rw[show(128:Nat)=2 ^ 7 from rfl,<- Nat.pow_mul,a7_ (c % 2 ^ 7)];rw[show(128:Nat)=2 ^ 7 from rfl,<- Nat.pow_mul]at a;rw[Nat.or_comm,<- Nat.two_pow_add_eq_or_of_lt a,Nat.add_comm]
def YI(hc:2<=c % 128):(IntKind.u64.wrap ((c:Int) % 128*9223372036854775808) / 9223372036854775808 != (c:Int) % 128)=true:=by
 rw[IntKind.wrap_u64];simp;omega
def Kl{x:Int}{k:Nat}(hk:10<=k):Op.shift .shl .u64 x .i64 (7*(k:Int))=pure (.int .u64 0):=by
 rw[shift_shl_any _ _ _ _ M_,show min (7*(k:Int)).toNat (IntKind.u64).bits=64 by show min _ 64=64;omega,IntKind.wrap_u64]
 congr 2
 omega
def Kc{k:Nat}:Op.shift .shr .u64 0 .i64 (7*(k:Int))=pure (.int .u64 0):=by
 rw[shift_shr_any _ _ _ _ M_];simp
def GF(R_:Dy)(lo up:Int)(w:Aw)(br:Nat)(sv rv:Ax)(s:BA)(i n:Nat)(q:Nat)(v8 v9:Ax)(W:Aw):Prop:=
 ∃k acc:Nat,v8=.int .u64 (acc:Int)/\v9=Z_ ((7*k:Nat):Int)/\i+k<=s.size/\s.size+1-(i+k)<=q/\acc<18446744073709551616/\H_ (yL W br sv rv s (i+k) n/\Fr w W (· = br))/\
  ((k<=9/\acc<128 ^ k/\R_=sN lo up (wP s i k acc))\/(10<=k/\R_=none))
def gv{w:Aw}{br:Nat}{sv rv:Ax}{s:BA}{i n:Nat}{dt:As}{dx:Ax}{lo up:Int}(h:yL w br sv rv s i n)(hs:s.size<=4000)(hi:i<=s.size)(y:∀W,Fr w W (· = br)->vU W dt dx):Calls prog 125 #[P_ br,Z_ lo,Z_ up] w (Va w br sv rv s n dt dx (vu s lo up i)):=by
 refine hq_ λb6 C=>?_;rw[QJ]at C;obtain⟨D,M⟩:=e_ (sN lo up (wP s i 0 0));rw[<- M]at C;have a5:H_ (GF D lo up w br sv rv s i n (s.size+1) (.int .u64 0) (O_) w):=zy ⟨0,0,rfl,rfl,M_,M_,M_,zy ⟨h,A_ _ _⟩,.inl ⟨M_,M_,M⟩⟩;replace M:=zy M;replace y:=zy y;clear h;go_in;go_wp2;go_loopg [8,9,10,11,12] (s.size+1) (λq v8 v9 d2 d6 d7 W=>GF D lo up w br sv rv s i n q v8 v9 W);case atStart=>exact a5
 case round=>
  clear a5;obtain⟨k,acc,rfl,rfl,a9,hq,U,g,T⟩:=hrel;by_cases a8:i+k=s.size
  .have p:=zy (iQ g.o.1 a8 (y.o _ g.o.2));have hr:=zy (show D=none by
    rcases T with⟨I,_,h⟩|⟨_,h⟩
    .rw[h,lM I M_];rfl
    .exact h)
   clear T;go_wp2_with (go_at_call 124;apply p.o.mono;rintro e w1 ⟨rfl,h1,a⟩;replace h1:=zy h1;replace a:=zy a);try go_ret
   rw[C.o,hr.o];exact⟨g.o.2.trans a u_,rfl,_,a9,h1⟩
  .have A:i+k<s.size:=M_;obtain⟨c,hc⟩:=x_ (bt s (i+k));have p:=dC g.o.1 hs A;rw[hc]at p;replace p:=zy p;have b8:c<256:=ze_
   rcases T with⟨I,K,z⟩|⟨a6,z⟩
   .by_cases L:k=9/\2<=c % 128
    .obtain⟨rfl,a7⟩:=L;have Q:=YI a7;have hr:=zy (show D=none by
      rw[z]
      by_cases h1:c<128
      .rw[qP M_ A M_,hc,n_ (λx=>M_)]
       unfold sN
       simp only
       rw[n_ (λx=>by
        have h2:=cc_ (128 ^ 9) (show 2<=c by omega)
        have q9:128 ^ 9*2=18446744073709551616:=D_
        omega)]
      .rw[kI M_ A M_,i_ rfl]
       rfl)
     clear z K hc;go_wp2_with (go_at_call 124;apply p.o.mono;rintro e w1 ⟨rfl,h1,a⟩;have l:=y.o w1 (g.o.2.trans a u_);unfold vU at l;replace h1:=zy h1;replace a:=zy a);go_quiet (fail);go_wp2;try go_ret
     rw[C.o,hr.o];exact⟨(g.o.2.trans a u_).si (zw.drewN _ _),rfl,_,A,h1.o.si (zw.drewN _ _)⟩
    .obtain⟨X,N,O,hX,Q,hO⟩:=Ff I L K;have b7:(((X:Int) / 2 ^ (7*k)) != (c:Int) % 128)=false:=by rw[Q];simp
     have q7:7*k<=63:=M_;replace N:=zy N;replace Q:=zy Q;by_cases a2:c<128
     .have a0:¬(c:Int)≥128:=M_;have hm:c % 128=c:=cg_ a2;have J:D=sN lo up (if c=0/\0<k then none else some (acc+X,i+k+1)):=by
       rw[z,qP I A M_,hc,N.o,hm,a7_ c]
      obtain⟨u,hu⟩:=x_ (kB (acc+X));have r:=λ(w:World)=>cP (w:=w) O;rw[hu]at r;replace r:=zy r;replace hu:=zy hu;obtain⟨Z,R⟩:∃Z:Nat,Z=acc+X:=⟨_,rfl⟩;rw[<- R]at hO r O J;rw[<- R]at hu;replace R:=zy R;by_cases F:(lo<=u/\u<=up)/\¬(c=0/\0<k)
      .have hr:=zy (show D=some (u,i+k+1) by rw[J,n_ F.2];unfold sN;simp only;rw[hu.o,i_ ⟨O,F.1⟩]);obtain⟨⟨G,a1⟩,hz⟩:=F;have q8:u≥lo:=G;clear z J K hc L hm;by_cases S:c=0
       .have V:¬(c:Int) > 0:=M_;have a3:(7*(k:Int)==0)=true:=x4_
        replace hz:=zy hz;replace S:=zy S;go_wp2_with (first
         |(go_at_call 124;apply p.o.mono;rintro e w1 ⟨rfl,h1,a⟩;have l:=y.o w1 (g.o.2.trans a u_);unfold vU at l;replace h1:=zy h1;replace a:=zy a)
         |(go_at_call 155;apply(r.o _).mono;rintro e H ⟨rfl,f⟩;replace f:=f.symm;subst f))
        try go_ret
        rw[C.o,hr.o];exact⟨g.o.2.trans a u_,rfl,A,h1⟩
       .have V:(c:Int) > 0:=M_;replace hz:=zy hz;replace S:=zy S;go_wp2_with (first
         |(go_at_call 124;apply p.o.mono;rintro e w1 ⟨rfl,h1,a⟩;have l:=y.o w1 (g.o.2.trans a u_);unfold vU at l;replace h1:=zy h1;replace a:=zy a)
         |(go_at_call 155;apply(r.o _).mono;rintro e H ⟨rfl,f⟩;replace f:=f.symm;subst f))
        try go_ret
        rw[C.o,hr.o];exact⟨g.o.2.trans a u_,rfl,A,h1⟩
      .have hr:=zy (show D=none by
        rw[J]
        by_cases hz:c=0/\0<k
        .rw[i_ hz]
         rfl
        .rw[n_ hz]
         unfold sN
         simp only
         rw[hu.o,n_ (λx=>F ⟨x.2,hz⟩)])
       clear z J K hc L hm;by_cases G:lo<=u
       .have a4:u≥lo:=G;by_cases a1:u<=up
        .have hz:c=0/\0<k:=Classical.not_not.1 (λx=>F ⟨⟨G,a1⟩,x⟩);have V:¬(c:Int) > 0:=M_;have a3:(7*(k:Int)==0)=false:=x4_
         have d1:0<k:=hz.2;replace hz:=zy hz;clear F;go_wp2_with (first
          |(go_at_call 124;apply p.o.mono;rintro e w1 ⟨rfl,h1,a⟩;have l:=y.o w1 (g.o.2.trans a u_);unfold vU at l;replace h1:=zy h1;replace a:=zy a)
          |(go_at_call 155;apply(r.o _).mono;rintro e H ⟨rfl,f⟩;replace f:=f.symm;subst f))
         all_goals first
          |(exfalso;omega)
          |(go_quiet (fail)
            go_wp2
            try go_ret
            rw[C.o,hr.o]
            exact⟨(g.o.2.trans a u_).si (zw.drewN _ _),rfl,_,A,h1.o.si (zw.drewN _ _)⟩)
        .clear F;go_wp2_with (first
          |(go_at_call 124;apply p.o.mono;rintro e w1 ⟨rfl,h1,a⟩;have l:=y.o w1 (g.o.2.trans a u_);unfold vU at l;replace h1:=zy h1;replace a:=zy a)
          |(go_at_call 155;apply(r.o _).mono;rintro e H ⟨rfl,f⟩;replace f:=f.symm;subst f))
         go_quiet (fail);go_wp2;try go_ret
         rw[C.o,hr.o];exact⟨(g.o.2.trans a u_).si (zw.drewN _ _),rfl,_,A,h1.o.si (zw.drewN _ _)⟩
       .have a4:¬u≥lo:=G;clear F;go_wp2_with (first
         |(go_at_call 124;apply p.o.mono;rintro e w1 ⟨rfl,h1,a⟩;have l:=y.o w1 (g.o.2.trans a u_);unfold vU at l;replace h1:=zy h1;replace a:=zy a)
         |(go_at_call 155;apply(r.o _).mono;rintro e H ⟨rfl,f⟩;replace f:=f.symm;subst f))
        go_quiet (fail);go_wp2;try go_ret
        rw[C.o,hr.o];exact⟨(g.o.2.trans a u_).si (zw.drewN _ _),rfl,_,A,h1.o.si (zw.drewN _ _)⟩
     .have a0:(c:Int)≥128:=M_;have b4:=zy (show k+1<=9/\acc+X<128 ^ (k+1)/\D=sN lo up (wP s i (k+1) (acc+X))\/10<=k+1/\D=none by
       rw[z,kI I A M_,hc]
       by_cases S:k=9
       .right
        rw[i_ S]
        exact⟨M_,rfl⟩
       .left
        have q9:128 ^ (k+1)=128 ^ k*128:=Nat.pow_succ 128 k
        have h2:c % 128*128 ^ k<=127*128 ^ k:=b1_ _ M_
        rw[n_ S,N.o,show c-128=c % 128 by omega,a7_ (128 ^ k)]
        exact⟨M_,M_,rfl⟩)
      clear z K hc L;go_wp2_with (go_at_call 124;apply p.o.mono;rintro e w1 ⟨rfl,h1,a⟩;have l:=y.o w1 (g.o.2.trans a u_);unfold vU at l;replace h1:=zy h1;replace a:=zy a);go_roundg (s.size+1-(i+(k+1)));case measure=>omega
      case rel=>
       refine⟨k+1,acc+X,rfl,?_,M_,l_,O,zy ⟨h1,g.o.2.trans a u_⟩,b4⟩
       congr 1
   .have R:=Kl (x:=(c:Int) % 128) a6;have g2:=Kc (k:=k);have b9:k<=4000:=M_;by_cases F:c % 128=0
    .have J:((0:Int) != (c:Int) % 128)=false:=x4_
     have hO:bits .or .u64 (acc:Int) 0=(acc:Int):=by have:=u64_or_nat acc 0 U D_;simpa using this
     by_cases a2:c<128
     .have a0:¬(c:Int)≥128:=M_;have V:¬(c:Int) > 0:=M_;have a3:(7*(k:Int)==0)=false:=x4_
      obtain⟨u,hu⟩:=x_ (kB acc);have r:=λ(w:World)=>cP (w:=w) U;rw[hu]at r;replace r:=zy r;have hr:=zy z;clear hu z hc F;by_cases G:u≥lo
      .by_cases a1:u<=up;all_goals
        go_wp2_with (first
         |(go_at_call 124;apply p.o.mono;rintro e w1 ⟨rfl,h1,a⟩;have l:=y.o w1 (g.o.2.trans a u_);unfold vU at l;replace h1:=zy h1;replace a:=zy a)
         |(go_at_call 155;apply(r.o _).mono;rintro e H ⟨rfl,f⟩;replace f:=f.symm;subst f))
        all_goals first
         |(exfalso;omega)
         |(go_quiet (fail)
           go_wp2
           try go_ret
           rw[C.o,hr.o]
           exact⟨(g.o.2.trans a u_).si (zw.drewN _ _),rfl,_,A,h1.o.si (zw.drewN _ _)⟩)
      .go_wp2_with (first
        |(go_at_call 124;apply p.o.mono;rintro e w1 ⟨rfl,h1,a⟩;have l:=y.o w1 (g.o.2.trans a u_);unfold vU at l;replace h1:=zy h1;replace a:=zy a)
        |(go_at_call 155;apply(r.o _).mono;rintro e H ⟨rfl,f⟩;replace f:=f.symm;subst f))
       all_goals first
        |(exfalso;omega)
        |(go_quiet (fail)
          go_wp2
          try go_ret
          rw[C.o,hr.o]
          exact⟨(g.o.2.trans a u_).si (zw.drewN _ _),rfl,_,A,h1.o.si (zw.drewN _ _)⟩)
     .have a0:(c:Int)≥128:=M_;have hr:=zy z;clear z hc F;go_wp2_with (go_at_call 124;apply p.o.mono;rintro e w1 ⟨rfl,h1,a⟩;have l:=y.o w1 (g.o.2.trans a u_);unfold vU at l;replace h1:=zy h1;replace a:=zy a);go_roundg (s.size+1-(i+(k+1)));case measure=>omega
      case rel=>
       refine⟨k+1,acc,rfl,?_,M_,l_,U,zy ⟨h1,g.o.2.trans a u_⟩,.inr ⟨M_,hr⟩⟩
       congr 1
    .have J:((0:Int) != (c:Int) % 128)=true:=x4_
     have hr:=zy z;clear z hc F;go_wp2_with (go_at_call 124;apply p.o.mono;rintro e w1 ⟨rfl,h1,a⟩;have l:=y.o w1 (g.o.2.trans a u_);unfold vU at l;replace h1:=zy h1;replace a:=zy a);go_quiet (fail);go_wp2;try go_ret
     rw[C.o,hr.o];exact⟨(g.o.2.trans a u_).si (zw.drewN _ _),rfl,_,A,h1.o.si (zw.drewN _ _)⟩
section
variable {w:Aw} {br:Nat} {sv rv:Ax} {s:BA} {i n:Nat} {dt:As} {dx:Ax}
def fS(h:yL w br sv rv s i n)(hs:s.size<=4000)(p:i<=s.size)(l:∀W,Fr w W (· = br)->vU W dt dx):Calls prog 127 #[P_ br] w (Va w br sv rv s n dt dx (vA s i)):=by
 refine hq_ λr g=>?_;have a:=gv (lo:=0) (up:=9223372036854775807) h hs p l;cases hb:vu s 0 9223372036854775807 i with
 |none=>
  rw[hb]at a;have hr:=zy (show vA s i=none from hb);replace a:=zy a;go_in;go_wp2_with (go_at_call 125;apply a.o.mono;rintro e w1 ⟨f,rfl,hm⟩;replace f:=zy f;replace hm:=zy hm);try go_ret
  rw[g.o,hr.o];exact⟨f,rfl,hm⟩
 |some q=>
  obtain⟨v,j⟩:=q;rw[hb]at a;have hr:=zy (show vA s i=some (v,j) from hb);replace a:=zy a;go_in;go_wp2_with (go_at_call 125;apply a.o.mono;rintro e w1 ⟨f,rfl,hm⟩;replace f:=zy f;replace hm:=zy hm);try go_ret
  rw[g.o,hr.o];exact⟨f,rfl,hm⟩
def mq{m:Nat}(l:m<=4000)(h:yL w br sv rv s i n)(hs:s.size<=4000)(p:i<=s.size)(l:∀W,Fr w W (· = br)->vU W dt dx):Calls prog 130 #[P_ br,I_ m] w (Va w br sv rv s n dt dx (vu s 0 ((m:Int)-1) i)):=by
 refine hq_ λr g=>?_;have a:=gv (lo:=0) (up:=(m:Int)-1) h hs p l;cases hb:vu s 0 ((m:Int)-1) i with
 |none=>
  rw[hb]at a;have hr:=zy hb;replace a:=zy a;go_in;go_wp2_with (go_at_call 125;apply a.o.mono;rintro e w1 ⟨f,rfl,hm⟩;replace f:=zy f;replace hm:=zy hm);try go_ret
  rw[g.o,hr.o];exact⟨f,rfl,hm⟩
 |some q=>
  obtain⟨v,j⟩:=q;have hg:=yU hb;rw[hb]at a;have hr:=zy hb;replace a:=zy a;go_in;go_wp2_with (go_at_call 125;apply a.o.mono;rintro e w1 ⟨f,rfl,hm⟩;replace f:=zy f;replace hm:=zy hm);try go_ret
  rw[g.o,hr.o];exact⟨f,rfl,hm⟩
def Gx(w:Aw)(br:Nat)(sv rv:Ax)(s:BA)(n:Nat)(dt:As)(dx:Ax)(r:Option (BA×Nat))(e:Ah)(w':Aw):Prop:=
 Fr w w' (· = br)/\match r with
 |some (tx,j)=>e=.returned (.tuple #[.string tx,.nilIface])/\j<=s.size/\yL w' br sv rv s j n
 |none=>e=.returned (.tuple #[.string noB,.iface dt dx])/\∃j,j<=s.size/\yL w' br sv rv s j n
end
def sE{s:BA}{i m k:Nat}(hm:i+m<=s.size)(hk:k<m):((s.extract i (i+m)).data.toList.getD k 0).toNat=bt s (i+k):=by
 have hz:i+k<s.data.toList.length:=by rw[Array.length_toList];show i+k<s.size;omega
 rw[vS s (i+k) M_];simp[List.getD,cj_];rw[List.getElem?_take_of_lt hk,List.getElem?_drop,ak_ hz];rfl
def Bh(w:Aw)(br:Nat)(sv rv:Ax)(s:BA)(i n m:Nat)(bb:Nat)(q:Nat)(v48:Ax)(W:Aw):Prop:=
 ∃k:Nat,v48=I_ k/\k<=m/\m+1-k<=q/\i+k<=zX s i/\H_ (yL W br sv rv s (i+m) n/\Fr w W (· = br))/\H_ (∀q,q<m->W.cell? ⟨bb,q,none⟩=some (.int .u8 (bt s (i+q):Int)))
def pM{w:Aw}{br:Nat}{sv rv:Ax}{s:BA}{i n:Nat}{dt:As}{dx:Ax}{m:Nat}(h:yL w br sv rv s i n)(hs:s.size<=4000)(I:i<=s.size)(hm:m<=9223372036854775807)(p:∀W,Fr w W (· = br)->vU W dt dx):Calls prog 133 #[P_ br,I_ m] w (Gx w br sv rv s n dt dx (xU s i m)):=by
 refine hq_ λa1 C=>?_;have c2:=h.c2;have c3:=h.c3;have f3:=h.th 3;have he:=p w (A_ _ _);unfold vU at he;have a6:=pg I;by_cases a2:s.size<i+m
 .have hr:=zy (show xU s i m=none by unfold xU;rw[n_ M_]);have N:(m:Int) > (s.size:Int)-(i:Int):=M_;replace h:=zy h;replace p:=zy p;go_in;go_wp2;go_quiet (fail);go_wp2;go_quiet (fail);go_wp2;try go_ret
  rw[C.o,hr.o];exact⟨(A_ w (· = br)).si ((zw.drewN _ _).trans (zw.drewN _ _)),rfl,i,I,h.o.si ((zw.drewN _ _).trans (zw.drewN _ _))⟩
 .have N:¬(m:Int) > (s.size:Int)-(i:Int):=M_;have a7:m<=4000:=M_;have a3:(i:Int)<=(i:Int)+(m:Int):=M_;have a4:(i:Int)+(m:Int)<=(s.size:Int):=M_;obtain⟨tx,A⟩:=x_ (s.extract i (i+m));have L:tx.size=m:=by rw[<- A,a3_];omega
  have G:=zy (show ∀q,q<m->(tx.data.toList.getD q 0).toNat=bt s (i+q) from λq y=>by rw[<- A];exact sE M_ y);have U:=λ(W:World)=>Lib.run_convert_string_bytes (P:=prog) W 9 94 5 tx pR iG underlying5;have z:=zy (show ∀a f,yL (Lib.bytesWorld (((w.drewN a).setCell ⟨br,3,none⟩ (Z_ ((i:Int)+(m:Int)))).drewN f) 5 tx) br sv rv s (i+m) n/\Fr w (Lib.bytesWorld (((w.drewN a).setCell ⟨br,3,none⟩ (Z_ ((i:Int)+(m:Int)))).drewN f) 5 tx) (· = br)/\∀q,q<m->(Lib.bytesWorld (((w.drewN a).setCell ⟨br,3,none⟩ (Z_ ((i:Int)+(m:Int)))).drewN f) 5 tx).cell? ⟨w.heap.size,q,none⟩=some (.int .u8 (bt s (i+q):Int)) from λa f=>by
   have r:(((w.drewN a).setCell ⟨br,3,none⟩ (Z_ ((i:Int)+(m:Int)))).drewN f).heap.size=w.heap.size:=by simp[World.setCell,World.drewN]
   have h1:yL (((w.drewN a).setCell ⟨br,3,none⟩ (Z_ ((i:Int)+(m:Int)))).drewN f) br sv rv s (i+m) n:=by
    exact((h.si (zw.drewN w a)).move m).si (zw.drewN _ f)
   have M:Fr w (((w.drewN a).setCell ⟨br,3,none⟩ (Z_ ((i:Int)+(m:Int)))).drewN f) (· = br):=(((A_ w (· = br)).si (zw.drewN _ _)).setCell _ _ (λ_=>rfl)).si (zw.drewN _ _)
   generalize ((w.drewN a).setCell ⟨br,3,none⟩ (Z_ ((i:Int)+(m:Int)))).drewN f=V at *
   have F:Fr V (Lib.bytesWorld V 5 tx) N_:=⟨rfl,rfl,rfl,by rw[Lib.bytesWorld_size];omega,λk hk _=>Lib.bytesWorld_at_old V _ tx k hk⟩
   refine⟨F.bl h1 id,M.trans F v_,λq y=>?_⟩
   rw[<- r,Lib.bytesWorld_cell V _ tx q M_,G.o q y])
  replace h:=zy h;replace p:=zy p;clear he;go_in;go_wp2;go_quiet (fail);go_wp2;go_quiet (fail);go_wp2;go_loopg [9,48] (m+1) (λq v9 a0 W=>Bh w br sv rv s i n m w.heap.size q a0 W);case atStart=>exact⟨0,rfl,M_,M_,vM s i,zy ⟨(z.o _ _).1,(z.o _ _).2.1⟩,zy (z.o _ _).2.2⟩
  case round=>
   clear z G U;obtain⟨k,rfl,a5,y,D,l,H⟩:=hrel;have K:=zy A;have a8:=zy L;clear A L c2 c3 f3;by_cases Q:k=m
   .subst Q;have T:¬(k:Int)<(k:Int):=M_;have hr:=zy (show xU s i k=some (tx,i+k) by unfold xU;rw[i_ D,K.o]);go_wp2;try go_ret
    rw[C.o,hr.o];exact⟨l.o.2,by rw[K.o],M_,l.o.1⟩
   .have S:k<m:=M_;have T:(k:Int)<(m:Int):=M_;have hc:=H.o k S;obtain⟨c,g⟩:=x_ (bt s (i+k));rw[g]at hc;by_cases J:97<=c/\c<=122
    .have X:¬(c:Int)<97:=M_;have Z:¬(c:Int) > 122:=M_;have R:i+(k+1)<=zX s i:=by
      rw[<- ki D];unfold zX;rw[kL M_ (by rw[g];exact J)];exact vM s (i+k+1)
     replace g:=zy g;go_wp2;go_roundg (m+1-(k+1));case measure=>omega
     case rel=>exact⟨k+1,by simp,M_,l_,R,l,H⟩
    .have hr:=zy (show xU s i m=none by
      unfold xU
      rw[n_ (λx=>by
       have r:=ki D
       unfold zX at r x
       rw[vX (by rw[g];exact J)]at r
       omega)])
     have O:=p.o _ l.o.2;unfold vU at O;replace g:=zy g;by_cases X:(c:Int)<97;all_goals (try have Z:(c:Int) > 122:=by omega)
     all_goals
      go_wp2;go_quiet (fail);go_wp2;try go_ret
      rw[C.o,hr.o];exact⟨l.o.2.si (zw.drewN _ _),rfl,_,M_,l.o.1.si (zw.drewN _ _)⟩
def cwcF1_{p:Prop}(h:p:=by
 (try have:=cc1;obtain⟨tx,j2⟩:=q)
 rw[ht]at hT hr;replace hT:=zy hT;replace hr:=zy hr;clear ht;go_in;go_wp2_with (first
  |(go_at_call 127;apply hC.o.mono;rintro e w1 ⟨hf1,rfl,hj1,h1⟩;replace hf1:=zy hf1;replace h1:=zy h1)
  |(go_at_call 133;apply(hT.o _ h1.o hf1.o).mono;rintro e w2 ⟨hf2,rfl,hm⟩;replace hf2:=zy hf2;replace hm:=zy hm))
 try go_ret
 rw[Q_.o,hr.o];exact⟨hf1.o.trans hf2.o u_,rfl,hm.o⟩):p:=h
def cF{w:Aw}{br:Nat}{sv rv:Ax}{s:BA}{i n:Nat}{dt:As}{dx:Ax}(h:yL w br sv rv s i n)(hs:s.size<=4000)(f:i<=s.size)(a:∀W,Fr w W (· = br)->vU W dt dx):Calls prog 126 #[P_ br] w (Gx w br sv rv s n dt dx (xn s i)):=by
 refine hq_ λg Q_=>?_;have hC:=fS h hs f a;replace a:=zy a;cases hb:vA s i with
 |none=>
  rw[hb]at hC;have hr:=zy (show xn s i=none by unfold xn;rw[hb]);replace hC:=zy hC;go_in;go_wp2_with (go_at_call 127;apply hC.o.mono;rintro e w1 ⟨hf1,rfl,hm⟩;replace hf1:=zy hf1;replace hm:=zy hm);try go_ret
  rw[Q_.o,hr.o];exact⟨hf1,rfl,hm⟩
 |some q=>
  obtain⟨v,j⟩:=q;have hg:=yU hb;obtain⟨m,rfl⟩:∃m:Nat,v=(m:Int):=⟨v.toNat,M_⟩;rw[hb]at hC;have hr:xn s i=xU s j m:=by unfold xn;rw[hb];simp only[bb_]
  have hT:=λ(W:World) (h:yL W br sv rv s j n) (g:Fr w W (· = br))=>pM (m:=m) (dt:=dt) (dx:=dx) h hs hg.2.1 M_ (λV f=>a.o V (g.trans f u_));replace hC:=zy hC;cases ht:xU s j m with
  |none=>
   exact cwcF1_
  |some q=>
   have cc1:=Nat;exact cwcF1_
structure jJ where
 dt:TypeId
 dx:Value
 bt:TypeId
 bx:Value
def jJ.t(E:jJ)(e:Nat):TypeId:=if e=7 then E.bt else E.dt
def jJ.x(E:jJ)(e:Nat):Value:=if e=7 then E.bx else E.dx
structure YC(w0:Aw)(P:Au)(ss:BA)(ds:Ar)(sv rv:Ax)(xs:Az)(s:BA)(E:jJ)(br i n:Nat)(W:Aw):Prop where
 R:yL W br sv rv s i n
 D:xf W P ss ds sv xs
 G:yt w0 W
 E1:vt 4 w0 E.dt E.dx
 E2:vt 5 w0 E.bt E.bx
 Pbr:∀g,P g->g<br
 brG:w0.heap.size<=br
 hs:s.size<=4000
 il:i<=s.size
section
variable {w0 W W':Aw} {P:Au} {ss:BA} {ds:Ar} {sv rv:Ax} {xs:Az} {s:BA} {E:jJ} {br i n i' n':Nat}
def YC.brP(M:YC w0 P ss ds sv rv xs s E br i n W):¬P br:=λh=>b2_ _ (M.Pbr br h)
def YC.lt(M:YC w0 P ss ds sv rv xs s E br i n W):br<W.heap.size:=Blk.lt M.R
def YC.call(M:YC w0 P ss ds sv rv xs s E br i n W)(h:yL W' br sv rv s i' n')(a:Fr W W' (· = br))(f:i'<=s.size):YC w0 P ss ds sv rv xs s E br i' n' W':=by
 have h1:=M.lt;have l:=M.brG;exact⟨h,M.D.fr a (λg hg e=>M.brP (e▸hg)),M.G.fr a M_ (λg e=>e▸M.brG),M.E1,M.E2,M.Pbr,M.brG,M.hs,f⟩
def YC.new(M:YC w0 P ss ds sv rv xs s E br i n W)(a:Fr W W' N_):YC w0 P ss ds sv rv xs s E br i n W':=M.call (a.bl M.R id) (a.mono v_) M.il
def YC.si(M:YC w0 P ss ds sv rv xs s E br i n W)(a:zw W W'):YC w0 P ss ds sv rv xs s E br i n W':=M.new ((A_ W _).si a)
def YC.err(M:YC w0 P ss ds sv rv xs s E br i n W):∀V,Fr W V (· = br)->vU V E.dt E.dx:=λV a=>by
 have h1:=M.lt;have f:=M.brG;exact(M.G.fr a M_ (λg e=>e▸M.brG)).err M.E1
def YC.big(M:YC w0 P ss ds sv rv xs s E br i n W):W.cell? ⟨5,0,none⟩=some (.iface E.bt E.bx):=M.G.err M.E2
end
def yk(env:Ay)(t:PT)(w:Aw)(sv rv:Ax)(s:BA)(E:jJ)(br:Nat)(res:Except Nat (DT×Nat×Nat))(e:Ah)(w':Aw):Prop:=
 ∃v ev,e=.returned (.tuple #[v,ev])/\Fr w w' (· = br)/\
 match res with
 | .ok (d,j,m)=>ev=.nilIface/\DaV env w' (λg=>w.heap.size<=g) d t v/\yL w' br sv rv s j m/\j<=s.size
 | .error e0=>v=.nilIface/\jp w' w.heap.size (E.t e0) (E.x e0) ev/\∃j m,yL w' br sv rv s j m/\j<=s.size
section
variable {env:Ay} {t:PT} {w w1 w' W:Aw} {sv rv:Ax} {s:BA} {E:jJ} {br j m:Nat} {d:DT} {v:Ax} {res:Except Nat (DT×Nat×Nat)} {e:Ah}
def yok(h:DaV env w' (λg=>w.heap.size<=g) d t v)(f:Fr w w' (· = br))(a:yL w' br sv rv s j m)(l:j<=s.size):yk env t w sv rv s E br (.ok (d,j,m)) (.returned (.tuple #[v,.nilIface])) w':=⟨v,_,rfl,f,rfl,h,a,l⟩
def cG(f:Fr w w' (· = br))(a:∃j m,yL w' br sv rv s j m/\j<=s.size):yk env t w sv rv s E br (.error 6) (.returned (.tuple #[.nilIface,.iface E.dt E.dx])) w':=⟨_,_,rfl,f,rfl,.base,a⟩
def cq35_{p:Prop}(h:p:=by
 obtain⟨v,ev,he,a,hm⟩:=h;have hz:=hf.size;(first|(have:=cc1;refine⟨v,ev,he,hf.trans a u_,?_⟩)|(refine⟨v,ev,he,(hf.mono v_).trans a u_,?_⟩));cases res with
 |error e0=>exact⟨hm.1,hm.2.1.ls hz,hm.2.2⟩
 |ok q=>
  obtain⟨d,j,m⟩:=q;exact⟨hm.1,hm.2.1.mono (λg _ hg=>M_),hm.2.2⟩):p:=h
def yk.pre(hf:Fr w w1 N_)(h:yk env t w1 sv rv s E br res e w'):yk env t w sv rv s E br res e w':=by
 exact cq35_
end
def rF(w0:Aw)(P:Au)(ss:BA)(ds:Ar)(sv rv:Ax)(xs:Az)(s:BA)(E:jJ)(br f:Nat)(t:PT)(i n:Nat):Prop:=
 ∀(w:World) (v:Value),YC w0 P ss ds sv rv xs s E br i n w->n<=300->TyV w P t v->
  Calls prog 33 #[P_ br,v] w (yk (zx ds) t w sv rv s E br (rdB s (zx ds) f t i n))
section
variable {w0 w:Aw} {P:Au} {ss:BA} {ds:Ar} {sv rv:Ax} {xs:Az} {s:BA} {E:jJ} {br i n:Nat} {env:Ay} {t:PT}
def aH(M:YC w0 P ss ds sv rv xs s E br i n w):Calls prog 82 #[P_ br] w (yk env t w sv rv s E br (if i<s.size/\bt s i<=1 then .ok (.mk 116 (bt s i:Int) noB [] [],i+1,n) else .error 6)):=by
 refine hq_ λz f=>?_;have r:=M.il;have y:=M.hs;by_cases hl:i=s.size
 .have g:=zy (iQ M.R hl (M.err w (A_ _ _)));rw[n_ M_]at f;go_in;go_wp2_with (go_at_call 124;apply g.o.mono;rintro e w1 ⟨rfl,h1,a⟩;replace h1:=zy h1;replace a:=zy a);try go_ret
  rw[f.o];exact cG a ⟨i,n,h1,r⟩
 .have h:i<s.size:=M_;have g:=dC M.R y h;obtain⟨c,hc⟩:=x_ (bt s i);rw[hc]at g f;have p:=zy M.err;replace g:=zy g;by_cases l:c<=1
  .have q:¬(c:Int) > 1:=M_;rw[i_ ⟨h,l⟩]at f;have r:c=0\/c=1:=M_;rcases r with rfl|rfl;all_goals
    go_in;go_wp2_with (go_at_call 124;apply g.o.mono;rintro e w1 ⟨rfl,h1,a⟩;replace h1:=zy h1;replace a:=zy a);try go_ret
    rw[f.o]
   .exact yok (J_ (.truth false) D_) a h1 h
   .exact yok (J_ (.truth true) D_) a h1 h
  .have q:(c:Int) > 1:=M_;rw[n_ (λx=>l x.2)]at f;go_in;go_wp2_with (go_at_call 124;apply g.o.mono;rintro e w1 ⟨rfl,h1,a⟩;have g:=p.o w1 a;unfold vU at g;replace h1:=zy h1;replace a:=zy a);go_quiet (fail);go_wp2;try go_ret
   rw[f.o];exact cG (a.o.si (zw.drewN _ _)) ⟨_,n,h1.o.si (zw.drewN _ _),h⟩
def pP{lo up:Int}(hc:c=105\/c=108)(M:YC w0 P ss ds sv rv xs s E br i n w):Calls prog 83 #[P_ br,Z_ lo,Z_ up] w (yk env t w sv rv s E br (match vu s lo up i with|none=>.error 6|some (q,j)=>.ok (.mk c q noB [] [],j,n))):=by
 refine hq_ λl g=>?_;have a:=gv (lo:=lo) (up:=up) M.R M.hs M.il M.err;cases hb:vu s lo up i with
 |none=>
  rw[hb]at a g;replace a:=zy a;go_in;go_wp2_with (go_at_call 125;apply a.o.mono;rintro e w1 ⟨f,rfl,j,h,h1⟩;replace f:=zy f;replace h1:=zy h1);try go_ret
  rw[g.o];exact cG f ⟨j,n,h1,h⟩
 |some q=>
  obtain⟨v,j⟩:=q;have hg:=yU hb;rw[hb]at a g;replace a:=zy a;go_in;go_wp2_with (go_at_call 125;apply a.o.mono;rintro e w1 ⟨f,rfl,h,h1⟩;replace f:=zy f;replace h1:=zy h1);try go_ret
  rw[g.o];exact yok (J_ (.num c v hc hg.2.2.2.2.1 hg.2.2.2.2.2) D_) f h1 h
def YJ(M:YC w0 P ss ds sv rv xs s E br i n w):Calls prog 84 #[P_ br] w (yk env t w sv rv s E br (match xn s i with|none=>.error 6|some (tx,j)=>.ok (.mk 115 0 tx [] [],j,n))):=by
 refine hq_ λl g=>?_;have a:=cF M.R M.hs M.il M.err;have l:=M.hs;cases hb:xn s i with
 |none=>
  rw[hb]at a g;replace a:=zy a;go_in;go_wp2_with (go_at_call 126;apply a.o.mono;rintro e w1 ⟨f,rfl,j,h,h1⟩;replace f:=zy f;replace h1:=zy h1);try go_ret
  rw[g.o];exact cG f ⟨j,n,h1,h⟩
 |some q=>
  obtain⟨tx,j⟩:=q;have hg:=ko hb;rw[hb]at a g;replace a:=zy a;go_in;go_wp2_with (go_at_call 126;apply a.o.mono;rintro e w1 ⟨f,rfl,h,h1⟩;replace f:=zy f;replace h1:=zy h1);try go_ret
  rw[g.o];exact yok (J_ (.text tx M_) D_) f h1 h
end
end Go.Proofs.YtahhhgbojlkjnaaGreatDoor
