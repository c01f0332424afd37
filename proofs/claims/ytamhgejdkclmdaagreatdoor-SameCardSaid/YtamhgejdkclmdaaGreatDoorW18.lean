import Derived.Test.YtamhgejdkclmdaaGreatDoorW17
import Derived.Laws.BitsAllLaws
import Derived.Laws.Shifts
import Derived.Lib.ConvBytes
set_option maxHeartbeats 16000000
set_option maxRecDepth 100000
set_option linter.defProp false
set_option linter.unusedSimpArgs false
set_option linter.unusedVariables false
open Go.Proofs.Tryz
namespace Go.Proofs.YtamhgejdkclmdaaGreatDoor
open Go.RowKit
set_option maxRecDepth 100000
set_option linter.defProp false
variable {c k lc:Nat}{Y:Ah}{la:Al}
@[go_sem]def Pm:=yH 139 64
@[go_sem]def Bw:=vm 139 64 (.agg #[])
section
variable {w0 w:Aw} {env:Au} {m:Nat} {P:Az} {B:Nat} {u:Ax} {b:BA} {t:PT}
def Yq(hB:B<=w.heap.size)(hu:yi w B u b)(hs:b.size+8022<=90000000):Calls prog 33 #[u,.iface 139 (.agg #[])] w (yY w B (b++txT env (.mk 110 0 noB [] []) t)):=by
 refine hq_ λa a=>?_;have g:txT env (.mk 110 0 noB [] []) t=bts [78]:=by
  conv=>lhs;unfold txT
  rw[i_ rfl]
 have A:Fr w (w.alloc (.cells #[] 139)) N_:=(A_ w _).alloc _;have p:=zy (yi.fr hu A u_);have hz:=A.size;replace A:=zy A;go_in;go_wp2_with (at_builtin;refine qx rfl _ _ rfl 78 rfl D_ p M_ M_ x8_ rfl rfl ?_;intro p p f h);try go_ret
 rw[a.o,g];exact⟨_,rfl,f,(FrU.of A).trans h⟩
def KI{c:Ar}(hB:B<=w.heap.size)(hu:yi w B u b)(hs:b.size+8022<=90000000):Calls prog 33 #[u,.iface 140 (.bool c)] w (yY w B (b++txT env (.mk 116 (if c=true then 1 else 0) noB [] []) t)):=by
 refine hq_ λf a=>?_;have g:txT env (.mk 116 (if c=true then 1 else 0) noB [] []) t=(if c=true then bts [84] else bts [70]):=by
  conv=>lhs;unfold txT
  rw[n_ D_,i_ rfl];cases c<;>rfl
 have f:=zy (Um (t:=c) hu hB M_);go_in;go_wp2_with (go_at_call 55;apply f.o.mono;rintro e w1 h1;replace h1:=zy h1;obtain⟨f,rfl,_⟩:=h1.o);try go_ret
 rw[a.o,g];exact h1
def Uf(a:xC w0){n:Int}(hc:c=105\/c=108)(q : -9223372036854775808<=n)(r:n<=9223372036854775807)(h0:w0.heap.size<=B)(hB:B<=w.heap.size)(f:yy w0 w)(hu:yi w B u b)(hs:b.size+8022<=90000000):Calls prog 33 #[u,.iface 142 (Z_ n)] w (yY w B (b++txT env (.mk c n noB [] []) t)):=by
 refine hq_ λh g=>?_;have p:txT env (.mk c n noB [] []) t=vF n:=by
  conv=>lhs;unfold txT
  rw[n_ M_,n_ M_,i_ M_]
 have h:=zy (a w B h0 hB f u b n q r hu M_);go_in;go_wp2_with (go_at_call 56;apply h.o.mono;rintro e w1 h1;replace h1:=zy h1;obtain⟨a,rfl,_⟩:=h1.o);try go_ret
 rw[g.o,p];exact h1
def Fi{tx:BA}(h:tx.size<=4000)(hB:B<=w.heap.size)(hu:yi w B u b)(hs:b.size+8022<=90000000):Calls prog 33 #[u,.iface 144 (.string tx)] w (yY w B (b++txT env (.mk 115 0 tx [] []) t)):=by
 refine hq_ λf a=>?_;have g:txT env (.mk 115 0 tx [] []) t=bts [34]++(tx++bts [34]):=by
  conv=>lhs;unfold txT
  rw[n_ D_,n_ D_,n_ D_,i_ rfl]
 have f:=zy (XM (c:=34) (y:=34) rfl D_ h hu hB M_);go_in;go_wp2_with (go_at_call 57;apply f.o.mono;rintro e w1 h1;replace h1:=zy h1;obtain⟨f,rfl,_⟩:=h1.o);try go_ret
 rw[a.o,g];exact h1
def KE{tx:BA}(h:tx.size<=4000)(hB:B<=w.heap.size)(hu:yi w B u b)(hs:b.size+8022<=90000000):Calls prog 33 #[u,.iface 158 (.string tx)] w (yY w B (b++txT env (.mk 102 0 tx [] []) t)):=by
 refine hq_ λf a=>?_;have g:txT env (.mk 102 0 tx [] []) t=bts [39]++(tx++bts [39]):=by
  conv=>lhs;unfold txT
  rw[n_ D_,n_ D_,n_ D_,n_ D_,i_ rfl]
 have f:=zy (XM (c:=39) (y:=39) rfl D_ h hu hB M_);go_in;go_wp2_with (go_at_call 57;apply f.o.mono;rintro e w1 h1;replace h1:=zy h1;obtain⟨f,rfl,_⟩:=h1.o);try go_ret
 rw[a.o,g];exact h1
def Ug{n l:Nat}(hl:fW env t n=l)(p:l<256)(hB:B<=w.heap.size)(hu:yi w B u b)(hs:b.size+8022<=90000000):Calls prog 33 #[u,.iface 157 (.agg #[.int .u8 (l:Int),.int .i64 (n:Int)])] w (yY w B (b++txT env (.mk 101 (n:Int) noB [] []) t)):=by
 refine hq_ λr a=>?_;have g:txT env (.mk 101 (n:Int) noB [] []) t=bts [l]:=by
  conv=>lhs;unfold txT
  rw[if_neg D_,if_neg D_,if_neg D_,if_neg D_,if_neg D_,if_pos rfl,bs_,hl]
 have A:Fr w (w.alloc (.cells #[.int .u8 (l:Int),.int .i64 (n:Int)] 157)) (λ_=>False):=(A_ w _).alloc _;have q:=zy (yi.fr hu A u_);have hz:=A.size;replace A:=zy A;clear hu hl;go_in;go_wp2_with (at_builtin;refine qx rfl _ _ rfl l rfl p q.o M_ M_ x8_ rfl rfl ?_;intro x y f h);try go_ret
 rw[a.o,g];exact⟨_,rfl,f,(FrU.of A.o).trans h⟩
def cq27_{p:Prop}(h:p:=by
 refine hq_ λq g=>?_;(first|(have:=cc1;refine have f:txT env (.mk 114 0 noB [] ds) t=bts [40]++(jn 0 (vU env t 0 0 false [] ds)++bts [41]):=?_;?_)|(have:=cc2;refine have f:txT env (.mk 123 0 noB ks ds) t=bts [123]++(jn 0 (vU env t 0 0 true ks ds)++bts [125]):=?_;?_)|(refine have f:txT env (.mk 91 0 noB [] ds) t=bts [91]++(jn 0 (vU env t 0 0 false [] ds)++bts [93]):=?_;?_))
 .conv=>lhs;unfold txT
  rw[n_ D_,n_ D_,n_ D_,n_ D_,n_ D_,n_ D_,n_ D_];rfl
 (first|(have:=cc1;have a:=zy (MF ih (t:=t) (o:=40) (c:=41) (y:=40) (z:=41) rfl rfl D_ D_ hm hP h0 hB hG hu hs ho hl hd))|(have:=cc2;have a:=zy (Cm ih (t:=t) hm hP h0 hB hG hu hs hk ho hl hd))|(have a:=zy (MF ih (t:=t) (o:=91) (c:=93) (y:=91) (z:=93) rfl rfl D_ D_ hm hP h0 hB hG hu hs ho hl hd)));(first|(have:=cc2;clear ih hP hu ho hl hd hG hk)|(clear ih hP hu ho hl hd hG));go_in;go_wp2_with ((first|go_at_call 58|go_at_call 59);apply a.o.mono;rintro e w1 h1;replace h1:=zy h1;obtain⟨r,rfl,_⟩:=h1.o);try go_ret
 rw[g.o,f];exact h1.o):p:=h
def Fa(ih:Zf w0 env m){ds:Ae}(hm:zY ds<=m)(hP:∀g,P g->g<B)(h0:w0.heap.size<=B)(hB:B<=w.heap.size)(hG:yy w0 w)(hu:yi w B u b)(hs:b.size+8022*(1+zY ds)<=90000000)(ho:w.ownsRow 0 64 1 (.slice la ds.length lc) ds.length ((List.range ds.length).flatMap λi=>[Y i]))(hl:∀g,(Value.slice la ds.length lc).ownBlock=some g->P g)(hd:∀i d,ds[i]?=some d->DaV env w P d (zD env t 0 i) (Y i)):Calls prog 33 #[u,.iface 147 (.slice la ds.length lc)] w (yY w B (b++txT env (.mk 91 0 noB [] ds) t)):=by
 exact cq27_
def Fe(ih:Zf w0 env m){ds:Ae}(hm:zY ds<=m)(hP:∀g,P g->g<B)(h0:w0.heap.size<=B)(hB:B<=w.heap.size)(hG:yy w0 w)(hu:yi w B u b)(hs:b.size+8022*(1+zY ds)<=90000000)(ho:w.ownsRow 0 64 1 (.slice la ds.length lc) ds.length ((List.range ds.length).flatMap λi=>[Y i]))(hl:∀g,(Value.slice la ds.length lc).ownBlock=some g->P g)(hd:∀i d,ds[i]?=some d->DaV env w P d (zD env t 0 i) (Y i)):Calls prog 33 #[u,.iface 155 (.slice la ds.length lc)] w (yY w B (b++txT env (.mk 114 0 noB [] ds) t)):=by
 have cc1:=Nat
 exact cq27_
def Up(ih:Zf w0 env m){ks:Dx}{ds:Ae}(hm:zY ds<=m)(hP:∀g,P g->g<B)(h0:w0.heap.size<=B)(hB:B<=w.heap.size)(hG:yy w0 w)(hu:yi w B u b)(hs:b.size+8022*(1+zY ds)<=90000000)(hk:∀k∈ks,k.size<=4000)(ho:w.ownsRow 0 206 2 (.slice la ds.length lc) ds.length ((List.range ds.length).flatMap λi=>[.string (ks.getD i noB),Y i]))(hl:∀g,(Value.slice la ds.length lc).ownBlock=some g->P g)(hd:∀i d,ds[i]?=some d->DaV env w P d (zD env t 0 i) (Y i)):Calls prog 33 #[u,.iface 150 (.slice la ds.length lc)] w (yY w B (b++txT env (.mk 123 0 noB ks ds) t)):=by
 have cc2:=Nat
 exact cq27_
def Jq(p:Zf w0 env m)(a:xC w0){n:Nat}(hn:n<=4000){d:DT}{v:Ax}(hm:ndT d<=m)(hv:DaV env w P d (zD env t n 0) v)(hP:∀g,P g->g<B)(h0:w0.heap.size<=B)(hB:B<=w.heap.size)(h:yy w0 w)(hu:yi w B u b)(hs:b.size+8022*(1+ndT d)<=90000000):Calls prog 33 #[u,.iface 153 (.agg #[I_ n,v])] w (yY w B (b++txT env (.mk 40 (n:Int) noB [] [d]) t)):=by
 refine hq_ λr q=>?_;have y:True:=trivial;obtain⟨T,x,rfl⟩:=hv.iface;have A:Fr w (w.alloc (.cells #[I_ n,.iface T x] 153)) N_:=(A_ w _).alloc _;have hz:=A.size;have r:=zy (FK p a hn hm (hv.fr A u_) hP h0 M_ (h.fr A M_ (λg f=>f.elim)) (yi.fr hu A u_) hs);replace A:=zy A
 go_in;go_wp2_with (go_at_call 60;apply r.o.mono;rintro e w1 h1;replace h1:=zy h1;obtain⟨a,rfl,_⟩:=h1.o);try go_ret
 rw[q.o];exact h1.o.pre (FrU.of A)
def Ub(f:xC w0):∀m,Zf w0 env m:=by
 intro m;induction m with
 |zero=>intro d h;obtain⟨_,_,_,_,_⟩:=d;unfold ndT at h;omega
 |succ m ih=>
  intro d hm w P B t v u b hv hP h0 hB a hu hs;cases hv with
  |flat h hsy=>
   have g:1<=ndT d:=by obtain⟨_,_,_,_,_⟩:=d;unfold ndT;omega
   cases h with
   |nothing=>exact Yq hB hu M_
   |truth b=>exact KI hB hu M_
   |num c n hc i0 i1=>exact Uf f hc i0 i1 h0 hB a hu M_
   |text tx h=>exact Fi h hB hu M_
   |bytes tx h=>exact KE h hB hu M_
   |sym n l h=>exact Ug (hsy n l rfl).1 (hsy n l rfl).2 hB hu M_
  |branch n h hd=>
   unfold ndT at hm hs;simp only[zY,b3_]at hm hs;exact Jq ih f h M_ hd hP h0 hB a hu hs
  |row Y hc ho hl hd=>
   unfold ndT at hm hs;obtain⟨la,lc,rfl⟩:=zw ho;rcases hc with⟨rfl,rfl⟩|⟨rfl,rfl⟩
   .exact Fa ih M_ hP h0 hB a hu hs ho hl hd
   .exact Fe ih M_ hP h0 hB a hu hs ho hl hd
  |map Y hl hk ho hl2 hd=>
   unfold ndT at hm hs;obtain⟨la,lc,rfl⟩:=zw ho;exact Up ih M_ hP h0 hB a hu hs hk ho hl2 hd
def fO(p:xC w0){d:DT}{v:Ax}(hv:DaV env w P d t v)(hk:w0.heap.size<=w.heap.size)(q:yy w0 w)(hs:8022*ndT d<=90000000):Calls prog 18 #[v] w λe w'=>e=.returned (.string (txT env d t))/\Fr w w' N_:=by
 refine hq_ λa r=>?_;obtain⟨T,x,rfl⟩:=hv.iface;have a:=Ub p (ndT d) d l_ w (λg=>P g/\g<w.heap.size) w.heap.size t _ (L_) noB (hv.mono (λg h1 y=>⟨y,h1⟩)) (λg h=>h.2) hk l_ q (World.ownsRow_nil _ _ _ _) (by show 0+_<=_;omega);rw[bY]at a;replace a:=zy a;go_in;go_wp2_with (go_at_call 33;apply a.o.mono;rintro e w1 ⟨a,rfl,h1,f⟩;have a:=WE h1;replace f:=zy f;replace h1:=zy h1);try go_ret
 rw[r.o];exact⟨rfl,f.o.all.mono (λg hg e=>M_)⟩
end
def yP(w:Aw)(br:Nat)(sv rv:Ax)(s:BA)(i n:Nat):Prop:=Blk w br [sv,rv,.string s,I_ i,I_ n] 124
section
variable {w w':Aw} {br:Nat} {sv rv:Ax} {s:BA} {i n:Nat}
def yP.c0(h:yP w br sv rv s i n):w.cell? ⟨br,0,none⟩=some sv:=by rw[F_ h];rfl
def yP.c1(h:yP w br sv rv s i n):w.cell? ⟨br,1,none⟩=some rv:=by rw[F_ h];rfl
def yP.c2(h:yP w br sv rv s i n):w.cell? ⟨br,2,none⟩=some (.string s):=by rw[F_ h];rfl
def yP.c3(h:yP w br sv rv s i n):w.cell? ⟨br,3,none⟩=some (I_ i):=by rw[F_ h];rfl
def yP.c4(h:yP w br sv rv s i n):w.cell? ⟨br,4,none⟩=some (I_ n):=by rw[F_ h];rfl
def yP.th(h:yP w br sv rv s i n)(o:Nat):w.frozen? ⟨br,o,none⟩=false:=Blk.th h o
def yP.si(h:yP w br sv rv s i n)(hw:zq w w'):yP w' br sv rv s i n:=by obtain⟨n,rfl⟩:=hw;exact h
def yP.inc(h:yP w br sv rv s i n):yP (w.setCell ⟨br,3,none⟩ (Z_ ((i:Int)+1))) br sv rv s (i+1) n:=G_ h 3 _
def yP.move(h:yP w br sv rv s i n)(j:Nat):yP (w.setCell ⟨br,3,none⟩ (Z_ ((i:Int)+(j:Int)))) br sv rv s (i+j) n:=by
 have:=G_ h 3 (Z_ ((i:Int)+(j:Int)));unfold yP;exact this
def yP.node(h:yP w br sv rv s i n):yP (w.setCell ⟨br,4,none⟩ (Z_ ((n:Int)+1))) br sv rv s i (n+1):=G_ h 4 _
end
def vQ(w:Aw)(dt:Av)(dx:Ax):Prop:=w.cell? ⟨4,0,none⟩=some (.iface dt dx)
section
variable {w:Aw} {br:Nat} {sv rv:Ax} {s:BA} {i n:Nat} {dt:Av} {dx:Ax}
def tQ(h:yP w br sv rv s i n)(hs:s.size<=4000)(hl:i<s.size):Calls prog 149 #[P_ br] w λe w'=>e=.returned (.tuple #[.int .u8 (bt s i:Int),.nilIface])/\yP w' br sv rv s (i+1) n/\Fr w w' (· = br):=by
 refine hq_ λf a=>?_;have c2:=h.c2;have c3:=h.c3;have f3:=h.th 3;have f:((i:Int)==(s.size:Int))=false:=x1_
 have f:(i:Int)<(s.size:Int):=M_;obtain⟨x,hx⟩:=x_ (bt s i);have f:((s[i]'hl).toNat:Int)=(x:Int):=by rw[<- hx,vH s i hl]
 rw[hx]at a;replace hx:=zy hx;replace h:=zy h;go_in;go_wp2;go_quiet (fail);go_wp2;go_quiet (fail);go_wp2;try go_ret
 rw[a.o];refine⟨rfl,?_,?_⟩
 .exact((h.o.si (zq.drewN _ _)).inc).si (zq.drewN _ _)
 .exact(((A_ w (· = br)).si (zq.drewN _ _)).setCell _ _ (λ_=>rfl)).si (zq.drewN _ _)
def eG(h:yP w br sv rv s i n)(hl:i=s.size)(f:vQ w dt dx):Calls prog 149 #[P_ br] w λe w'=>e=.returned (.tuple #[.int .u8 0,.iface dt dx])/\yP w' br sv rv s i n/\Fr w w' (· = br):=by
 refine hq_ λa a=>?_;have c2:=h.c2;have c3:=h.c3;have g:((i:Int)==(s.size:Int))=true:=x1_
 have he:=f;unfold vQ at he;replace hl:=zy hl;replace h:=zy h;go_in;go_wp2;go_quiet (fail);go_wp2;go_quiet (fail);go_wp2;try go_ret
 rw[a.o];exact⟨rfl,h.o.si ((zq.drewN _ _).trans (zq.drewN _ _)),(A_ w _).si ((zq.drewN _ _).trans (zq.drewN _ _))⟩
end
def Fo{m:Nat}(h:m<9223372036854775808):bits .xor .i64 (-1) (m:Int) = -(m:Int)-1:=by
 have e:bits .xor .i64 (-1) (m:Int)=IntKind.i64.wrap ((BitVec.ofInt 64 (-1) ^^^ BitVec.ofInt 64 (m:Int)).toNat:Int):=rfl;have a:BitVec.ofInt 64 (-1)=BitVec.allOnes 64:=D_;rw[e,a,BitVec.allOnes_xor,BitVec.toNat_not,BitVec.toNat_ofInt];have:(((m:Int) % ((2 ^ 64:Nat):Int)).toNat:Int)=(m:Int):=M_;simp only[IntKind.wrap,IntKind.bits,IntKind.signed];simp;omega
def lz{w:Aw}{z:Nat}(hz:z<18446744073709551616):Calls prog 200 #[.int .u64 (z:Int)] w λe w'=>e=.returned (Z_ (fN z))/\w'=w:=by
 refine hq_ λg a=>?_;have hc:IntKind.i64.wrap ((z:Int) / 2)=((z / 2:Nat):Int):=by
  simp only[IntKind.wrap,IntKind.bits,IntKind.signed];simp;omega
 by_cases h1:z % 2=1
 .have f:(z:Int) % 2=1:=M_;have hx:=Fo (m:=z / 2) M_;go_in;go_wp2;try go_ret
  rw[a.o];unfold fN;rw[i_ h1];refine⟨?_,rfl⟩
  congr 2
 .have f:¬(z:Int) % 2=1:=M_;go_in;go_wp2;try go_ret
  rw[a.o];unfold fN;rw[n_ h1];refine⟨?_,rfl⟩
  congr 2
def Qi(w:Aw)(br:Nat)(sv rv:Ax)(s:BA)(n:Nat)(dt:Av)(dx:Ax)(r:Option (Int×Nat))(e:Ak)(w':Aw):Prop:=
 Fr w w' (· = br)/\match r with
 |some (v,j)=>e=.returned (.tuple #[Z_ v,.nilIface])/\j<=s.size/\yP w' br sv rv s j n
 |none=>e=.returned (.tuple #[O_,.iface dt dx])/\∃j,j<=s.size/\yP w' br sv rv s j n
def iC(lo hi:Int):Option (Nat×Nat)->Option (Int×Nat)
 |none=>none
 |some (z,j)=>if z<18446744073709551616/\lo<=fN z/\fN z<=hi then some (fN z,j) else none
def Gk(s:BA)(lo hi:Int)(i:Nat):qp s lo hi i=iC lo hi (uR s i 0 0):=by
 rw[JX];unfold qp bL iC;cases wB s 10 i with
 |none=>rfl
 |some q=>
  obtain⟨z,j⟩:=q;simp only;by_cases h:z<18446744073709551616
  .rw[i_ h];simp only;by_cases a:lo<=fN z/\fN z<=hi
   .rw[i_ a,i_ ⟨h,a⟩]
   .rw[n_ a,n_ (λx=>a x.2)]
  .rw[n_ h,n_ (λx=>h x.1)]
def Ma(k:Nat):(2:Int) ^ (7*k)=((128 ^ k:Nat):Int):=by
 rw[show(128:Nat)=2 ^ 7 from rfl,<- Nat.pow_mul,Int.natCast_pow];rfl
def BH{a:Nat}(hk:k<=9)(hb:¬(k=9/\2<=c % 128))(f:a<128 ^ k):∃X:Nat,X=c % 128*128 ^ k/\a+X<18446744073709551616/\IntKind.u64.wrap ((c:Int) % 128*2 ^ (7*k))=(X:Int)/\(X:Int) / 2 ^ (7*k)=(c:Int) % 128/\bits .or .u64 (a:Int) (X:Int)=((a+X:Nat):Int):=by
 have hp:=BO k;have o:a+c % 128*128 ^ k<18446744073709551616:=by
  by_cases h:k=9
  .subst h;have:c % 128<=1:=M_;have:=b6_ (128 ^ 9) this;omega
  .have h1:=VH (k:=k) M_;have a:c % 128*128 ^ k<=127*128 ^ k:=b6_ _ M_;have a:128 ^ (k+1)=128 ^ k*128:=Nat.pow_succ 128 k;omega
 have g:(c:Int) % 128*2 ^ (7*k)=((c % 128*128 ^ k:Nat):Int):=by rw[Ma,Int.natCast_mul];rfl
 refine⟨_,rfl,o,?_,?_,?_⟩
 .rw[g,IntKind.wrap_u64];omega
 .rw[Ma,<- Int.natCast_ediv,Nat.mul_div_cancel _ hp];rfl
 .rw[u64_or_nat _ _ M_ M_]
  congr 1
  rw[show(128:Nat)=2 ^ 7 from rfl,<- Nat.pow_mul,bi_ (c % 2 ^ 7)];rw[show(128:Nat)=2 ^ 7 from rfl,<- Nat.pow_mul]at f;rw[Nat.or_comm,<- Nat.two_pow_add_eq_or_of_lt f,Nat.add_comm]
def VW(hc:2<=c % 128):(IntKind.u64.wrap ((c:Int) % 128*9223372036854775808) / 9223372036854775808 != (c:Int) % 128)=true:=by
 rw[IntKind.wrap_u64];simp;omega
def GA{x:Int}(hk:10<=k):Op.shift .shl .u64 x .i64 (7*(k:Int))=pure (.int .u64 0):=by
 rw[shift_shl_any _ _ _ _ M_,show min (7*(k:Int)).toNat (IntKind.u64).bits=64 by show min _ 64=64;omega,IntKind.wrap_u64]
 congr 2
 omega
def GE:Op.shift .shr .u64 0 .i64 (7*(k:Int))=pure (.int .u64 0):=by
 rw[shift_shr_any _ _ _ _ M_];simp
def Bd(R_:Option (Int×Nat))(lo up:Int)(w:Aw)(br:Nat)(sv rv:Ax)(s:BA)(i n:Nat)(q:Nat)(v8 v9:Ax)(W:Aw):Prop:=
 ∃k acc:Nat,v8=.int .u64 (acc:Int)/\v9=Z_ ((7*k:Nat):Int)/\i+k<=s.size/\s.size+1-(i+k)<=q/\acc<18446744073709551616/\H_ (yP W br sv rv s (i+k) n/\Fr w W (· = br))/\
  ((k<=9/\acc<128 ^ k/\R_=iC lo up (uR s i k acc))\/(10<=k/\R_=none))
def wU{w:Aw}{br:Nat}{sv rv:Ax}{s:BA}{i n:Nat}{dt:Av}{dx:Ax}{lo up:Int}(h:yP w br sv rv s i n)(hs:s.size<=4000)(hi:i<=s.size)(A:∀W,Fr w W (· = br)->vQ W dt dx):Calls prog 150 #[P_ br,Z_ lo,Z_ up] w (Qi w br sv rv s n dt dx (qp s lo up i)):=by
 refine hq_ λb7 F=>?_;rw[Gk]at F;obtain⟨H,Q⟩:=e_ (iC lo up (uR s i 0 0));rw[<- Q]at F;have start:H_ (Bd H lo up w br sv rv s i n (s.size+1) (.int .u64 0) (O_) w):=zy ⟨0,0,rfl,rfl,M_,M_,M_,zy ⟨h,A_ _ _⟩,.inl ⟨M_,M_,Q⟩⟩;replace Q:=zy Q;replace A:=zy A;clear h;go_in;go_wp2;go_loopg [8,9,10,11,12] (s.size+1) (λq v8 v9 d8 d9 e0 W=>Bd H lo up w br sv rv s i n q v8 v9 W);case atStart=>exact start
 case round=>
  clear start;obtain⟨k,G,rfl,rfl,b5,hq,a1,g,a0⟩:=hrel;by_cases b4:i+k=s.size
  .have y:=zy (eG g.o.1 b4 (A.o _ g.o.2));have hr:=zy (show H=none by
    rcases a0 with⟨L,_,h⟩|⟨_,h⟩
    .rw[h,Wh L M_];rfl
    .exact h)
   clear a0;go_wp2_with (go_at_call 149;apply y.o.mono;rintro e w1 ⟨rfl,h1,a⟩;replace h1:=zy h1;replace a:=zy a);try go_ret
   rw[F.o,hr.o];exact⟨g.o.2.trans a u_,rfl,_,b5,h1⟩
  .have D:i+k<s.size:=M_;obtain⟨c,hc⟩:=x_ (bt s (i+k));have y:=tQ g.o.1 hs D;rw[hc]at y;replace y:=zy y;have b9:c<256:=by have:=fC s (i+k);omega
   rcases a0 with⟨L,N,C⟩|⟨a8,C⟩
   .by_cases O:k=9/\2<=c % 128
    .obtain⟨rfl,a9⟩:=O;have T:=VW a9;have hr:=zy (show H=none by
      rw[C]
      by_cases h1:c<128
      .rw[ng M_ D M_,hc,n_ (λx=>M_)]
       unfold iC
       simp only
       rw[n_ (λx=>by
        have h2:=Nat.mul_le_mul_left (128 ^ 9) (show 2<=c by omega)
        have h3:128 ^ 9*2=18446744073709551616:=D_
        omega)]
      .rw[nk M_ D M_,i_ rfl]
       rfl)
     clear C N hc;go_wp2_with (go_at_call 149;apply y.o.mono;rintro e w1 ⟨rfl,h1,a⟩;have p:=A.o w1 (g.o.2.trans a u_);unfold vQ at p;replace h1:=zy h1;replace a:=zy a);go_quiet (fail);go_wp2;try go_ret
     rw[F.o,hr.o];exact⟨(g.o.2.trans a u_).si (zq.drewN _ _),rfl,_,D,h1.o.si (zq.drewN _ _)⟩
    .obtain⟨X,R,S,hX,T,hO⟩:=BH L O N;have b8:(((X:Int) / 2 ^ (7*k)) != (c:Int) % 128)=false:=by rw[T];simp
     have d6:7*k<=63:=M_;replace R:=zy R;replace T:=zy T;by_cases a5:c<128
     .have a3:¬(c:Int)≥128:=M_;have hm:c % 128=c:=Nat.mod_eq_of_lt a5;have M:H=iC lo up (if c=0/\0<k then none else some (G+X,i+k+1)):=by
       rw[C,ng L D M_,hc,R.o,hm,bi_ c]
      obtain⟨u,hu⟩:=x_ (fN (G+X));have z:=λ(w:World)=>lz (w:=w) S;rw[hu]at z;replace z:=zy z;replace hu:=zy hu;obtain⟨Z,U⟩:∃Z:Nat,Z=G+X:=⟨_,rfl⟩;rw[<- U]at hO z S M;rw[<- U]at hu;replace U:=zy U;by_cases I:(lo<=u/\u<=up)/\¬(c=0/\0<k)
      .have hr:=zy (show H=some (u,i+k+1) by rw[M,n_ I.2];unfold iC;simp only;rw[hu.o,i_ ⟨S,I.1⟩]);obtain⟨⟨J,a4⟩,hz⟩:=I;have a7:u≥lo:=J;clear C M N hc O hm;by_cases V:c=0
       .have a2:¬(c:Int) > 0:=M_;have a6:(7*(k:Int)==0)=true:=x1_
        replace hz:=zy hz;replace V:=zy V;go_wp2_with (first
         |(go_at_call 149;apply y.o.mono;rintro e w1 ⟨rfl,h1,a⟩;have p:=A.o w1 (g.o.2.trans a u_);unfold vQ at p;replace h1:=zy h1;replace a:=zy a)
         |(go_at_call 200;apply(z.o _).mono;rintro e K ⟨rfl,f⟩;replace f:=f.symm;subst f))
        try go_ret
        rw[F.o,hr.o];exact⟨g.o.2.trans a u_,rfl,D,h1⟩
       .have a2:(c:Int) > 0:=M_;replace hz:=zy hz;replace V:=zy V;go_wp2_with (first
         |(go_at_call 149;apply y.o.mono;rintro e w1 ⟨rfl,h1,a⟩;have p:=A.o w1 (g.o.2.trans a u_);unfold vQ at p;replace h1:=zy h1;replace a:=zy a)
         |(go_at_call 200;apply(z.o _).mono;rintro e K ⟨rfl,f⟩;replace f:=f.symm;subst f))
        try go_ret
        rw[F.o,hr.o];exact⟨g.o.2.trans a u_,rfl,D,h1⟩
      .have hr:=zy (show H=none by
        rw[M]
        by_cases hz:c=0/\0<k
        .rw[i_ hz]
         rfl
        .rw[n_ hz]
         unfold iC
         simp only
         rw[hu.o,n_ (λx=>I ⟨x.2,hz⟩)])
       clear C M N hc O hm;by_cases J:lo<=u
       .have a7:u≥lo:=J;by_cases a4:u<=up
        .have hz:c=0/\0<k:=Classical.not_not.1 (λx=>I ⟨⟨J,a4⟩,x⟩);have a2:¬(c:Int) > 0:=M_;have a6:(7*(k:Int)==0)=false:=x1_
         have d7:0<k:=hz.2;replace hz:=zy hz;clear I;go_wp2_with (first
          |(go_at_call 149;apply y.o.mono;rintro e w1 ⟨rfl,h1,a⟩;have p:=A.o w1 (g.o.2.trans a u_);unfold vQ at p;replace h1:=zy h1;replace a:=zy a)
          |(go_at_call 200;apply(z.o _).mono;rintro e K ⟨rfl,f⟩;replace f:=f.symm;subst f))
         all_goals first
          |(exfalso;omega)
          |(go_quiet (fail)
            go_wp2
            try go_ret
            rw[F.o,hr.o]
            exact⟨(g.o.2.trans a u_).si (zq.drewN _ _),rfl,_,D,h1.o.si (zq.drewN _ _)⟩)
        .clear I;go_wp2_with (first
          |(go_at_call 149;apply y.o.mono;rintro e w1 ⟨rfl,h1,a⟩;have p:=A.o w1 (g.o.2.trans a u_);unfold vQ at p;replace h1:=zy h1;replace a:=zy a)
          |(go_at_call 200;apply(z.o _).mono;rintro e K ⟨rfl,f⟩;replace f:=f.symm;subst f))
         go_quiet (fail);go_wp2;try go_ret
         rw[F.o,hr.o];exact⟨(g.o.2.trans a u_).si (zq.drewN _ _),rfl,_,D,h1.o.si (zq.drewN _ _)⟩
       .have a7:¬u≥lo:=J;clear I;go_wp2_with (first
         |(go_at_call 149;apply y.o.mono;rintro e w1 ⟨rfl,h1,a⟩;have p:=A.o w1 (g.o.2.trans a u_);unfold vQ at p;replace h1:=zy h1;replace a:=zy a)
         |(go_at_call 200;apply(z.o _).mono;rintro e K ⟨rfl,f⟩;replace f:=f.symm;subst f))
        go_quiet (fail);go_wp2;try go_ret
        rw[F.o,hr.o];exact⟨(g.o.2.trans a u_).si (zq.drewN _ _),rfl,_,D,h1.o.si (zq.drewN _ _)⟩
     .have a3:(c:Int)≥128:=M_;have b6:=zy (show k+1<=9/\G+X<128 ^ (k+1)/\H=iC lo up (uR s i (k+1) (G+X))\/10<=k+1/\H=none by
       rw[C,nk L D M_,hc]
       by_cases V:k=9
       .right
        rw[i_ V]
        exact⟨M_,rfl⟩
       .left
        have h3:128 ^ (k+1)=128 ^ k*128:=Nat.pow_succ 128 k
        have h2:c % 128*128 ^ k<=127*128 ^ k:=b6_ _ M_
        rw[n_ V,R.o,show c-128=c % 128 by omega,bi_ (128 ^ k)]
        exact⟨M_,M_,rfl⟩)
      clear C N hc O;go_wp2_with (go_at_call 149;apply y.o.mono;rintro e w1 ⟨rfl,h1,a⟩;have p:=A.o w1 (g.o.2.trans a u_);unfold vQ at p;replace h1:=zy h1;replace a:=zy a);go_roundg (s.size+1-(i+(k+1)));case measure=>omega
      case rel=>
       refine⟨k+1,G+X,rfl,?_,M_,l_,S,zy ⟨h1,g.o.2.trans a u_⟩,b6⟩
       congr 1
   .have U:=GA (x:=(c:Int) % 128) a8;have g2:=GE (k:=k);have d2:k<=4000:=M_;by_cases I:c % 128=0
    .have M:((0:Int) != (c:Int) % 128)=false:=x1_
     have hO:bits .or .u64 (G:Int) 0=(G:Int):=by have:=u64_or_nat G 0 a1 D_;simpa using this
     by_cases a5:c<128
     .have a3:¬(c:Int)≥128:=M_;have a2:¬(c:Int) > 0:=M_;have a6:(7*(k:Int)==0)=false:=x1_
      obtain⟨u,hu⟩:=x_ (fN G);have z:=λ(w:World)=>lz (w:=w) a1;rw[hu]at z;replace z:=zy z;have hr:=zy C;clear hu C hc I;by_cases J:u≥lo
      .by_cases a4:u<=up;all_goals
        go_wp2_with (first
         |(go_at_call 149;apply y.o.mono;rintro e w1 ⟨rfl,h1,a⟩;have p:=A.o w1 (g.o.2.trans a u_);unfold vQ at p;replace h1:=zy h1;replace a:=zy a)
         |(go_at_call 200;apply(z.o _).mono;rintro e K ⟨rfl,f⟩;replace f:=f.symm;subst f))
        all_goals first
         |(exfalso;omega)
         |(go_quiet (fail)
           go_wp2
           try go_ret
           rw[F.o,hr.o]
           exact⟨(g.o.2.trans a u_).si (zq.drewN _ _),rfl,_,D,h1.o.si (zq.drewN _ _)⟩)
      .go_wp2_with (first
        |(go_at_call 149;apply y.o.mono;rintro e w1 ⟨rfl,h1,a⟩;have p:=A.o w1 (g.o.2.trans a u_);unfold vQ at p;replace h1:=zy h1;replace a:=zy a)
        |(go_at_call 200;apply(z.o _).mono;rintro e K ⟨rfl,f⟩;replace f:=f.symm;subst f))
       all_goals first
        |(exfalso;omega)
        |(go_quiet (fail)
          go_wp2
          try go_ret
          rw[F.o,hr.o]
          exact⟨(g.o.2.trans a u_).si (zq.drewN _ _),rfl,_,D,h1.o.si (zq.drewN _ _)⟩)
     .have a3:(c:Int)≥128:=M_;have hr:=zy C;clear C hc I;go_wp2_with (go_at_call 149;apply y.o.mono;rintro e w1 ⟨rfl,h1,a⟩;have p:=A.o w1 (g.o.2.trans a u_);unfold vQ at p;replace h1:=zy h1;replace a:=zy a);go_roundg (s.size+1-(i+(k+1)));case measure=>omega
      case rel=>
       refine⟨k+1,G,rfl,?_,M_,l_,a1,zy ⟨h1,g.o.2.trans a u_⟩,.inr ⟨M_,hr⟩⟩
       congr 1
    .have M:((0:Int) != (c:Int) % 128)=true:=x1_
     have hr:=zy C;clear C hc I;go_wp2_with (go_at_call 149;apply y.o.mono;rintro e w1 ⟨rfl,h1,a⟩;have p:=A.o w1 (g.o.2.trans a u_);unfold vQ at p;replace h1:=zy h1;replace a:=zy a);go_quiet (fail);go_wp2;try go_ret
     rw[F.o,hr.o];exact⟨(g.o.2.trans a u_).si (zq.drewN _ _),rfl,_,D,h1.o.si (zq.drewN _ _)⟩
section
variable {w:Aw} {br:Nat} {sv rv:Ax} {s:BA} {i n:Nat} {dt:Av} {dx:Ax}
def fR(h:yP w br sv rv s i n)(hs:s.size<=4000)(hi:i<=s.size)(p:∀W,Fr w W (· = br)->vQ W dt dx):Calls prog 152 #[P_ br] w (Qi w br sv rv s n dt dx (gQ s i)):=by
 refine hq_ λr g=>?_;have a:=wU (lo:=0) (up:=9223372036854775807) h hs hi p;cases hb:qp s 0 9223372036854775807 i with
 |none=>
  rw[hb]at a;have hr:=zy (show gQ s i=none from hb);replace a:=zy a;go_in;go_wp2_with (go_at_call 150;apply a.o.mono;rintro e w1 ⟨f,rfl,hm⟩;replace f:=zy f;replace hm:=zy hm);try go_ret
  rw[g.o,hr.o];exact⟨f,rfl,hm⟩
 |some q=>
  obtain⟨v,j⟩:=q;rw[hb]at a;have hr:=zy (show gQ s i=some (v,j) from hb);replace a:=zy a;go_in;go_wp2_with (go_at_call 150;apply a.o.mono;rintro e w1 ⟨f,rfl,hm⟩;replace f:=zy f;replace hm:=zy hm);try go_ret
  rw[g.o,hr.o];exact⟨f,rfl,hm⟩
def mp{m:Nat}(p:m<=4000)(h:yP w br sv rv s i n)(hs:s.size<=4000)(hi:i<=s.size)(p:∀W,Fr w W (· = br)->vQ W dt dx):Calls prog 155 #[P_ br,I_ m] w (Qi w br sv rv s n dt dx (qp s 0 ((m:Int)-1) i)):=by
 refine hq_ λr g=>?_;have a:=wU (lo:=0) (up:=(m:Int)-1) h hs hi p;cases hb:qp s 0 ((m:Int)-1) i with
 |none=>
  rw[hb]at a;have hr:=zy hb;replace a:=zy a;go_in;go_wp2_with (go_at_call 150;apply a.o.mono;rintro e w1 ⟨f,rfl,hm⟩;replace f:=zy f;replace hm:=zy hm);try go_ret
  rw[g.o,hr.o];exact⟨f,rfl,hm⟩
 |some q=>
  obtain⟨v,j⟩:=q;have hg:=yS hb;rw[hb]at a;have hr:=zy hb;replace a:=zy a;go_in;go_wp2_with (go_at_call 150;apply a.o.mono;rintro e w1 ⟨f,rfl,hm⟩;replace f:=zy f;replace hm:=zy hm);try go_ret
  rw[g.o,hr.o];exact⟨f,rfl,hm⟩
def PK(w:Aw)(br:Nat)(sv rv:Ax)(s:BA)(n:Nat)(dt:Av)(dx:Ax)(r:Option (BA×Nat))(e:Ak)(w':Aw):Prop:=
 Fr w w' (· = br)/\match r with
 |some (tx,j)=>e=.returned (.tuple #[.string tx,.nilIface])/\j<=s.size/\yP w' br sv rv s j n
 |none=>e=.returned (.tuple #[.string noB,.iface dt dx])/\∃j,j<=s.size/\yP w' br sv rv s j n
end
def iR{s:BA}{i m:Nat}(hm:i+m<=s.size)(hk:k<m):((s.extract i (i+m)).data.toList.getD k 0).toNat=bt s (i+k):=by
 have hz:i+k<s.data.toList.length:=by rw[Array.length_toList];show i+k<s.size;omega
 rw[vH s (i+k) M_];simp[List.getD,ByteArray.data_extract];rw[List.getElem?_take_of_lt hk,List.getElem?_drop,ak_ hz];rfl
def Cv(w:Aw)(br:Nat)(sv rv:Ax)(s:BA)(i n m:Nat)(bb:Nat)(q:Nat)(v48:Ax)(W:Aw):Prop:=
 ∃k:Nat,v48=I_ k/\k<=m/\m+1-k<=q/\i+k<=ze s i/\H_ (yP W br sv rv s (i+m) n/\Fr w W (· = br))/\H_ (∀q,q<m->W.cell? ⟨bb,q,none⟩=some (.int .u8 (bt s (i+q):Int)))
def pM{w:Aw}{br:Nat}{sv rv:Ax}{s:BA}{i n:Nat}{dt:Av}{dx:Ax}{m:Nat}(h:yP w br sv rv s i n)(hs:s.size<=4000)(hi:i<=s.size)(hm:m<=9223372036854775807)(r:∀W,Fr w W (· = br)->vQ W dt dx):Calls prog 158 #[P_ br,I_ m] w (PK w br sv rv s n dt dx (je s i m)):=by
 refine hq_ λa0 D=>?_;have c2:=h.c2;have c3:=h.c3;have f3:=h.th 3;have he:=r w (A_ _ _);unfold vQ at he;have a5:=rg hi;by_cases a1:s.size<i+m
 .have hr:=zy (show je s i m=none by unfold je;rw[n_ M_]);have N:(m:Int) > (s.size:Int)-(i:Int):=M_;replace h:=zy h;replace r:=zy r;go_in;go_wp2;go_quiet (fail);go_wp2;go_quiet (fail);go_wp2;try go_ret
  rw[D.o,hr.o];exact⟨(A_ w (· = br)).si ((zq.drewN _ _).trans (zq.drewN _ _)),rfl,i,hi,h.o.si ((zq.drewN _ _).trans (zq.drewN _ _))⟩
 .have N:¬(m:Int) > (s.size:Int)-(i:Int):=M_;have a6:m<=4000:=M_;have a2:(i:Int)<=(i:Int)+(m:Int):=M_;have a3:(i:Int)+(m:Int)<=(s.size:Int):=M_;obtain⟨tx,C⟩:=x_ (s.extract i (i+m));have L:tx.size=m:=by rw[<- C,bk_];omega
  have H:=zy (show ∀q,q<m->(tx.data.toList.getD q 0).toNat=bt s (i+q) from λq z=>by rw[<- C];exact iR M_ z);have hv:=λ(W:World)=>Lib.run_convert_string_bytes (P:=prog) W 9 102 5 tx pR eH underlying5;have A:=zy (show ∀a f,yP (Lib.bytesWorld (((w.drewN a).setCell ⟨br,3,none⟩ (Z_ ((i:Int)+(m:Int)))).drewN f) 5 tx) br sv rv s (i+m) n/\Fr w (Lib.bytesWorld (((w.drewN a).setCell ⟨br,3,none⟩ (Z_ ((i:Int)+(m:Int)))).drewN f) 5 tx) (· = br)/\∀q,q<m->(Lib.bytesWorld (((w.drewN a).setCell ⟨br,3,none⟩ (Z_ ((i:Int)+(m:Int)))).drewN f) 5 tx).cell? ⟨w.heap.size,q,none⟩=some (.int .u8 (bt s (i+q):Int)) from λa f=>by
   have y:(((w.drewN a).setCell ⟨br,3,none⟩ (Z_ ((i:Int)+(m:Int)))).drewN f).heap.size=w.heap.size:=by simp[World.setCell,World.drewN]
   have h1:yP (((w.drewN a).setCell ⟨br,3,none⟩ (Z_ ((i:Int)+(m:Int)))).drewN f) br sv rv s (i+m) n:=by
    exact((h.si (zq.drewN w a)).move m).si (zq.drewN _ f)
   have M:Fr w (((w.drewN a).setCell ⟨br,3,none⟩ (Z_ ((i:Int)+(m:Int)))).drewN f) (· = br):=(((A_ w (· = br)).si (zq.drewN _ _)).setCell _ _ (λ_=>rfl)).si (zq.drewN _ _)
   generalize ((w.drewN a).setCell ⟨br,3,none⟩ (Z_ ((i:Int)+(m:Int)))).drewN f=V at *
   have G:Fr V (Lib.bytesWorld V 5 tx) N_:=⟨rfl,rfl,rfl,by rw[Lib.bytesWorld_size];omega,λk hk _=>Lib.bytesWorld_at_old V _ tx k hk⟩
   refine⟨G.bl h1 id,M.trans G v_,λq z=>?_⟩
   rw[<- y,Lib.bytesWorld_cell V _ tx q M_,H.o q z])
  replace h:=zy h;replace r:=zy r;clear he;go_in;go_wp2;go_quiet (fail);go_wp2;go_quiet (fail);go_wp2;go_loopg [9,48] (m+1) (λq v9 Z W=>Cv w br sv rv s i n m w.heap.size q Z W);case atStart=>exact⟨0,rfl,M_,M_,jG s i,zy ⟨(A.o _ _).1,(A.o _ _).2.1⟩,zy (A.o _ _).2.2⟩
  case round=>
   clear A H hv;obtain⟨k,rfl,a4,z,F,p,I⟩:=hrel;have K:=zy C;have a7:=zy L;clear C L c2 c3 f3;by_cases Q:k=m
   .subst Q;have T:¬(k:Int)<(k:Int):=M_;have hr:=zy (show je s i k=some (tx,i+k) by unfold je;rw[i_ F,K.o]);go_wp2;try go_ret
    rw[D.o,hr.o];exact⟨p.o.2,by rw[K.o],M_,p.o.1⟩
   .have S:k<m:=M_;have T:(k:Int)<(m:Int):=M_;have hc:=I.o k S;obtain⟨c,g⟩:=x_ (bt s (i+k));rw[g]at hc;by_cases J:97<=c/\c<=122
    .have U:¬(c:Int)<97:=M_;have X:¬(c:Int) > 122:=M_;have R:i+(k+1)<=ze s i:=by
      rw[<- mQ F];unfold ze;rw[gS M_ (by rw[g];exact J)];exact jG s (i+k+1)
     replace g:=zy g;go_wp2;go_roundg (m+1-(k+1));case measure=>omega
     case rel=>exact⟨k+1,by simp,M_,l_,R,p,I⟩
    .have hr:=zy (show je s i m=none by
      unfold je
      rw[n_ (λx=>by
       have y:=mQ F
       unfold ze at y x
       rw[vN (by rw[g];exact J)]at y
       omega)])
     have O:=r.o _ p.o.2;unfold vQ at O;replace g:=zy g;by_cases U:(c:Int)<97;all_goals (try have X:(c:Int) > 122:=by omega)
     all_goals
      go_wp2;go_quiet (fail);go_wp2;try go_ret
      rw[D.o,hr.o];exact⟨p.o.2.si (zq.drewN _ _),rfl,_,M_,p.o.1.si (zq.drewN _ _)⟩
def cwcI1_{p:Prop}(h:p:=by
 (try have:=cc1;obtain⟨tx,j2⟩:=q)
 rw[ht]at hT hr;replace hT:=zy hT;replace hr:=zy hr;clear ht;go_in;go_wp2_with (first
  |(go_at_call 152;apply hC.o.mono;rintro e w1 ⟨hf1,rfl,hj1,h1⟩;replace hf1:=zy hf1;replace h1:=zy h1)
  |(go_at_call 158;apply(hT.o _ h1.o hf1.o).mono;rintro e w2 ⟨hf2,rfl,hm⟩;replace hf2:=zy hf2;replace hm:=zy hm))
 try go_ret
 rw[Q_.o,hr.o];exact⟨hf1.o.trans hf2.o u_,rfl,hm.o⟩):p:=h
def cI{w:Aw}{br:Nat}{sv rv:Ax}{s:BA}{i n:Nat}{dt:Av}{dx:Ax}(h:yP w br sv rv s i n)(hs:s.size<=4000)(hi:i<=s.size)(a:∀W,Fr w W (· = br)->vQ W dt dx):Calls prog 151 #[P_ br] w (PK w br sv rv s n dt dx (vM s i)):=by
 refine hq_ λf Q_=>?_;have hC:=fR h hs hi a;replace a:=zy a;cases hb:gQ s i with
 |none=>
  rw[hb]at hC;have hr:=zy (show vM s i=none by unfold vM;rw[hb]);replace hC:=zy hC;go_in;go_wp2_with (go_at_call 152;apply hC.o.mono;rintro e w1 ⟨hf1,rfl,hm⟩;replace hf1:=zy hf1;replace hm:=zy hm);try go_ret
  rw[Q_.o,hr.o];exact⟨hf1,rfl,hm⟩
 |some q=>
  obtain⟨v,j⟩:=q;have hg:=yS hb;obtain⟨m,rfl⟩:∃m:Nat,v=(m:Int):=⟨v.toNat,M_⟩;rw[hb]at hC;have hr:vM s i=je s j m:=by unfold vM;rw[hb];simp only[bs_]
  have hT:=λ(W:World) (h:yP W br sv rv s j n) (hf:Fr w W (· = br))=>pM (m:=m) (dt:=dt) (dx:=dx) h hs hg.2.1 M_ (λV f=>a.o V (hf.trans f u_));replace hC:=zy hC;cases ht:je s j m with
  |none=>
   exact cwcI1_
  |some q=>
   have cc1:=Nat;exact cwcI1_
structure ja where
 dt:TypeId
 dx:Value
 bt:TypeId
 bx:Value
def ja.t(E:ja)(e:Nat):TypeId:=if e=7 then E.bt else E.dt
def ja.x(E:ja)(e:Nat):Value:=if e=7 then E.bx else E.dx
structure YC(w0:Aw)(P:Az)(ss:BA)(ds:Aq)(sv rv:Ax)(xs:Ay)(s:BA)(E:ja)(br i n:Nat)(W:Aw):Prop where
 R:yP W br sv rv s i n
 D:yC W P ss ds sv xs
 G:yy w0 W
 E1:vw 4 w0 E.dt E.dx
 E2:vw 5 w0 E.bt E.bx
 Pbr:∀g,P g->g<br
 brG:w0.heap.size<=br
 hs:s.size<=4000
 il:i<=s.size
section
variable {w0 W W':Aw} {P:Az} {ss:BA} {ds:Aq} {sv rv:Ax} {xs:Ay} {s:BA} {E:ja} {br i n i' n':Nat}
def YC.brP(M:YC w0 P ss ds sv rv xs s E br i n W):¬P br:=λh=>a5_ _ (M.Pbr br h)
def YC.lt(M:YC w0 P ss ds sv rv xs s E br i n W):br<W.heap.size:=Blk.lt M.R
def YC.call(M:YC w0 P ss ds sv rv xs s E br i n W)(h:yP W' br sv rv s i' n')(hf:Fr W W' (· = br))(hi:i'<=s.size):YC w0 P ss ds sv rv xs s E br i' n' W':=by
 have h1:=M.lt;have a:=M.brG;exact⟨h,M.D.fr hf (λg hg e=>M.brP (e▸hg)),M.G.fr hf M_ (λg e=>e▸M.brG),M.E1,M.E2,M.Pbr,M.brG,M.hs,hi⟩
def YC.new(M:YC w0 P ss ds sv rv xs s E br i n W)(hf:Fr W W' N_):YC w0 P ss ds sv rv xs s E br i n W':=M.call (hf.bl M.R id) (hf.mono v_) M.il
def YC.si(M:YC w0 P ss ds sv rv xs s E br i n W)(hf:zq W W'):YC w0 P ss ds sv rv xs s E br i n W':=M.new ((A_ W _).si hf)
def YC.err(M:YC w0 P ss ds sv rv xs s E br i n W):∀V,Fr W V (· = br)->vQ V E.dt E.dx:=λV a=>by
 have h1:=M.lt;have f:=M.brG;exact(M.G.fr a M_ (λg e=>e▸M.brG)).err M.E1
def YC.big(M:YC w0 P ss ds sv rv xs s E br i n W):W.cell? ⟨5,0,none⟩=some (.iface E.bt E.bx):=M.G.err M.E2
end
def yx(env:Au)(t:PT)(w:Aw)(sv rv:Ax)(s:BA)(E:ja)(br:Nat)(res:Except Nat (DT×Nat×Nat))(e:Ak)(w':Aw):Prop:=
 ∃v ev,e=.returned (.tuple #[v,ev])/\Fr w w' (· = br)/\
 match res with
 | .ok (d,j,m)=>ev=.nilIface/\DaV env w' (λg=>w.heap.size<=g) d t v/\yP w' br sv rv s j m/\j<=s.size
 | .error e0=>v=.nilIface/\jv w' w.heap.size (E.t e0) (E.x e0) ev/\∃j m,yP w' br sv rv s j m/\j<=s.size
section
variable {env:Au} {t:PT} {w w1 w' W:Aw} {sv rv:Ax} {s:BA} {E:ja} {br j m:Nat} {d:DT} {v:Ax} {res:Except Nat (DT×Nat×Nat)} {e:Ak}
def yok(h:DaV env w' (λg=>w.heap.size<=g) d t v)(hf:Fr w w' (· = br))(a:yP w' br sv rv s j m)(f:j<=s.size):yx env t w sv rv s E br (.ok (d,j,m)) (.returned (.tuple #[v,.nilIface])) w':=⟨v,_,rfl,hf,rfl,h,a,f⟩
def cS(hf:Fr w w' (· = br))(a:∃j m,yP w' br sv rv s j m/\j<=s.size):yx env t w sv rv s E br (.error 6) (.returned (.tuple #[.nilIface,.iface E.dt E.dx])) w':=⟨_,_,rfl,hf,rfl,.base,a⟩
def cq31_{p:Prop}(h:p:=by
 obtain⟨v,a,he,f,hm⟩:=h;have hz:=hf.size;(first|(have:=cc1;refine⟨v,a,he,hf.trans f u_,?_⟩)|(refine⟨v,a,he,(hf.mono v_).trans f u_,?_⟩));cases res with
 |error e0=>exact⟨hm.1,hm.2.1.ls hz,hm.2.2⟩
 |ok q=>
  obtain⟨d,j,m⟩:=q;exact⟨hm.1,hm.2.1.mono (λg _ hg=>M_),hm.2.2⟩):p:=h
def yx.pre(hf:Fr w w1 N_)(h:yx env t w1 sv rv s E br res e w'):yx env t w sv rv s E br res e w':=by
 exact cq31_
end
def de(w0:Aw)(P:Az)(ss:BA)(ds:Aq)(sv rv:Ax)(xs:Ay)(s:BA)(E:ja)(br f:Nat)(t:PT)(i n:Nat):Prop:=
 ∀(w:World) (v:Value),YC w0 P ss ds sv rv xs s E br i n w->n<=300->TyV w P t v->
  Calls prog 45 #[P_ br,v] w (yx (zx ds) t w sv rv s E br (rdB s (zx ds) f t i n))
section
variable {w0 w:Aw} {P:Az} {ss:BA} {ds:Aq} {sv rv:Ax} {xs:Ay} {s:BA} {E:ja} {br i n:Nat} {env:Au} {t:PT}
def Zm(M:YC w0 P ss ds sv rv xs s E br i n w):Calls prog 109 #[P_ br] w (yx env t w sv rv s E br (if i<s.size/\bt s i<=1 then .ok (.mk 116 (bt s i:Int) noB [] [],i+1,n) else .error 6)):=by
 refine hq_ λA f=>?_;have y:=M.il;have z:=M.hs;by_cases hl:i=s.size
 .have g:=zy (eG M.R hl (M.err w (A_ _ _)));rw[n_ M_]at f;go_in;go_wp2_with (go_at_call 149;apply g.o.mono;rintro e w1 ⟨rfl,h1,a⟩;replace h1:=zy h1;replace a:=zy a);try go_ret
  rw[f.o];exact cS a ⟨i,n,h1,y⟩
 .have h:i<s.size:=M_;have g:=tQ M.R z h;obtain⟨c,hc⟩:=x_ (bt s i);rw[hc]at g f;have q:=zy M.err;replace g:=zy g;by_cases p:c<=1
  .have r:¬(c:Int) > 1:=M_;rw[i_ ⟨h,p⟩]at f;have y:c=0\/c=1:=M_;rcases y with rfl|rfl;all_goals
    go_in;go_wp2_with (go_at_call 149;apply g.o.mono;rintro e w1 ⟨rfl,h1,a⟩;replace h1:=zy h1;replace a:=zy a);try go_ret
    rw[f.o]
   .exact yok (W_ (.truth false) D_) a h1 h
   .exact yok (W_ (.truth true) D_) a h1 h
  .have r:(c:Int) > 1:=M_;rw[n_ (λx=>p x.2)]at f;go_in;go_wp2_with (go_at_call 149;apply g.o.mono;rintro e w1 ⟨rfl,h1,a⟩;have g:=q.o w1 a;unfold vQ at g;replace h1:=zy h1;replace a:=zy a);go_quiet (fail);go_wp2;try go_ret
   rw[f.o];exact cS (a.o.si (zq.drewN _ _)) ⟨_,n,h1.o.si (zq.drewN _ _),h⟩
def pU{lo up:Int}(hc:c=105\/c=108)(M:YC w0 P ss ds sv rv xs s E br i n w):Calls prog 110 #[P_ br,Z_ lo,Z_ up] w (yx env t w sv rv s E br (match qp s lo up i with|none=>.error 6|some (q,j)=>.ok (.mk c q noB [] [],j,n))):=by
 refine hq_ λp g=>?_;have a:=wU (lo:=lo) (up:=up) M.R M.hs M.il M.err;cases hb:qp s lo up i with
 |none=>
  rw[hb]at a g;replace a:=zy a;go_in;go_wp2_with (go_at_call 150;apply a.o.mono;rintro e w1 ⟨f,rfl,j,h,h1⟩;replace f:=zy f;replace h1:=zy h1);try go_ret
  rw[g.o];exact cS f ⟨j,n,h1,h⟩
 |some q=>
  obtain⟨v,j⟩:=q;have hg:=yS hb;rw[hb]at a g;replace a:=zy a;go_in;go_wp2_with (go_at_call 150;apply a.o.mono;rintro e w1 ⟨f,rfl,h,h1⟩;replace f:=zy f;replace h1:=zy h1);try go_ret
  rw[g.o];exact yok (W_ (.num c v hc hg.2.2.2.2.1 hg.2.2.2.2.2) D_) f h1 h
def Vh(M:YC w0 P ss ds sv rv xs s E br i n w):Calls prog 111 #[P_ br] w (yx env t w sv rv s E br (match vM s i with|none=>.error 6|some (tx,j)=>.ok (.mk 115 0 tx [] [],j,n))):=by
 refine hq_ λp g=>?_;have a:=cI M.R M.hs M.il M.err;have p:=M.hs;cases hb:vM s i with
 |none=>
  rw[hb]at a g;replace a:=zy a;go_in;go_wp2_with (go_at_call 151;apply a.o.mono;rintro e w1 ⟨f,rfl,j,h,h1⟩;replace f:=zy f;replace h1:=zy h1);try go_ret
  rw[g.o];exact cS f ⟨j,n,h1,h⟩
 |some q=>
  obtain⟨tx,j⟩:=q;have hg:=kz hb;rw[hb]at a g;replace a:=zy a;go_in;go_wp2_with (go_at_call 151;apply a.o.mono;rintro e w1 ⟨f,rfl,h,h1⟩;replace f:=zy f;replace h1:=zy h1);try go_ret
  rw[g.o];exact yok (W_ (.text tx M_) D_) f h1 h
end
structure YL(w0:Aw)(P:Az)(ss:BA)(ds:Aq)(sv rv:Ax)(xs:Ay)(s:BA)(E:ja)(br j nn:Nat)(cx:Ay)(ct:Av)(t:PT)(w:Aw)(lv:Ax)(l:Ae)(W:Aw):Prop where
 M:YC w0 P ss ds sv rv xs s E br j nn W
 fr:Fr w W (· = br)
 bx:Blk W w.heap.size cx ct
 bB:w.heap.size+1<=W.heap.size
 lt:br<w.heap.size
 row:jX (zx ds) W (w.heap.size+1) (λg=>w.heap.size+1<=g/\lv.ownBlock≠some g) t lv l
section
variable {w0 w W W':Aw} {P:Az} {ss:BA} {ds:Aq} {sv rv:Ax} {xs:Ay} {s:BA} {E:ja} {br i n j nn j' nn':Nat} {cx:Ay} {ct:Av} {t:PT} {lv:Ax} {l:Ae}
def YL.call(Q:YL w0 P ss ds sv rv xs s E br j nn cx ct t w lv l W)(h:yP W' br sv rv s j' nn')(hf:Fr W W' (· = br))(o:j'<=s.size):YL w0 P ss ds sv rv xs s E br j' nn' cx ct t w lv l W':=by
 have h1:=Q.lt;have f:=Q.bB;refine⟨Q.M.call h hf o,Q.fr.trans hf u_,hf.bl Q.bx M_,aj_ f hf.size,h1,Q.row.fr hf (λg hg=>M_) (λg hg=>?_)⟩;obtain⟨Y,a,_⟩:=Q.row;have:=a.lt g hg;omega
def YL.item(Q:YL w0 P ss ds sv rv xs s E br j nn cx ct t w lv l W){o:Obj}{p:Aw}{f v:Ax}{d:DT}(y:∀i d,l[i]?=some d->DaV (zx ds) W (λg=>w.heap.size+1<=g/\lv.ownBlock≠some g) d (zD (zx ds) t 0 i) (Y i))(hd:DaV (zx ds) W (λg=>w.heap.size+1<=g/\lv.ownBlock≠some g) d (zD (zx ds) t 0 l.length) v)(hg:(W.alloc o).grownBy p lv.ownBlock)(ho:p.ownsRow (w.heap.size+1) 64 1 f (l.length+1) (((List.range l.length).flatMap λi=>[Y i])++[v]))(hl:f.ownBlock=lv.ownBlock\/f.ownBlock=some (W.alloc o).heap.size):YL w0 P ss ds sv rv xs s E br j nn cx ct t w f (l++[d]) p:=by
 have h1:=Q.lt;have q:=Q.bB;have f:(W.alloc o).heap.size=W.heap.size+1:=x8_
 obtain⟨f,a,_⟩:=Q.row;have f:Fr W p (λg=>lv.ownBlock=some g):=((A_ W _).alloc o).gw hg (λk e _=>e);have h:∀g,lv.ownBlock=some g->w.heap.size+1<=g:=λg e=>(a.lt g e).1;have r:YC w0 P ss ds sv rv xs s E br j nn p:=by
  have hb:=Q.M.brG;exact⟨f.bl Q.M.R (λe=>by have:=h _ e;omega),Q.M.D.fr f (λg hg e=>by have:=h _ e;have:=Q.M.Pbr g hg;omega),Q.M.G.fr f M_ (λg e=>by have:=h _ e;omega),Q.M.E1,Q.M.E2,Q.M.Pbr,Q.M.brG,Q.M.hs,Q.M.il⟩
 refine⟨r,Q.fr.trans f (λx hx e=>absurd (h x e) M_),f.bl Q.bx (λe=>by have:=h _ e;omega),aj_ q f.size,h1,jX.grow y hd (f.mono (λg _ e=>.inl e)) (c:=br) M_ ?_ ho⟩;rcases hl with e|e
 .exact .inl e
 .exact .inr ⟨_,e,M_⟩
end
def Bo(R_:Except Nat (List (BA×DT)×Nat×Nat))(R:Nat->Nat->Except Nat (DT×Nat×Nat))(cnt n:Nat)(w0:Aw)(P:Az)(ss:BA)(ds:Aq)(sv rv:Ax)(xs:Ay)(s:BA)(E:ja)(br:Nat)(cx:Ay)(ct:Av)(t:PT)(w:Aw)(q:Nat)(v8 v20:Ax)(W:Aw):Prop:=
 ∃(acc:List (BA×DT)) (j nn:Nat),v20=I_ acc.length/\acc.length<=cnt/\n+acc.length<=nn/\nn<=300/\302<=q+nn/\H_ (YL w0 P ss ds sv rv xs s E br j nn cx ct t w v8 (acc.map Prod.snd) W)/\R_=gU acc (xy R s false (cnt-acc.length) (kB acc) j nn)
section
variable {w0 w:Aw} {P:Az} {ss:BA} {ds:Aq} {sv rv:Ax} {xs:Ay} {s:BA} {E:ja} {br i n:Nat}
def cwVr1_{p:Prop}(h:p:=by
 obtain⟨d,j1,m1⟩:=q;rw[hrd]at hres hC;(first|(have _:=cc1;have C:=qK s (zx ds) f g0.ty j nn d j1 m1 hQ.o.M.il hnn3 hrd)|(have C:=qK s (zx ds) f u j nn d j1 m1 hQ.o.M.il hnn3 hrd));have J:=zy hres;replace hC:=zy hC;(first|(have _:=cc1;have L:=zy (λi d (e:l[i]?=some d)=>(hY i d e).fr A1 u_);have z:=zy (zj hrow A1 u_))|(replace hY:=zy hY));replace hrow:=zy hrow;(first|(have _:=cc1;replace A1:=zy A1)|(have hL3:acc.length<=300:=M_));obtain⟨ti,F,G,H,I⟩:=info_parts qP;(first|(have _:=cc1;clear hres hY hd hmem)|(clear hres));go_wp2_with (first
  |(go_at_call 45;apply hC.o.mono;rintro e w1 ⟨v1,ev1,rfl,hf1,hv1,x,hR1,y⟩;subst hv1;obtain⟨dT,dx,rfl⟩:=x.iface;(first|(have _:=cc1;have a:=Q0.o.call hR1 hf1 y)|(have a:=hQ.o.call hR1 hf1 y));have hb1:=a.bB;(first|(have _:=cc1;have K:=zy (zj z.o hf1 (λg hg e=>by have:=z.o.lt g hg;omega)))|(have K:=zy (zj hrow.o hf1 (λg hg e=>by have:=hrow.o.lt g hg;omega))));(first|(have _:=cc1;have y:=zy (x.mono (Q:=λg=>w.heap.size+1<=g/\(Value.slice la l.length lc).ownBlock≠some g) (λg _ hg=>⟨by have:=hz1.o;omega,λe=>by have:=hrow.o.lt g e;have:=hz1.o;omega⟩)))|(have y:=zy (x.mono (Q:=λg=>w.heap.size+1<=g/\(Value.slice la acc.length lc).ownBlock≠some g) (λg _ hg=>⟨M_,λe=>by have:=hrow.o.lt g e;omega⟩))));(first|(have _:=cc1;have z:=zy (λi d (e:l[i]?=some d)=>(L.o i d e).fr hf1 (λg hg e=>by have:=hg.1;omega)))|(have z:=zy (λi d (e:(acc.map Prod.snd)[i]?=some d)=>(hY.o i d e).fr hf1 (λg hg e=>by have:=hg.1;omega))));replace a:=zy a;(first|(have _:=cc1;clear x hR1 hf1)|(clear x hR1)))
  |(at_builtin;go_must ((first|(have _:=cc1;refine wpList_append_own_at _ rfl _ _ 155 rfl (w.heap.size+1) 64 ti _ 1 16 Zn F G H I rfl D_ (.slice la l.length lc) l.length ((List.range l.length).flatMap λi=>[Y i]) rfl ?hown _ 1 1 [.iface dT dx] rfl rfl (zF _ #[.iface dT dx] _ _ ?nn) ?one ?b1 ?b2 ?b3 ?_)|(refine wpList_append_own_at _ rfl _ _ 147 rfl (w.heap.size+1) 64 ti _ 1 16 sP F G H I rfl D_ (.slice la acc.length lc) acc.length ((List.range acc.length).flatMap λi=>[Y i]) rfl ?hown _ 1 1 [.iface dT dx] rfl rfl (zF _ #[.iface dT dx] _ _ ?nn) ?one ?b1 ?b2 ?b3 ?_)))
    case hown=>exact World.ownsRow.alloc K.o _
    case nn=>simp
    case one=>simp[Value.oneCell']
    case b1=>unfold maxLen;omega
    case b2=>omega
    case b3=>simp;omega
    intro x x ho5 A N D
    (first|(have _:=cc1;have r:=a.o.item z.o (by rw[hsb.o];exact y.o) A ho5 D)|(have r:=a.o.item z.o y.o A zb_ D))
    obtain⟨a,a,rfl⟩:=zp ho5 M_
    clear A D N ho5
    replace r:=zy r))
 (first|(have _:=cc1;go_roundg (302-(l.length+1)))|(go_roundg (302-m1)));case measure=>omega
 case rel=>
  (first|(have _:=cc1;refine⟨l++[d],j1,m1,by simp,by simp;omega,M_,C.2.2.2,by simp;omega,r,?_⟩)|(refine⟨acc++[(noB,d)],j1,m1,by simp,by simp;omega,by simp;omega,C.2.2.2,M_,zy (by rw[bb_];exact r.o),?_⟩));(first|(have _:=cc1;rw[J.o,ah_,ap_])|(rw[J.o,ah_,ap_,show cnt-(acc.length+1)=cn by omega];(have:kB (acc++[(noB,d)])=some noB:=by simp[kB]);rw[this]))):p:=h
def cwVr2_{p:Prop}(h:p:=by
 rw[hrd]at hres hC;have hr:=zy hres;replace hC:=zy hC;(first|(have:=cc1;replace A1:=zy A1)|(have hL3:acc.length<=300:=M_));(first|(have:=cc1;clear hrow hY hres hd hmem)|(clear hrow hY hres));go_wp2_with (first
  |(go_at_call 45;apply hC.o.mono;rintro e w1 ⟨v1,ev1,rfl,hf1,hv1,a,hR1⟩;subst hv1;obtain⟨z,z,rfl⟩:=a.iface;(first|(have:=cc1;have z:=(hf1.bl N1.o M_).c1;have hz:=zy hf1.size)|(have z:=((hQ.o.M.call hR1.choose_spec.choose_spec.1 hf1 hR1.choose_spec.choose_spec.2)).G));replace a:=zy a;replace hf1:=zy hf1;replace hR1:=zy hR1)
  |((first|go_at_call 153|go_at_call 157);(first|(have:=cc1;apply(gn hls).mono)|(apply(pg hI z M_).mono));rintro e z y;(first|(have:=cc1;have x:=zy (λv (he:e=.returned v)=>a.o.wrap y yy_ he))|(have x:=zy (λv (he:e=.returned v)=>a.o.wrap y (by have:=hf1.o.size;omega) he)));obtain⟨a,a,rfl,a,a,r⟩:=y;replace r:=zy r;replace a:=zy a))
 try go_ret
 rw[Q_.o,hr.o];(first|(have:=cc1;refine⟨_,_,rfl,(Q0.o.fr.trans hf1.o u_).trans (r.o.mono v_) u_,rfl,(x.o _ rfl).ls (by have:=Q0.o.fr.size;omega),?_⟩)|(refine⟨_,_,rfl,(hQ.o.fr.trans hf1.o u_).trans (r.o.mono v_) u_,rfl,(x.o _ rfl).ls M_,?_⟩));obtain⟨j1,m1,h1,a⟩:=hR1.o;exact⟨j1,m1,r.o.bl h1 id,a⟩):p:=h
def Vr{u:PT}{p f:Nat}{pt:Int}{vT:Av}{vx:Ax}(hI:yg w0)(M:YC w0 P ss ds sv rv xs s E br i n w)(hn:n<=300)(F:TyV w P u (.iface vT vx))(D:∀j nn,n<=nn->nn<=300->j<=s.size->de w0 P ss ds sv rv xs s E br f u j nn):Calls prog 112 #[P_ br,.agg #[Z_ pt,.iface vT vx]] w (yx (zx ds) (.wrap 91 p u) w sv rv s E br (wQ (rdB s (zx ds) f u) s 91 i n)):=by
 refine hq_ λV Q_=>?_;rw[oO]at Q_;have a3:=M.hs;have K:=M.lt;have A:Fr w (w.alloc (.cells #[Z_ pt,.iface vT vx] 219)) N_:=(A_ w _).alloc _;have h:=M.new A;have z:=B_ w #[Z_ pt,.iface vT vx] 219;have hC:=fR h.R h.hs h.il h.err;have S:=M.brP;replace F:=zy F;replace D:=zy D;cases hb:gQ s i with
 |none=>
  rw[hb]at hC Q_;replace hC:=zy hC;replace A:=zy A;clear M h z hb;go_in;go_wp2_with (go_at_call 152;apply hC.o.mono;rintro e w1 ⟨hf1,rfl,j,I,h1⟩;replace hf1:=zy hf1;replace h1:=zy h1);try go_ret
  rw[Q_.o];exact cS ((A.o.mono v_).trans hf1 u_) ⟨j,n,h1,I⟩
 |some q=>
  obtain⟨v,G⟩:=q;have hg:=yS hb;obtain⟨cnt,rfl⟩:∃m:Nat,v=(m:Int):=⟨v.toNat,M_⟩;rw[hb]at hC Q_;simp only[bs_]at Q_;obtain⟨C,y⟩:=e_ (xy (rdB s (zx ds) f u) s false cnt none G n);rw[show((91:Nat)==123)=false from rfl,<- y]at Q_;have start:H_ (∀w1,yP w1 br sv rv s G n->Fr (w.alloc (.cells #[Z_ pt,.iface vT vx] 219)) w1 (· = br)->Bo C (rdB s (zx ds) f u) cnt n w0 P ss ds sv rv xs s E br [Z_ pt,.iface vT vx] 219 (.wrap 91 p u) w 302 (L_) (O_) w1):=zy (λw1 h1 x=>⟨[],G,n,rfl,by simp,by simp,hn,M_,zy ⟨h.call h1 x hg.2.1,(A.mono v_).trans x u_,x.bl z M_,by have:=x.size;simp at this;omega,K,jX.nil _ _ _ _ _⟩,by rw[rI,y];rfl⟩);replace hC:=zy hC;replace y:=zy y;have a0:(cnt:Int)<=9223372036854775807:=hg.2.2.2.1;clear M h z A hb;go_in;go_wp2_with (go_at_call 152;apply hC.o.mono;rintro e w1 ⟨hf1,rfl,I,h1⟩;have J:=zy (start.o w1 h1 hf1);clear hf1 h1);go_loopg [8,9,10,20] 302 (λq U v9 a4 T W=>Bo C (rdB s (zx ds) f u) cnt n w0 P ss ds sv rv xs s E br [Z_ pt,.iface vT vx] 219 (.wrap 91 p u) w q U T W);case atStart=>exact J
  case round=>
   clear start J hC;obtain⟨acc,j,nn,rfl,a1,a2,hnn3,hq,hQ,hres⟩:=hrel;obtain⟨Y,hrow,hY⟩:=hQ.o.row;obtain⟨la,lc,rfl⟩:=zw hrow;have hll:(acc.map Prod.snd).length=acc.length:=x8_
   rw[hll]at hrow hQ hY;by_cases N:acc.length=cnt
   .have Q:¬(acc.length:Int)<(cnt:Int):=M_;have hr:=zy (show C=.ok (acc,j,nn) by rw[hres,show cnt-acc.length=0 by omega];simp[xy,gU]);have H:=zy hQ.o.row;clear hres hrow hY hll N;go_wp2;try go_ret
    rw[Q_.o,hr.o];refine yok ?_ hQ.o.fr hQ.o.M.R hQ.o.M.il;exact H.o.dat (λg _ hg=>M_) (λg e=>by have:=H.o;obtain⟨_,a,_⟩:=this;have:=(a.lt g e).1;show w.heap.size<=g;omega) (.inl ⟨rfl,rfl⟩)
   .have Q:(acc.length:Int)<(cnt:Int):=M_;obtain⟨cn,L⟩:∃cn,cnt-acc.length=cn+1:=⟨cnt-acc.length-1,M_⟩;rw[L,cy]at hres;have O:pX s false (kB acc) j=some (noB,j):=by simp[pX]
    rw[O]at hres;simp only[oX]at hres;have Z:=hQ.o.bx.c1;have hC:=D.o j nn M_ hnn3 hQ.o.M.il wr _ hQ.o.M hnn3 (F.o.fr hQ.o.fr (λg hg e=>S (e▸hg)));have X:=hQ.o.bB;cases hrd:rdB s (zx ds) f u j nn with
    |error e0=>
     exact cwVr2_
    |ok q=>
     exact cwVr1_
end
end Go.Proofs.YtamhgejdkclmdaaGreatDoor
