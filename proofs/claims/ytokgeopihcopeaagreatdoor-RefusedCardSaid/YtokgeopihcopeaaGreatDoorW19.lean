import Derived.Test.YtokgeopihcopeaaGreatDoorW18
import Derived.Laws.BitsAllLaws
import Derived.Laws.Shifts
import Derived.Lib.ConvBytes
set_option linter.unusedVariables false
set_option maxHeartbeats 16000000
set_option maxRecDepth 100000
set_option linter.defProp false
set_option linter.unusedSimpArgs false
open Go.Proofs.Tryz
namespace Go.Proofs.YtokgeopihcopeaaGreatDoor
open Go.RowKit
set_option maxRecDepth 100000
set_option linter.defProp false
variable {pt:Int}{Y:Ai}{c lc k p f:Nat}{la:Am}{r:Int×Nat}
@[go_sem]def Pb:=yI 136 52
@[go_sem]def Bj:=vt 136 52 (.agg #[])
section
variable {w0 w:Aw} {env:Au} {m:Nat} {P:Az} {B:Nat} {u:Ax} {b:BA} {t:PT}
def Yv(hB:B<=w.heap.size)(hu:zG w B u b)(hs:b.size+8022<=90000000):Calls prog 31 #[u,.iface 136 (.agg #[])] w (yX w B (b++txT env (.mk 110 0 noB [] []) t)):=by
 refine hq_ λa a=>?_;have h:txT env (.mk 110 0 noB [] []) t=bts [78]:=by
  conv=>lhs;unfold txT
  rw[i_ rfl]
 have A:Fr w (w.alloc (.cells #[] 136)) N_:=(A_ w _).alloc _;have y:=zy (zG.fr hu A u_);have hz:=A.size;replace A:=zy A;go_in;go_wp2_with (at_builtin;refine qj rfl _ _ rfl 78 rfl D_ y M_ M_ x6_ rfl rfl ?_;intro y y g x);try go_ret
 rw[a.o,h];exact⟨_,rfl,g,(FrU.of A).trans x⟩
def KH{c:Aq}(hB:B<=w.heap.size)(hu:zG w B u b)(hs:b.size+8022<=90000000):Calls prog 31 #[u,.iface 137 (.bool c)] w (yX w B (b++txT env (.mk 116 (if c=true then 1 else 0) noB [] []) t)):=by
 refine hq_ λg a=>?_;have h:txT env (.mk 116 (if c=true then 1 else 0) noB [] []) t=(if c=true then bts [84] else bts [70]):=by
  conv=>lhs;unfold txT
  rw[n_ D_,i_ rfl];cases c<;>rfl
 have g:=zy (Ul (t:=c) hu hB M_);go_in;go_wp2_with (go_at_call 56;apply g.o.mono;rintro e w1 h1;replace h1:=zy h1;obtain⟨g,rfl,_⟩:=h1.o);try go_ret
 rw[a.o,h];exact h1
def Ub(a:jZ w0){n:Int}(hc:c=105\/c=108)(z : -9223372036854775808<=n)(A:n<=9223372036854775807)(h0:w0.heap.size<=B)(hB:B<=w.heap.size)(g:yu w0 w)(hu:zG w B u b)(hs:b.size+8022<=90000000):Calls prog 31 #[u,.iface 139 (Z_ n)] w (yX w B (b++txT env (.mk c n noB [] []) t)):=by
 refine hq_ λx h=>?_;have y:txT env (.mk c n noB [] []) t=qi n:=by
  conv=>lhs;unfold txT
  rw[n_ M_,n_ M_,i_ M_]
 have x:=zy (a w B h0 hB g u b n z A hu M_);go_in;go_wp2_with (go_at_call 57;apply x.o.mono;rintro e w1 h1;replace h1:=zy h1;obtain⟨a,rfl,_⟩:=h1.o);try go_ret
 rw[h.o,y];exact h1
def Fi{tx:BA}(x:tx.size<=4000)(hB:B<=w.heap.size)(hu:zG w B u b)(hs:b.size+8022<=90000000):Calls prog 31 #[u,.iface 141 (.string tx)] w (yX w B (b++txT env (.mk 115 0 tx [] []) t)):=by
 refine hq_ λg a=>?_;have h:txT env (.mk 115 0 tx [] []) t=bts [34]++(tx++bts [34]):=by
  conv=>lhs;unfold txT
  rw[n_ D_,n_ D_,n_ D_,i_ rfl]
 have g:=zy (XC (c:=34) (y:=34) rfl D_ x hu hB M_);go_in;go_wp2_with (go_at_call 58;apply g.o.mono;rintro e w1 h1;replace h1:=zy h1;obtain⟨g,rfl,_⟩:=h1.o);try go_ret
 rw[a.o,h];exact h1
def KR{tx:BA}(x:tx.size<=4000)(hB:B<=w.heap.size)(hu:zG w B u b)(hs:b.size+8022<=90000000):Calls prog 31 #[u,.iface 155 (.string tx)] w (yX w B (b++txT env (.mk 102 0 tx [] []) t)):=by
 refine hq_ λg a=>?_;have h:txT env (.mk 102 0 tx [] []) t=bts [39]++(tx++bts [39]):=by
  conv=>lhs;unfold txT
  rw[n_ D_,n_ D_,n_ D_,n_ D_,i_ rfl]
 have g:=zy (XC (c:=39) (y:=39) rfl D_ x hu hB M_);go_in;go_wp2_with (go_at_call 58;apply g.o.mono;rintro e w1 h1;replace h1:=zy h1;obtain⟨g,rfl,_⟩:=h1.o);try go_ret
 rw[a.o,h];exact h1
def Up{n l:Nat}(hl:fU env t n=l)(y:l<256)(hB:B<=w.heap.size)(hu:zG w B u b)(hs:b.size+8022<=90000000):Calls prog 31 #[u,.iface 154 (.agg #[.int .u8 (l:Int),.int .i64 (n:Int)])] w (yX w B (b++txT env (.mk 101 (n:Int) noB [] []) t)):=by
 refine hq_ λz a=>?_;have h:txT env (.mk 101 (n:Int) noB [] []) t=bts [l]:=by
  conv=>lhs;unfold txT
  rw[if_neg D_,if_neg D_,if_neg D_,if_neg D_,if_neg D_,if_pos rfl,bt_,hl]
 have A:Fr w (w.alloc (.cells #[.int .u8 (l:Int),.int .i64 (n:Int)] 154)) (λ_=>False):=(A_ w _).alloc _;have z:=zy (zG.fr hu A u_);have hz:=A.size;replace A:=zy A;clear hu hl;go_in;go_wp2_with (at_builtin;refine qj rfl _ _ rfl l rfl y z.o M_ M_ x6_ rfl rfl ?_;intro y y g x);try go_ret
 rw[a.o,h];exact⟨_,rfl,g,(FrU.of A.o).trans x⟩
def cq24_{p:Prop}(h:p:=by
 refine hq_ λA x=>?_;(first|(have:=cc1;refine have g:txT env (.mk 114 0 noB [] ds) t=bts [40]++(jn 0 (yU env t 0 0 false [] ds)++bts [41]):=?_;?_)|(have:=cc2;refine have g:txT env (.mk 123 0 noB ks ds) t=bts [123]++(jn 0 (yU env t 0 0 true ks ds)++bts [125]):=?_;?_)|(refine have g:txT env (.mk 91 0 noB [] ds) t=bts [91]++(jn 0 (yU env t 0 0 false [] ds)++bts [93]):=?_;?_))
 .conv=>lhs;unfold txT
  rw[n_ D_,n_ D_,n_ D_,n_ D_,n_ D_,n_ D_,n_ D_];rfl
 (first|(have:=cc1;have a:=zy (MT ih (t:=t) (o:=40) (c:=41) (y:=40) (z:=41) rfl rfl D_ D_ hm hP h0 hB hG hu hs ho hl hd))|(have:=cc2;have a:=zy (Ci ih (t:=t) hm hP h0 hB hG hu hs hk ho hl hd))|(have a:=zy (MT ih (t:=t) (o:=91) (c:=93) (y:=91) (z:=93) rfl rfl D_ D_ hm hP h0 hB hG hu hs ho hl hd)));(first|(have:=cc2;clear ih hP hu ho hl hd hG hk)|(clear ih hP hu ho hl hd hG));go_in;go_wp2_with ((first|go_at_call 59|go_at_call 60);apply a.o.mono;rintro e w1 h1;replace h1:=zy h1;obtain⟨C,rfl,_⟩:=h1.o);try go_ret
 rw[x.o,g];exact h1.o):p:=h
def Fa(ih:Zf w0 env m){ds:Ae}(hm:za ds<=m)(hP:∀g,P g->g<B)(h0:w0.heap.size<=B)(hB:B<=w.heap.size)(hG:yu w0 w)(hu:zG w B u b)(hs:b.size+8022*(1+za ds)<=90000000)(ho:w.ownsRow 0 52 1 (.slice la ds.length lc) ds.length ((List.range ds.length).flatMap λi=>[Y i]))(hl:∀g,(Value.slice la ds.length lc).ownBlock=some g->P g)(hd:∀i d,ds[i]?=some d->DaV env w P d (yg env t 0 i) (Y i)):Calls prog 31 #[u,.iface 144 (.slice la ds.length lc)] w (yX w B (b++txT env (.mk 91 0 noB [] ds) t)):=by
 exact cq24_
def Fe(ih:Zf w0 env m){ds:Ae}(hm:za ds<=m)(hP:∀g,P g->g<B)(h0:w0.heap.size<=B)(hB:B<=w.heap.size)(hG:yu w0 w)(hu:zG w B u b)(hs:b.size+8022*(1+za ds)<=90000000)(ho:w.ownsRow 0 52 1 (.slice la ds.length lc) ds.length ((List.range ds.length).flatMap λi=>[Y i]))(hl:∀g,(Value.slice la ds.length lc).ownBlock=some g->P g)(hd:∀i d,ds[i]?=some d->DaV env w P d (yg env t 0 i) (Y i)):Calls prog 31 #[u,.iface 152 (.slice la ds.length lc)] w (yX w B (b++txT env (.mk 114 0 noB [] ds) t)):=by
 have cc1:=Nat
 exact cq24_
def Uu(ih:Zf w0 env m){ks:Dq}{ds:Ae}(hm:za ds<=m)(hP:∀g,P g->g<B)(h0:w0.heap.size<=B)(hB:B<=w.heap.size)(hG:yu w0 w)(hu:zG w B u b)(hs:b.size+8022*(1+za ds)<=90000000)(hk:∀k∈ks,k.size<=4000)(ho:w.ownsRow 0 201 2 (.slice la ds.length lc) ds.length ((List.range ds.length).flatMap λi=>[.string (ks.getD i noB),Y i]))(hl:∀g,(Value.slice la ds.length lc).ownBlock=some g->P g)(hd:∀i d,ds[i]?=some d->DaV env w P d (yg env t 0 i) (Y i)):Calls prog 31 #[u,.iface 147 (.slice la ds.length lc)] w (yX w B (b++txT env (.mk 123 0 noB ks ds) t)):=by
 have cc2:=Nat
 exact cq24_
def Jz(y:Zf w0 env m)(a:jZ w0){n:Nat}(hn:n<=4000){d:DT}{v:Ax}(hm:ndT d<=m)(hv:DaV env w P d (yg env t n 0) v)(hP:∀g,P g->g<B)(h0:w0.heap.size<=B)(hB:B<=w.heap.size)(h:yu w0 w)(hu:zG w B u b)(hs:b.size+8022*(1+ndT d)<=90000000):Calls prog 31 #[u,.iface 150 (.agg #[I_ n,v])] w (yX w B (b++txT env (.mk 40 (n:Int) noB [] [d]) t)):=by
 refine hq_ λC z=>?_;have D:True:=trivial;obtain⟨T,x,rfl⟩:=hv.iface;have A:Fr w (w.alloc (.cells #[I_ n,.iface T x] 150)) N_:=(A_ w _).alloc _;have hz:=A.size;have C:=zy (FK y a hn hm (hv.fr A u_) hP h0 M_ (h.fr A M_ (λg f=>f.elim)) (zG.fr hu A u_) hs);replace A:=zy A
 go_in;go_wp2_with (go_at_call 61;apply C.o.mono;rintro e w1 h1;replace h1:=zy h1;obtain⟨a,rfl,_⟩:=h1.o);try go_ret
 rw[z.o];exact h1.o.pre (FrU.of A)
def Um(g:jZ w0):∀m,Zf w0 env m:=by
 intro m;induction m with
 |zero=>intro d h;obtain⟨_,_,_,_,_⟩:=d;unfold ndT at h;omega
 |succ m ih=>
  intro d hm w P B t v u b hv hP h0 hB a hu hs;cases hv with
  |flat h hsy=>
   have o:1<=ndT d:=z4_
   cases h with
   |nothing=>exact Yv hB hu M_
   |truth b=>exact KH hB hu M_
   |num c n hc i0 i1=>exact Ub g hc i0 i1 h0 hB a hu M_
   |text tx h=>exact Fi h hB hu M_
   |bytes tx h=>exact KR h hB hu M_
   |sym n l h=>exact Up (hsy n l rfl).1 (hsy n l rfl).2 hB hu M_
  |branch n h hd=>
   unfold ndT at hm hs;simp only[za,bp_]at hm hs;exact Jz ih g h M_ hd hP h0 hB a hu hs
  |row Y hc ho hl hd=>
   unfold ndT at hm hs;obtain⟨la,lc,rfl⟩:=zw ho;rcases hc with⟨rfl,rfl⟩|⟨rfl,rfl⟩
   .exact Fa ih M_ hP h0 hB a hu hs ho hl hd
   .exact Fe ih M_ hP h0 hB a hu hs ho hl hd
  |map Y hl hk ho hl2 hd=>
   unfold ndT at hm hs;obtain⟨la,lc,rfl⟩:=zw ho;exact Uu ih M_ hP h0 hB a hu hs hk ho hl2 hd
def lB(z:jZ w0){d:DT}{v:Ax}(hv:DaV env w P d t v)(hk:w0.heap.size<=w.heap.size)(A:yu w0 w)(hs:8022*ndT d<=90000000):Calls prog 17 #[v] w λe w'=>e=.returned (.string (txT env d t))/\Fr w w' N_:=by
 refine hq_ λa C=>?_;obtain⟨T,x,rfl⟩:=hv.iface;have a:=Um z (ndT d) d l_ w (λg=>P g/\g<w.heap.size) w.heap.size t _ (L_) noB (hv.mono (λg h1 D=>⟨D,h1⟩)) (λg h=>h.2) hk l_ A (World.ownsRow_nil _ _ _ _) (by show 0+_<=_;omega);rw[uP]at a;replace a:=zy a;go_in;go_wp2_with (go_at_call 31;apply a.o.mono;rintro e w1 ⟨a,rfl,h1,y⟩;have a:=oS h1;replace y:=zy y;replace h1:=zy h1);try go_ret
 rw[C.o];exact⟨rfl,y.o.all.mono (λg hg e=>M_)⟩
end
def xu(w:Aw)(br:Nat)(sv rv:Ax)(s:BA)(i n:Nat):Prop:=Blk w br [sv,rv,.string s,I_ i,I_ n] 123
section
variable {w w':Aw} {br:Nat} {sv rv:Ax} {s:BA} {i n:Nat}
def xu.c0(h:xu w br sv rv s i n):w.cell? ⟨br,0,none⟩=some sv:=by rw[F_ h];rfl
def xu.c1(h:xu w br sv rv s i n):w.cell? ⟨br,1,none⟩=some rv:=by rw[F_ h];rfl
def xu.c2(h:xu w br sv rv s i n):w.cell? ⟨br,2,none⟩=some (.string s):=by rw[F_ h];rfl
def xu.c3(h:xu w br sv rv s i n):w.cell? ⟨br,3,none⟩=some (I_ i):=by rw[F_ h];rfl
def xu.c4(h:xu w br sv rv s i n):w.cell? ⟨br,4,none⟩=some (I_ n):=by rw[F_ h];rfl
def xu.th(h:xu w br sv rv s i n)(o:Nat):w.frozen? ⟨br,o,none⟩=false:=Blk.th h o
def xu.si(h:xu w br sv rv s i n)(hw:zq w w'):xu w' br sv rv s i n:=by obtain⟨n,rfl⟩:=hw;exact h
def xu.inc(h:xu w br sv rv s i n):xu (w.setCell ⟨br,3,none⟩ (Z_ ((i:Int)+1))) br sv rv s (i+1) n:=G_ h 3 _
def xu.move(h:xu w br sv rv s i n)(j:Nat):xu (w.setCell ⟨br,3,none⟩ (Z_ ((i:Int)+(j:Int)))) br sv rv s (i+j) n:=by
 have:=G_ h 3 (Z_ ((i:Int)+(j:Int)));unfold xu;exact this
def xu.node(h:xu w br sv rv s i n):xu (w.setCell ⟨br,4,none⟩ (Z_ ((n:Int)+1))) br sv rv s i (n+1):=G_ h 4 _
end
section
variable {w:Aw} {br:Nat} {sv rv:Ax} {s:BA} {i n:Nat}
def tJ(h:xu w br sv rv s i n)(hs:s.size<=4000)(hl:i<s.size):Calls prog 182 #[P_ br] w λe w'=>e=.returned (.tuple #[.int .u8 (bt s i:Int),.nilIface])/\xu w' br sv rv s (i+1) n/\Fr w w' (· = br):=by
 refine hq_ λg a=>?_;have c2:=h.c2;have c3:=h.c3;have f3:=h.th 3;have g:((i:Int)==(s.size:Int))=false:=x1_
 have g:(i:Int)<(s.size:Int):=M_;obtain⟨x,hx⟩:=x_ (bt s i);have g:((s[i]'hl).toNat:Int)=(x:Int):=by rw[<- hx,xO s i hl]
 rw[hx]at a;replace hx:=zy hx;replace h:=zy h;go_in;go_wp2;go_quiet (fail);go_wp2;go_quiet (fail);go_wp2;try go_ret
 rw[a.o];refine⟨rfl,?_,?_⟩
 .exact((h.o.si (zq.drewN _ _)).inc).si (zq.drewN _ _)
 .exact(((A_ w (· = br)).si (zq.drewN _ _)).setCell _ _ (λ_=>rfl)).si (zq.drewN _ _)
end
def Fo{m:Nat}(h:m<9223372036854775808):bits .xor .i64 (-1) (m:Int) = -(m:Int)-1:=by
 have e:bits .xor .i64 (-1) (m:Int)=IntKind.i64.wrap ((BitVec.ofInt 64 (-1) ^^^ BitVec.ofInt 64 (m:Int)).toNat:Int):=rfl;have a:BitVec.ofInt 64 (-1)=BitVec.allOnes 64:=D_;rw[e,a,BitVec.allOnes_xor,BitVec.toNat_not,BitVec.toNat_ofInt];have:(((m:Int) % ((2 ^ 64:Nat):Int)).toNat:Int)=(m:Int):=M_;simp only[IntKind.wrap,IntKind.bits,IntKind.signed];simp;omega
def Zn{w:Aw}{z:Nat}(hz:z<18446744073709551616):Calls prog 224 #[.int .u64 (z:Int)] w λe w'=>e=.returned (Z_ (pL z))/\w'=w:=by
 refine hq_ λh a=>?_;have hc:IntKind.i64.wrap ((z:Int) / 2)=((z / 2:Nat):Int):=by
  simp only[IntKind.wrap,IntKind.bits,IntKind.signed];simp;omega
 by_cases h1:z % 2=1
 .have g:(z:Int) % 2=1:=M_;have hx:=Fo (m:=z / 2) M_;go_in;go_wp2;try go_ret
  rw[a.o];unfold pL;rw[i_ h1];refine⟨?_,rfl⟩
  congr 2
 .have g:¬(z:Int) % 2=1:=M_;go_in;go_wp2;try go_ret
  rw[a.o];unfold pL;rw[n_ h1];refine⟨?_,rfl⟩
  congr 2
def Qd(w:Aw)(br:Nat)(sv rv:Ax)(s:BA)(n:Nat)(q:Int×Nat)(e:Ak)(w':Aw):Prop:=
 Fr w w' (· = br)/\e=.returned (.tuple #[Z_ q.1,.nilIface])/\q.2<=s.size/\xu w' br sv rv s q.2 n
def YR(lo hi:Int):Option (Nat×Nat)->Option (Int×Nat)
 |none=>none
 |some (z,j)=>if z<18446744073709551616/\lo<=pL z/\pL z<=hi then some (pL z,j) else none
def Gj(s:BA)(lo hi:Int)(i:Nat):wt s lo hi i=YR lo hi (cJ s i 0 0):=by
 rw[Je];unfold wt bL YR;cases gn s 10 i with
 |none=>rfl
 |some q=>
  obtain⟨z,j⟩:=q;simp only;by_cases h:z<18446744073709551616
  .rw[i_ h];simp only;by_cases a:lo<=pL z/\pL z<=hi
   .rw[i_ a,i_ ⟨h,a⟩]
   .rw[n_ a,n_ (λx=>a x.2)]
  .rw[n_ h,n_ (λx=>h x.1)]
def MK(k:Nat):(2:Int) ^ (7*k)=((128 ^ k:Nat):Int):=by
 rw[show(128:Nat)=2 ^ 7 from rfl,<- Nat.pow_mul,Int.natCast_pow];rfl
def BR{a:Nat}(hk:k<=9)(hb:¬(k=9/\2<=c % 128))(g:a<128 ^ k):∃X:Nat,X=c % 128*128 ^ k/\a+X<18446744073709551616/\IntKind.u64.wrap ((c:Int) % 128*2 ^ (7*k))=(X:Int)/\(X:Int) / 2 ^ (7*k)=(c:Int) % 128/\bits .or .u64 (a:Int) (X:Int)=((a+X:Nat):Int):=by
 have hp:=Uz k;have x:a+c % 128*128 ^ k<18446744073709551616:=by
  by_cases o:k=9
  .subst o;have:c % 128<=1:=M_;have:=b4_ (128 ^ 9) this;omega
  .have h1:=VU (k:=k) M_;have a:c % 128*128 ^ k<=127*128 ^ k:=b4_ _ M_;have a:128 ^ (k+1)=128 ^ k*128:=Nat.pow_succ 128 k;omega
 have h:(c:Int) % 128*2 ^ (7*k)=((c % 128*128 ^ k:Nat):Int):=by rw[MK,Int.natCast_mul];rfl
 refine⟨_,rfl,x,?_,?_,?_⟩
 .rw[h,IntKind.wrap_u64];omega
 .rw[MK,<- Int.natCast_ediv,Nat.mul_div_cancel _ hp];rfl
 .rw[u64_or_nat _ _ M_ M_]
  congr 1
  rw[show(128:Nat)=2 ^ 7 from rfl,<- Nat.pow_mul,bh_ (c % 2 ^ 7)];rw[show(128:Nat)=2 ^ 7 from rfl,<- Nat.pow_mul]at g;rw[Nat.or_comm,<- Nat.two_pow_add_eq_or_of_lt g,Nat.add_comm]
def Bl(r:Int×Nat)(lo up:Int)(w:Aw)(br:Nat)(sv rv:Ax)(s:BA)(i n:Nat)(q:Nat)(v8 v9:Ax)(W:Aw):Prop:=
 ∃k acc:Nat,v8=.int .u64 (acc:Int)/\v9=Z_ ((7*k:Nat):Int)/\i+k<=s.size/\s.size+1-(i+k)<=q/\acc<18446744073709551616/\H_ (xu W br sv rv s (i+k) n/\Fr w W (· = br))/\k<=9/\acc<128 ^ k/\YR lo up (cJ s i k acc)=some r
def wP{w:Aw}{br:Nat}{sv rv:Ax}{s:BA}{i n:Nat}{lo up:Int}(h:xu w br sv rv s i n)(hs:s.size<=4000)(hi:i<=s.size)(hb:wt s lo up i=some r):Calls prog 183 #[P_ br,Z_ lo,Z_ up] w (Qd w br sv rv s n r):=by
 refine hq_ λK O=>?_;rw[Gj]at hb;have start:H_ (Bl r lo up w br sv rv s i n (s.size+1) (.int .u64 0) (O_) w):=zy ⟨0,0,rfl,rfl,M_,M_,M_,zy ⟨h,A_ _ _⟩,M_,M_,hb⟩;clear h hb;go_in;go_wp2;go_loopg [8,9,10,11,12] (s.size+1) (λq K V a0 a1 a2 W=>Bl r lo up w br sv rv s i n q K V W);case atStart=>exact start
 case round=>
  clear start;obtain⟨k,z,rfl,rfl,K,K,K,H,G,M,a⟩:=hrel;have A:i+k<s.size:=Classical.byContradiction λK=>by
   rw[Wm G M_]at a;cases a
  obtain⟨c,hc⟩:=x_ (bt s (i+k));have D:=tJ H.o.1 hs A;rw[hc]at D;replace D:=zy D;have K:c<256:=by have:=rG s (i+k);omega
  have N:¬(k=9/\2<=c % 128):=λ⟨h1,hb2⟩=>by
   subst h1;by_cases h1:c<128
   .rw[nk M_ A M_,hc,n_ (λx=>M_)]at a;unfold YR at a;simp only at a;rw[n_ (λx=>by
     have Q:=Nat.mul_le_mul_left (128 ^ 9) (show 2<=c by omega)
     have R:128 ^ 9*2=18446744073709551616:=D_
     omega)]at a
    cases a
   .rw[nj M_ A M_,i_ rfl]at a;cases a
  obtain⟨X,F,J,hX,K,S⟩:=BR G N M;have V:(((X:Int) / 2 ^ (7*k)) != (c:Int) % 128)=false:=by rw[K];simp
  have V:7*k<=63:=M_;replace F:=zy F;replace K:=zy K;by_cases K:c<128
  .have U:¬(c:Int)≥128:=M_;have hm:c % 128=c:=Nat.mod_eq_of_lt K;have y:YR lo up (if c=0/\0<k then none else some (z+X,i+k+1))=some r:=by
    rw[<- a,nk G A M_,hc,F.o,hm,bh_ c]
   obtain⟨u,hu⟩:=x_ (pL (z+X));have E:=λ(w:World)=>Zn (w:=w) J;rw[hu]at E;replace E:=zy E;have hz:¬(c=0/\0<k):=λx=>by rw[i_ x]at y;cases y
   rw[n_ hz]at y;unfold YR at y;simp only[hu]at y;by_cases K:z+X<18446744073709551616/\lo<=u/\u<=up;case neg=>rw[n_ K]at y;cases y
   rw[i_ K]at y;cases y;obtain⟨_,y,V⟩:=K;have K:u≥lo:=y;replace hu:=zy hu;obtain⟨Z,L⟩:∃Z:Nat,Z=z+X:=⟨_,rfl⟩;rw[<- L]at S E J;replace L:=zy L;clear a M hc N hm;by_cases I:c=0
   .have T:¬(c:Int) > 0:=M_;have y:(7*(k:Int)==0)=true:=x1_
    replace hz:=zy hz;replace I:=zy I;go_wp2_with (first
     |(go_at_call 182;apply D.o.mono;rintro e w1 ⟨rfl,h1,g⟩;replace h1:=zy h1;replace g:=zy g)
     |(go_at_call 224;apply(E.o _).mono;rintro e w2 ⟨rfl,C⟩;replace C:=C.symm;subst C))
    try go_ret
    rw[O.o];exact⟨H.o.2.trans g u_,rfl,A,h1⟩
   .have T:(c:Int) > 0:=M_;replace hz:=zy hz;replace I:=zy I;go_wp2_with (first
     |(go_at_call 182;apply D.o.mono;rintro e w1 ⟨rfl,h1,g⟩;replace h1:=zy h1;replace g:=zy g)
     |(go_at_call 224;apply(E.o _).mono;rintro e w2 ⟨rfl,C⟩;replace C:=C.symm;subst C))
    try go_ret
    rw[O.o];exact⟨H.o.2.trans g u_,rfl,A,h1⟩
  .have U:(c:Int)≥128:=M_;have C:=zy (show k+1<=9/\z+X<128 ^ (k+1)/\YR lo up (cJ s i (k+1) (z+X))=some r by
    rw[nj G A M_,hc]at a
    by_cases y:k=9
    .rw[i_ y]at a
     cases a
    .have R:128 ^ (k+1)=128 ^ k*128:=Nat.pow_succ 128 k
     have Q:c % 128*128 ^ k<=127*128 ^ k:=b4_ _ M_
     rw[n_ y,show c-128=c % 128 by omega,bh_ (128 ^ k),<- F.o]at a
     exact⟨M_,by have:=F.o;omega,a⟩)
   clear a M hc N;go_wp2_with (go_at_call 182;apply D.o.mono;rintro e w1 ⟨rfl,h1,g⟩;replace h1:=zy h1;replace g:=zy g);go_roundg (s.size+1-(i+(k+1)));case measure=>omega
   case rel=>
    refine⟨k+1,z+X,rfl,?_,M_,l_,J,zy ⟨h1,H.o.2.trans g u_⟩,C⟩
    congr 1
section
variable {w:Aw} {br:Nat} {sv rv:Ax} {s:BA} {i n:Nat}
def cq29_{p:Prop}(h:p:=by
 refine hq_ λy x=>?_;(first|(have:=cc1;have g:=zy (wP (lo:=0) (up:=(m:Int)-1) h hs hi hb))|(have g:=zy (wP (lo:=0) (up:=9223372036854775807) h hs hi hb)));clear h hb;go_in;go_wp2_with (go_at_call 183;apply g.o.mono;rintro e w1 ⟨a,rfl,hm⟩;replace a:=zy a;replace hm:=zy hm);try go_ret
 rw[x.o];exact⟨a.o,rfl,hm.o⟩):p:=h
def fB(h:xu w br sv rv s i n)(hs:s.size<=4000)(hi:i<=s.size)(hb:gQ s i=some r):Calls prog 185 #[P_ br] w (Qd w br sv rv s n r):=by
 exact cq29_
def ml{m:Nat}(hm3:m<=4000)(h:xu w br sv rv s i n)(hs:s.size<=4000)(hi:i<=s.size)(hb:wt s 0 ((m:Int)-1) i=some r):Calls prog 186 #[P_ br,I_ m] w (Qd w br sv rv s n r):=by
 have cc1:=Nat
 exact cq29_
def PX(w:Aw)(br:Nat)(sv rv:Ax)(s:BA)(n:Nat)(q:BA×Nat)(e:Ak)(w':Aw):Prop:=
 Fr w w' (· = br)/\e=.returned (.tuple #[.string q.1,.nilIface])/\q.2<=s.size/\xu w' br sv rv s q.2 n
end
def iR{s:BA}{i m:Nat}(hm:i+m<=s.size)(hk:k<m):((s.extract i (i+m)).data.toList.getD k 0).toNat=bt s (i+k):=by
 have hz:i+k<s.data.toList.length:=by rw[Array.length_toList];show i+k<s.size;omega
 rw[xO s (i+k) M_];simp[List.getD,ByteArray.data_extract];rw[List.getElem?_take_of_lt hk,List.getElem?_drop,aj_ hz];rfl
def Cb(w:Aw)(br:Nat)(sv rv:Ax)(s:BA)(i n m:Nat)(bb:Nat)(q:Nat)(v48:Ax)(W:Aw):Prop:=
 ∃k:Nat,v48=I_ k/\k<=m/\m+1-k<=q/\i+k<=zo s i/\H_ (xu W br sv rv s (i+m) n/\Fr w W (· = br))/\H_ (∀q,q<m->W.cell? ⟨bb,q,none⟩=some (.int .u8 (bt s (i+q):Int)))
def pU{w:Aw}{br:Nat}{sv rv:Ax}{s:BA}{i n m:Nat}{r:BA×Nat}(h:xu w br sv rv s i n)(hs:s.size<=4000)(hi:i<=s.size)(hb:gJ s i m=some r):Calls prog 188 #[P_ br,I_ m] w (PX w br sv rv s n r):=by
 refine hq_ λU F=>?_;have c2:=h.c2;have c3:=h.c3;have f3:=h.th 3;have a2:=lA hi;have K:i+m<=zo s i:=Classical.byContradiction λhx=>by unfold gJ at hb;rw[n_ hx]at hb;cases hb
 obtain rfl:r=(s.extract i (i+m),i+m):=by unfold gJ at hb;rw[i_ K]at hb;cases hb;rfl
 clear hb;have X:¬(m:Int) > (s.size:Int)-(i:Int):=M_;have a3:m<=4000:=M_;have Z:(i:Int)<=(i:Int)+(m:Int):=M_;have a0:(i:Int)+(m:Int)<=(s.size:Int):=M_;obtain⟨tx,C⟩:=x_ (s.extract i (i+m));have M:tx.size=m:=by rw[<- C,a6_];omega
 have H:=zy (show ∀q,q<m->(tx.data.toList.getD q 0).toNat=bt s (i+q) from λq z=>by rw[<- C];exact iR M_ z);have hv:=λ(W:World)=>Lib.run_convert_string_bytes (P:=prog) W 9 94 5 tx wM wU underlying5;have A:=zy (show ∀a g,xu (Lib.bytesWorld (((w.drewN a).setCell ⟨br,3,none⟩ (Z_ ((i:Int)+(m:Int)))).drewN g) 5 tx) br sv rv s (i+m) n/\Fr w (Lib.bytesWorld (((w.drewN a).setCell ⟨br,3,none⟩ (Z_ ((i:Int)+(m:Int)))).drewN g) 5 tx) (· = br)/\∀q,q<m->(Lib.bytesWorld (((w.drewN a).setCell ⟨br,3,none⟩ (Z_ ((i:Int)+(m:Int)))).drewN g) 5 tx).cell? ⟨w.heap.size,q,none⟩=some (.int .u8 (bt s (i+q):Int)) from λa g=>by
  have y:(((w.drewN a).setCell ⟨br,3,none⟩ (Z_ ((i:Int)+(m:Int)))).drewN g).heap.size=w.heap.size:=by simp[World.setCell,World.drewN]
  have h1:xu (((w.drewN a).setCell ⟨br,3,none⟩ (Z_ ((i:Int)+(m:Int)))).drewN g) br sv rv s (i+m) n:=by
   exact((h.si (zq.drewN w a)).move m).si (zq.drewN _ g)
  have N:Fr w (((w.drewN a).setCell ⟨br,3,none⟩ (Z_ ((i:Int)+(m:Int)))).drewN g) (· = br):=(((A_ w (· = br)).si (zq.drewN _ _)).setCell _ _ (λ_=>rfl)).si (zq.drewN _ _)
  generalize ((w.drewN a).setCell ⟨br,3,none⟩ (Z_ ((i:Int)+(m:Int)))).drewN g=V at *
  have G:Fr V (Lib.bytesWorld V 5 tx) N_:=⟨rfl,rfl,rfl,by rw[Lib.bytesWorld_size];omega,λk hk _=>Lib.bytesWorld_at_old V _ tx k hk⟩
  refine⟨G.bl h1 id,N.trans G v_,λq z=>?_⟩
  rw[<- y,Lib.bytesWorld_cell V _ tx q M_,H.o q z])
 replace h:=zy h;go_in;go_wp2;go_quiet (fail);go_wp2;go_quiet (fail);go_wp2;go_loopg [9,48] (m+1) (λq v9 T W=>Cb w br sv rv s i n m w.heap.size q T W);case atStart=>exact⟨0,rfl,M_,M_,vU s i,zy ⟨(A.o _ _).1,(A.o _ _).2.1⟩,zy (A.o _ _).2.2⟩
 case round=>
  clear A H hv;obtain⟨k,rfl,a1,z,J,D,I⟩:=hrel;have L:=zy C;have a4:=zy M;clear C M c2 c3 f3;by_cases O:k=m
  .subst O;rw[L.o]at F;have S:¬(k:Int)<(k:Int):=M_;go_wp2;try go_ret
   rw[F.o];exact⟨D.o.2,by rw[L.o],M_,D.o.1⟩
  .have R:k<m:=M_;have S:(k:Int)<(m:Int):=M_;have hc:=I.o k R;obtain⟨c,x⟩:=x_ (bt s (i+k));rw[x]at hc;have E:97<=c/\c<=122:=Classical.byContradiction λE=>by
    have y:=mP J;unfold zo at y K;rw[vO (by rw[x];exact E)]at y;omega
   have n1:¬(c:Int)<97:=M_;have n2:¬(c:Int) > 122:=M_;have Q:i+(k+1)<=zo s i:=by
    rw[<- mP J];unfold zo;rw[kX M_ (by rw[x];exact E)];exact vU s (i+k+1)
   replace x:=zy x;go_wp2;go_roundg (m+1-(k+1));case measure=>omega
   case rel=>exact⟨k+1,by simp,M_,l_,Q,D,I⟩
def cO{w:Aw}{br:Nat}{sv rv:Ax}{s:BA}{i n:Nat}{r:BA×Nat}(h:xu w br sv rv s i n)(hs:s.size<=4000)(hi:i<=s.size)(hb:qU s i=some r):Calls prog 184 #[P_ br] w (PX w br sv rv s n r):=by
 refine hq_ λy x=>?_;unfold qU at hb;cases hz:gQ s i with
 |none=>rw[hz]at hb;cases hb
 |some q=>
  obtain⟨v,j⟩:=q;have hg:=xN hz;obtain⟨m,rfl⟩:∃m:Nat,v=(m:Int):=⟨v.toNat,M_⟩;have y:=zy (fB h hs hi hz);rw[hz]at hb;simp only[bt_]at hb;have z:=zy (λ(W:World) (h:xu W br sv rv s j n)=>pU h hs hg.2.1 hb);go_in;go_wp2_with (first
   |(go_at_call 185;apply y.o.mono;rintro e w1 ⟨a,rfl,y,h1⟩;replace a:=zy a;replace h1:=zy h1)
   |(go_at_call 188;apply(z.o _ h1).mono;rintro e y ⟨g,rfl,hm⟩;replace g:=zy g;replace hm:=zy hm))
  try go_ret
  rw[x.o];exact⟨a.o.trans g u_,rfl,hm⟩
structure YC(P:Az)(ss:BA)(ds:Ar)(sv rv:Ax)(xs:Ay)(s:BA)(br i n:Nat)(W:Aw):Prop where
 R:xu W br sv rv s i n
 D:yR W P ss ds sv xs
 Pbr:∀g,P g->g<br
 hs:s.size<=4000
 il:i<=s.size
section
variable {W W':Aw} {P:Az} {ss:BA} {ds:Ar} {sv rv:Ax} {xs:Ay} {s:BA} {br i n i' n':Nat}
def YC.brP(M:YC P ss ds sv rv xs s br i n W):¬P br:=λh=>a5_ _ (M.Pbr br h)
def YC.lt(M:YC P ss ds sv rv xs s br i n W):br<W.heap.size:=Blk.lt M.R
def YC.call(M:YC P ss ds sv rv xs s br i n W)(h:xu W' br sv rv s i' n')(hf:Fr W W' (· = br))(hi:i'<=s.size):YC P ss ds sv rv xs s br i' n' W':=
 ⟨h,M.D.fr hf (λg hg e=>M.brP (e▸hg)),M.Pbr,M.hs,hi⟩
def YC.new(M:YC P ss ds sv rv xs s br i n W)(hf:Fr W W' N_):YC P ss ds sv rv xs s br i n W':=M.call (hf.bl M.R id) (hf.mono v_) M.il
def YC.si(M:YC P ss ds sv rv xs s br i n W)(hf:zq W W'):YC P ss ds sv rv xs s br i n W':=M.new ((A_ W _).si hf)
end
def yk(env:Au)(t:PT)(w:Aw)(sv rv:Ax)(s:BA)(br:Nat)(q:Em)(e:Ak)(w':Aw):Prop:=
 ∃v,e=.returned (.tuple #[v,.nilIface])/\Fr w w' (· = br)/\DaV env w' (λg=>w.heap.size<=g) q.1 t v/\xu w' br sv rv s q.2.1 q.2.2/\q.2.1<=s.size
section
variable {env:Au} {t:PT} {w w1 w':Aw} {sv rv:Ax} {s:BA} {br j m:Nat} {d:DT} {v:Ax} {q:Em} {e:Ak}
def yok(h:DaV env w' (λg=>w.heap.size<=g) d t v)(hf:Fr w w' (· = br))(a:xu w' br sv rv s j m)(o:j<=s.size):yk env t w sv rv s br (d,j,m) (.returned (.tuple #[v,.nilIface])) w':=⟨v,rfl,hf,h,a,o⟩
def yk.pre2(hf:Fr w w1 (· = br))(h:yk env t w1 sv rv s br q e w'):yk env t w sv rv s br q e w':=by
 obtain⟨v,he,a,hm,hr⟩:=h;have hz:=hf.size;exact⟨v,he,hf.trans a u_,hm.mono (λg _ hg=>M_),hr⟩
def yk.pre(hf:Fr w w1 N_)(h:yk env t w1 sv rv s br q e w'):yk env t w sv rv s br q e w':=h.pre2 (hf.mono v_)
end
def db(P:Az)(ss:BA)(ds:Ar)(sv rv:Ax)(xs:Ay)(s:BA)(br f:Nat)(t:PT)(i n:Nat):Prop:=
 ∀(w:World) (v:Value) (q:DT×Nat×Nat),YC P ss ds sv rv xs s br i n w->n<=300->TyV w P t v->rdB s (zx ds) f t i n=.ok q->
  Calls prog 47 #[P_ br,v] w (yk (zx ds) t w sv rv s br q)
section
variable {w:Aw} {P:Az} {ss:BA} {ds:Ar} {sv rv:Ax} {xs:Ay} {s:BA} {br i n:Nat} {env:Au} {t:PT} {q:Em}
def Zm(M:YC P ss ds sv rv xs s br i n w)(hb:(if i<s.size/\bt s i<=1 then .ok (.mk 116 (bt s i:Int) noB [] [],i+1,n) else .error 6:Except Nat (DT×Nat×Nat))=.ok q):Calls prog 130 #[P_ br] w (yk env t w sv rv s br q):=by
 refine hq_ λy h=>?_;by_cases hx:i<s.size/\bt s i<=1;case neg=>rw[n_ hx]at hb;cases hb
 rw[i_ hx]at hb;cases hb;obtain⟨g,x⟩:=hx;have a:=tJ M.R M.hs g;obtain⟨c,hc⟩:=x_ (bt s i);rw[hc]at a h x;replace a:=zy a;have x:¬(c:Int) > 1:=M_;have x:c=0\/c=1:=M_;rcases x with rfl|rfl;all_goals
  go_in;go_wp2_with (go_at_call 182;apply a.o.mono;rintro e w1 ⟨rfl,h1,a⟩;replace h1:=zy h1;replace a:=zy a);try go_ret
  rw[h.o]
 .exact yok (V_ (.truth false) D_) a h1 g
 .exact yok (V_ (.truth true) D_) a h1 g
def pG{lo up:Int}(hc:c=105\/c=108)(M:YC P ss ds sv rv xs s br i n w)(a:(match wt s lo up i with|none=>.error 6|some (q,j)=>.ok (.mk c q noB [] [],j,n):Except Nat (DT×Nat×Nat))=.ok q):Calls prog 131 #[P_ br,Z_ lo,Z_ up] w (yk env t w sv rv s br q):=by
 refine hq_ λx h=>?_;cases hb:wt s lo up i with
 |none=>rw[hb]at a;cases a
 |some r=>
  obtain⟨v,j⟩:=r;have hg:=xN hb;rw[hb]at a;cases a;have a:=zy (wP (lo:=lo) (up:=up) M.R M.hs M.il hb);go_in;go_wp2_with (go_at_call 183;apply a.o.mono;rintro e w1 ⟨g,rfl,a,h1⟩;replace g:=zy g;replace h1:=zy h1);try go_ret
  rw[h.o];exact yok (V_ (.num c v hc hg.2.2.2.2.1 hg.2.2.2.2.2) D_) g h1 a
def Vu(M:YC P ss ds sv rv xs s br i n w)(a:(match qU s i with|none=>.error 6|some (tx,j)=>.ok (.mk 115 0 tx [] [],j,n):Except Nat (DT×Nat×Nat))=.ok q):Calls prog 132 #[P_ br] w (yk env t w sv rv s br q):=by
 refine hq_ λx h=>?_;have x:=M.hs;cases hb:qU s i with
 |none=>rw[hb]at a;cases a
 |some r=>
  obtain⟨tx,j⟩:=r;have hg:=qA hb;rw[hb]at a;cases a;have a:=zy (cO M.R M.hs M.il hb);go_in;go_wp2_with (go_at_call 184;apply a.o.mono;rintro e w1 ⟨g,rfl,a,h1⟩;replace g:=zy g;replace h1:=zy h1);try go_ret
  rw[h.o];exact yok (V_ (.text tx M_) D_) g h1 a
end
structure YL(P:Az)(ss:BA)(ds:Ar)(sv rv:Ax)(xs:Ay)(s:BA)(br j nn:Nat)(cx:Ay)(ct:Av)(t:PT)(w:Aw)(lv:Ax)(l:Ae)(W:Aw):Prop where
 M:YC P ss ds sv rv xs s br j nn W
 fr:Fr w W (· = br)
 bx:Blk W w.heap.size cx ct
 bB:w.heap.size+1<=W.heap.size
 lt:br<w.heap.size
 row:jY (zx ds) W (w.heap.size+1) (λg=>w.heap.size+1<=g/\lv.ownBlock≠some g) t lv l
section
variable {w W W':Aw} {P:Az} {ss:BA} {ds:Ar} {sv rv:Ax} {xs:Ay} {s:BA} {br i n j nn j' nn':Nat} {cx:Ay} {ct:Av} {t:PT} {lv:Ax} {l:Ae}
def YL.call(Q:YL P ss ds sv rv xs s br j nn cx ct t w lv l W)(h:xu W' br sv rv s j' nn')(hf:Fr W W' (· = br))(x:j'<=s.size):YL P ss ds sv rv xs s br j' nn' cx ct t w lv l W':=by
 have h1:=Q.lt;have o:=Q.bB;refine⟨Q.M.call h hf x,Q.fr.trans hf u_,hf.bl Q.bx M_,al_ o hf.size,h1,Q.row.fr hf (λg hg=>M_) (λg hg=>?_)⟩;obtain⟨Y,a,_⟩:=Q.row;have:=a.lt g hg;omega
def YL.item(Q:YL P ss ds sv rv xs s br j nn cx ct t w lv l W){o:Obj}{y:Aw}{h v:Ax}{d:DT}(E:∀i d,l[i]?=some d->DaV (zx ds) W (λg=>w.heap.size+1<=g/\lv.ownBlock≠some g) d (yg (zx ds) t 0 i) (Y i))(hd:DaV (zx ds) W (λg=>w.heap.size+1<=g/\lv.ownBlock≠some g) d (yg (zx ds) t 0 l.length) v)(hg:(W.alloc o).grownBy y lv.ownBlock)(ho:y.ownsRow (w.heap.size+1) 52 1 h (l.length+1) (((List.range l.length).flatMap λi=>[Y i])++[v]))(hl:h.ownBlock=lv.ownBlock\/h.ownBlock=some (W.alloc o).heap.size):YL P ss ds sv rv xs s br j nn cx ct t w h (l++[d]) y:=by
 have h1:=Q.lt;have A:=Q.bB;have h:(W.alloc o).heap.size=W.heap.size+1:=x6_
 obtain⟨h,a,_⟩:=Q.row;have h:Fr W y (λg=>lv.ownBlock=some g):=((A_ W _).alloc o).gw hg (λk e _=>e);have z:∀g,lv.ownBlock=some g->w.heap.size+1<=g:=λg e=>(a.lt g e).1;have C:YC P ss ds sv rv xs s br j nn y:=by
  exact⟨h.bl Q.M.R (λe=>o1_ (z _ e)),Q.M.D.fr h (λg hg e=>o2_ (z _ e) (Q.M.Pbr g hg)),Q.M.Pbr,Q.M.hs,Q.M.il⟩
 refine⟨C,Q.fr.trans h (λx hx e=>absurd (z x e) M_),h.bl Q.bx (λe=>o1_ (z _ e)),al_ A h.size,h1,jY.grow E hd (h.mono (λg _ e=>.inl e)) (c:=br) M_ ?_ ho⟩;rcases hl with e|e
 .exact .inl e
 .exact .inr ⟨_,e,M_⟩
end
def Bi(LL:List (BA×DT)×Nat×Nat)(R:Nat->Nat->Except Nat (DT×Nat×Nat))(cnt n:Nat)(P:Az)(ss:BA)(ds:Ar)(sv rv:Ax)(xs:Ay)(s:BA)(br:Nat)(cx:Ay)(ct:Av)(t:PT)(w:Aw)(q:Nat)(v8 v20:Ax)(W:Aw):Prop:=
 ∃(acc:List (BA×DT)) (j nn:Nat),v20=I_ acc.length/\acc.length<=cnt/\n+acc.length<=nn/\nn<=300/\302<=q+nn/\H_ (YL P ss ds sv rv xs s br j nn cx ct t w v8 (acc.map Prod.snd) W)/\.ok LL=gB acc (xP R s false (cnt-acc.length) (kP acc) j nn)
section
variable {w:Aw} {P:Az} {ss:BA} {ds:Ar} {sv rv:Ax} {xs:Ay} {s:BA} {br i n:Nat}
def cwVm1_{p:Prop}(h:p:=by
 obtain⟨d,y,a⟩:=r1;(first|(have _:=cc1;have hC:=zy (hR.o _ hmem j nn hnn hnn3 hQ.o.M.il _ _ (d,y,a) Q0.M hnn3 (hT.fr A1 u_) hrd))|(have hC:=zy (hR.o j nn M_ hnn3 hQ.o.M.il wr _ (d,y,a) hQ.o.M hnn3 (hT.o.fr hQ.o.fr (λg hg e=>hnb (e▸hg))) hrd)));rw[hrd]at hres;(first|(have _:=cc1;replace Q0:=zy Q0;clear hT;have H:=pN s (zx ds) f g0.ty j nn d y a hQ.o.M.il hnn3 hrd)|(have H:=pN s (zx ds) f u j nn d y a hQ.o.M.il hnn3 hrd));have O:=zy hres;(first|(have _:=cc1;have S:=zy (λi d (e:l[i]?=some d)=>(hY i d e).fr A1 u_);have F:=zy (zj hrow A1 u_))|(replace hY:=zy hY));replace hrow:=zy hrow;(first|(have _:=cc1;replace A1:=zy A1)|(have hL3:acc.length<=300:=M_));obtain⟨ti,J,K,L,N⟩:=info_parts qP;(first|(have _:=cc1;clear hres hY hd hmem)|(clear hres));go_wp2_with (first
  |(go_at_call 47;apply hC.o.mono;rintro e w1 ⟨x,rfl,hf1,A,D,E⟩;obtain⟨dT,C,rfl⟩:=A.iface;(first|(have _:=cc1;have x:=Q0.o.call D hf1 E)|(have x:=hQ.o.call D hf1 E));have hb1:=x.bB;(first|(have _:=cc1;have R:=zy (zj F.o hf1 (λg hg e=>o1_ (F.o.lt g hg))))|(have R:=zy (zj hrow.o hf1 (λg hg e=>o1_ (hrow.o.lt g hg)))));(first|(have _:=cc1;have E:=zy (A.mono (Q:=λg=>w.heap.size+1<=g/\(Value.slice la l.length lc).ownBlock≠some g) (λg _ hg=>⟨by have:=hz1.o;omega,λe=>by have:=hrow.o.lt g e;have:=hz1.o;omega⟩)))|(have E:=zy (A.mono (Q:=λg=>w.heap.size+1<=g/\(Value.slice la acc.length lc).ownBlock≠some g) (λg _ hg=>⟨M_,λe=>o1_ (hrow.o.lt g e)⟩))));(first|(have _:=cc1;have F:=zy (λi d (e:l[i]?=some d)=>(S.o i d e).fr hf1 (λg hg e=>o1_ hg.1)))|(have F:=zy (λi d (e:(acc.map Prod.snd)[i]?=some d)=>(hY.o i d e).fr hf1 (λg hg e=>o1_ hg.1))));replace x:=zy x;(first|(have _:=cc1;clear A D hf1)|(clear A D)))
  |(at_builtin;go_must ((first|(have _:=cc1;refine wpList_append_own_at _ rfl _ _ 152 rfl (w.heap.size+1) 52 ti _ 1 16 Zi J K L N rfl D_ (.slice la l.length lc) l.length ((List.range l.length).flatMap λi=>[Y i]) rfl ?hown _ 1 1 [.iface dT C] rfl rfl (zK _ #[.iface dT C] _ _ ?nn) ?one ?b1 ?b2 ?b3 ?_)|(refine wpList_append_own_at _ rfl _ _ 144 rfl (w.heap.size+1) 52 ti _ 1 16 sF J K L N rfl D_ (.slice la acc.length lc) acc.length ((List.range acc.length).flatMap λi=>[Y i]) rfl ?hown _ 1 1 [.iface dT C] rfl rfl (zK _ #[.iface dT C] _ _ ?nn) ?one ?b1 ?b2 ?b3 ?_)))
    case hown=>exact World.ownsRow.alloc R.o _
    case nn=>simp
    case one=>simp[Value.oneCell']
    case b1=>unfold maxLen;omega
    case b2=>omega
    case b3=>simp;omega
    intro A A ho5 G T I
    (first|(have _:=cc1;have z:=x.o.item F.o (by rw[hsb.o];exact E.o) G ho5 I)|(have z:=x.o.item F.o E.o G z9_ I))
    obtain⟨x,x,rfl⟩:=zg ho5 M_
    clear G I T ho5
    replace z:=zy z))
 (first|(have _:=cc1;go_roundg (302-(l.length+1)))|(go_roundg (302-a)));case measure=>omega
 case rel=>
  (first|(have _:=cc1;refine⟨l++[d],y,a,by simp,by simp;omega,M_,H.2.2.2,by simp;omega,z,?_⟩)|(refine⟨acc++[(noB,d)],y,a,by simp,by simp;omega,by simp;omega,H.2.2.2,M_,zy (by rw[bf_];exact z.o),?_⟩));(first|(have _:=cc1;rw[O.o,ag_,ao_])|(rw[O.o,ag_,ao_,show cnt-(acc.length+1)=cn by omega];(have:kP (acc++[(noB,d)])=some noB:=by simp[kP]);rw[this]))):p:=h
def Vm{u:PT}{vT:Av}{vx:Ax}(M:YC P ss ds sv rv xs s br i n w)(hn:n<=300)(hT:TyV w P u (.iface vT vx))(hR:∀j nn,n<=nn->nn<=300->j<=s.size->db P ss ds sv rv xs s br f u j nn){q:Em}(h:uz (rdB s (zx ds) f u) s 91 i n=.ok q):Calls prog 133 #[P_ br,.agg #[Z_ pt,.iface vT vx]] w (yk (zx ds) (.wrap 91 p u) w sv rv s br q):=by
 refine hq_ λH E=>?_;rw[oO]at h;have H:=M.hs;have F:=M.lt;have A:Fr w (w.alloc (.cells #[Z_ pt,.iface vT vx] 222)) N_:=(A_ w _).alloc _;have x:=M.new A;have C:=B_ w #[Z_ pt,.iface vT vx] 222;have hnb:=M.brP;replace hT:=zy hT;replace hR:=zy hR;cases hb:gQ s i with
 |none=>rw[hb]at h;cases h
 |some r0=>
  obtain⟨v,z⟩:=r0;have hC:=zy (fB x.R x.hs x.il hb);have hg:=xN hb;obtain⟨cnt,rfl⟩:∃m:Nat,v=(m:Int):=⟨v.toNat,M_⟩;rw[hb]at h;simp only[bt_]at h;rw[show((91:Nat)==123)=false from rfl]at h;obtain⟨LL,D,rfl⟩:∃r,.ok r=xP (rdB s (zx ds) f u) s false cnt none z n/\q=(.mk 91 0 noB [] (r.1.map Prod.snd),r.2):=by
   cases hx:xP (rdB s (zx ds) f u) s false cnt none z n with
   |error e=>rw[hx]at h;cases h
   |ok r=>rw[hx]at h;cases h;exact⟨r,rfl,rfl⟩
  have start:H_ (∀w1,xu w1 br sv rv s z n->Fr (w.alloc (.cells #[Z_ pt,.iface vT vx] 222)) w1 (· = br)->Bi LL (rdB s (zx ds) f u) cnt n P ss ds sv rv xs s br [Z_ pt,.iface vT vx] 222 (.wrap 91 p u) w 302 (L_) (O_) w1):=zy (λw1 h1 y=>⟨[],z,n,rfl,by simp,by simp,hn,M_,zy ⟨x.call h1 y hg.2.1,(A.mono v_).trans y u_,y.bl C M_,by have:=y.size;simp at this;omega,F,jY.nil _ _ _ _ _⟩,by rw[rH,D];rfl⟩);clear D;have y:(cnt:Int)<=9223372036854775807:=hg.2.2.2.1;clear M x C A hb;go_in;go_wp2_with (go_at_call 185;apply hC.o.mono;rintro e w1 ⟨hf1,rfl,x,h1⟩;have x:=zy (start.o w1 h1 hf1);clear hf1 h1);go_loopg [8,9,10,20] 302 (λq z y y y W=>Bi LL (rdB s (zx ds) f u) cnt n P ss ds sv rv xs s br [Z_ pt,.iface vT vx] 222 (.wrap 91 p u) w q z y W);case atStart=>exact x
  case round=>
   clear start x hC;obtain⟨acc,j,nn,rfl,x,hnn,hnn3,h,hQ,hres⟩:=hrel;obtain⟨Y,hrow,hY⟩:=hQ.o.row;obtain⟨la,lc,rfl⟩:=zw hrow;have hll:(acc.map Prod.snd).length=acc.length:=x6_
   rw[hll]at hrow hQ hY;by_cases x:acc.length=cnt
   .have G:¬(acc.length:Int)<(cnt:Int):=M_;obtain rfl:LL=(acc,j,nn):=xv_
    have h:=zy hQ.o.row;clear hres hrow hY hll x;go_wp2;try go_ret
    rw[E.o];refine yok ?_ hQ.o.fr hQ.o.M.R hQ.o.M.il;exact h.o.dat (λg _ hg=>M_) (λg e=>by have:=h.o;obtain⟨_,a,_⟩:=this;have:=(a.lt g e).1;show w.heap.size<=g;omega) (.inl ⟨rfl,rfl⟩)
   .have G:(acc.length:Int)<(cnt:Int):=M_;obtain⟨cn,h⟩:∃cn,cnt-acc.length=cn+1:=⟨cnt-acc.length-1,M_⟩;rw[h,cq]at hres;have h:pe s false (kP acc) j=some (noB,j):=by simp[pe]
    rw[h]at hres;simp only[oa]at hres;have h:=hQ.o.bx.c1;have h:=hQ.o.bB;cases hrd:rdB s (zx ds) f u j nn with
    |error e0=>rw[hrd]at hres;cases hres
    |ok r1=>
     exact cwVm1_
end
structure YM(P:Az)(ss:BA)(ds:Ar)(sv rv:Ax)(xs:Ay)(s:BA)(br j nn:Nat)(cx:Ay)(ct:Av)(t:PT)(w:Aw)(lv:Ax)(l:Ag)(W:Aw):Prop where
 M:YC P ss ds sv rv xs s br j nn W
 fr:Fr w W (· = br)
 bx:Blk W w.heap.size cx ct
 bB:w.heap.size+1<=W.heap.size
 lt:br<w.heap.size
 row:∃ys,W.ownsRow (w.heap.size+1) 201 2 lv l.length ys/\GX (wX l) l.length ys/\qe (zx ds) W (λg=>w.heap.size+1<=g/\lv.ownBlock≠some g) t l ys
section
variable {w W W':Aw} {P:Az} {ss:BA} {ds:Ar} {sv rv:Ax} {xs:Ay} {s:BA} {br i n j nn j' nn':Nat} {cx:Ay} {ct:Av} {t:PT} {lv:Ax} {l:Ag}
def YM.call(Q:YM P ss ds sv rv xs s br j nn cx ct t w lv l W)(h:xu W' br sv rv s j' nn')(hf:Fr W W' (· = br))(x:j'<=s.size):YM P ss ds sv rv xs s br j' nn' cx ct t w lv l W':=by
 have h1:=Q.lt;have o:=Q.bB;obtain⟨ys,a,b,c⟩:=Q.row;exact⟨Q.M.call h hf x,Q.fr.trans hf u_,hf.bl Q.bx M_,al_ o hf.size,h1,ys,zj a hf (λg hg e=>o1_ (a.lt g hg)),b,c.fr hf (λg hg e=>M_)⟩
def YM.item(Q:YM P ss ds sv rv xs s br j nn cx ct t w lv l W){o:Obj}{h:Aw}{a v:Ax}{d:DT}{key:BA}{ys:Ay}(ha:W.ownsRow (w.heap.size+1) 201 2 lv l.length ys)(C:qe (zx ds) W (λg=>w.heap.size+1<=g/\lv.ownBlock≠some g) t l ys)(hk:key.size<=4000)(hd:DaV (zx ds) W (λg=>w.heap.size+1<=g/\lv.ownBlock≠some g) d (yg (zx ds) t 0 l.length) v)(hg:(W.alloc o).grownBy h lv.ownBlock)(ho:h.ownsRow (w.heap.size+1) 201 2 a (l.length+1) (ys++[.string key,v]))(hl:a.ownBlock=lv.ownBlock\/a.ownBlock=some (W.alloc o).heap.size):YM P ss ds sv rv xs s br j nn cx ct t w a (l++[(key,d)]) h:=by
 have h1:=Q.lt;have z:=Q.bB;have a:(W.alloc o).heap.size=W.heap.size+1:=x6_
 have a:Fr W h (λg=>lv.ownBlock=some g):=((A_ W _).alloc o).gw hg (λk e _=>e);have y:∀g,lv.ownBlock=some g->w.heap.size+1<=g:=λg e=>(ha.lt g e).1;have A:YC P ss ds sv rv xs s br j nn h:=by
  exact⟨a.bl Q.M.R (λe=>o1_ (y _ e)),Q.M.D.fr a (λg hg e=>o2_ (y _ e) (Q.M.Pbr g hg)),Q.M.Pbr,Q.M.hs,Q.M.il⟩
 have h:=ha.1;refine⟨A,Q.fr.trans a (λx hx e=>absurd (y x e) M_),a.bl Q.bx (λe=>o1_ (y _ e)),al_ z a.size,h1,_,by rw[ag_,ao_];exact ho,?_,qe.grow C hd hk (a.mono (λg _ e=>.inl e)) (c:=br) M_ ?_⟩
 .rw[jF,ag_,ao_];exact⟨l.length,rfl,by rw[aw_ M_,show l.length*2-ys.length=0 by omega];rfl⟩
 .rcases hl with e|e
  .exact .inl e
  .exact .inr ⟨_,e,M_⟩
end
def Bn(LL:List (BA×DT)×Nat×Nat)(R:Nat->Nat->Except Nat (DT×Nat×Nat))(cnt n:Nat)(P:Az)(ss:BA)(ds:Ar)(sv rv:Ax)(xs:Ay)(s:BA)(br:Nat)(cx:Ay)(ct:Av)(t:PT)(w:Aw)(q:Nat)(v8 v21:Ax)(W:Aw):Prop:=
 ∃(acc:List (BA×DT)) (j nn:Nat),v21=I_ acc.length/\acc.length<=cnt/\n+acc.length<=nn/\nn<=300/\302<=q+nn/\H_ (YM P ss ds sv rv xs s br j nn cx ct t w v8 acc W)/\.ok LL=gB acc (xP R s true (cnt-acc.length) (wX acc) j nn)
section
variable {w:Aw} {P:Az} {ss:BA} {ds:Ar} {sv rv:Ax} {xs:Ay} {s:BA} {br i n:Nat}
def cwQo1_{p:Prop}(h:p:=by
 obtain⟨d,j2,m1⟩:=r2;have hRe:=zy (λw1 h1 hf=>hRd.o w1 h1 hf hrd);rw[hrd]at hres;have hgo:=pN s (zx ds) f u j1 nn d j2 m1 M_ hnn3 hrd;have hres':=zy hres;obtain⟨ti,hi1,hi2,hi3,hi4⟩:=info_parts bH;clear hres;go_wp2_with (first
  |(go_at_call 184;apply hK.o.mono;rintro e w1 ⟨hf1,rfl,hj1,h1⟩;(try have:=cc1;have hk1:=hfac.o w1 hf1);have hC:=zy (hRe.o w1 h1 hf1);have Q1:=hQ.o.call h1 hf1 hj1;have c1:=Q1.bx.cell 1;have hb1:=Q1.bB;have hrow1:=zy (zj hrw.o hf1 (λg hg e=>o1_ (hrw.o.lt g hg)));have hY1:=zy (hYh.o.fr hf1 (λg hg e=>o1_ hg.1));simp only[aa_,ab_]at c1;replace Q1:=zy Q1;clear h1 hf1)
  |(go_at_call 47;apply hC.o.mono;rintro e w2 ⟨v2,rfl,hf2,hD2,hR2,hj2⟩;obtain⟨dT,dx,rfl⟩:=hD2.iface;have Q2:=Q1.o.call hR2 hf2 hj2;have hb2:=Q2.bB;have hrow2:=zy (zj hrow1.o hf2 (λg hg e=>o1_ (hrow1.o.lt g hg)));(first|(have:=cc1;have hD2':=zy (hD2.mono (Q:=λg=>w.heap.size+1<=g/\(Value.slice (some ⟨gz,0,none⟩) acc.length lc).ownBlock≠some g) (λg _ hg=>⟨M_,λe=>o1_ (hrow1.o.lt g e)⟩)))|(have hD2':=zy (hD2.mono (Q:=λg=>w.heap.size+1<=g/\(Value.slice la acc.length lc).ownBlock≠some g) (λg _ hg=>⟨M_,λe=>o1_ (hrow1.o.lt g e)⟩))));have hY2:=zy (hY1.o.fr hf2 (λg hg e=>o1_ hg.1));replace Q2:=zy Q2;clear hD2 hR2 hf2)
  |(at_builtin;go_must ((first|(have:=cc1;refine wpList_append_own_at _ rfl _ _ 147 rfl (w.heap.size+1) 201 ti _ 2 32 lj hi1 hi2 hi3 hi4 rfl D_ (Value.slice (some ⟨gz,0,none⟩) acc.length lc) acc.length ys rfl ?hown _ 1 1 [.string key,.iface dT dx] rfl rfl (zK _ #[.string key,.iface dT dx] _ _ ?nn) ?one ?b1 ?b2 ?b3 ?_)|(refine wpList_append_own_at _ rfl _ _ 147 rfl (w.heap.size+1) 201 ti _ 2 32 lj hi1 hi2 hi3 hi4 rfl D_ (Value.slice la acc.length lc) acc.length ys rfl ?hown _ 1 1 [.string key,.iface dT dx] rfl rfl (zK _ #[.string key,.iface dT dx] _ _ ?nn) ?one ?b1 ?b2 ?b3 ?_)))
    case hown=>exact World.ownsRow.alloc hrow2.o _
    case nn=>simp
    case one=>simp[Value.oneCell']
    case b1=>unfold maxLen;omega
    case b2=>omega
    case b3=>simp;omega
    intro v5 w5 ho5 hg5 hn5 hl5
    have Q5:=Q2.o.item (d:=d) hrow2.o hY2.o hks hD2'.o hg5 ho5 hl5
    obtain⟨g5,cap5,rfl⟩:=zg ho5 M_
    clear hg5 hl5 hn5 ho5
    replace Q5:=zy Q5))
 go_roundg (302-m1);case measure=>omega
 case rel=>
  refine⟨acc++[(key,d)],j2,m1,by simp,by simp;omega,by simp;omega,hgo.2.2.2,M_,zy Q5.o,?_⟩;rw[hres'.o,ag_,ao_,show cnt-(acc.length+1)=cn by omega,jF]):p:=h
def Qo{u:PT}{vT:Av}{vx:Ax}(M:YC P ss ds sv rv xs s br i n w)(hn:n<=300)(E:TyV w P u (.iface vT vx))(D:∀j nn,n<=nn->nn<=300->j<=s.size->db P ss ds sv rv xs s br f u j nn){q:Em}(a:uz (rdB s (zx ds) f u) s 123 i n=.ok q):Calls prog 134 #[P_ br,.agg #[Z_ pt,.iface vT vx]] w (yk (zx ds) (.wrap 123 p u) w sv rv s br q):=by
 refine hq_ λL J=>?_;rw[oO]at a;have L:=M.hs;have K:=M.lt;have A:Fr w (w.alloc (.cells #[Z_ pt,.iface vT vx] 223)) N_:=(A_ w _).alloc _;have y:=M.new A;have H:=B_ w #[Z_ pt,.iface vT vx] 223;have F:=M.brP;replace E:=zy E;replace D:=zy D;cases hb:gQ s i with
 |none=>rw[hb]at a;cases a
 |some r0=>
  obtain⟨v,G⟩:=r0;have hC:=zy (fB y.R y.hs y.il hb);have hg:=xN hb;obtain⟨cnt,rfl⟩:∃m:Nat,v=(m:Int):=⟨v.toNat,M_⟩;rw[hb]at a;simp only[bt_]at a;rw[show((123:Nat)==123)=true from rfl]at a;obtain⟨LL,I,rfl⟩:∃r,.ok r=xP (rdB s (zx ds) f u) s true cnt none G n/\q=(.mk 123 0 noB (r.1.map Prod.fst) (r.1.map Prod.snd),r.2):=by
   cases hx:xP (rdB s (zx ds) f u) s true cnt none G n with
   |error e=>rw[hx]at a;cases a
   |ok r=>rw[hx]at a;cases a;exact⟨r,rfl,rfl⟩
  have start:H_ (∀w1,xu w1 br sv rv s G n->Fr (w.alloc (.cells #[Z_ pt,.iface vT vx] 223)) w1 (· = br)->Bn LL (rdB s (zx ds) f u) cnt n P ss ds sv rv xs s br [Z_ pt,.iface vT vx] 223 (.wrap 123 p u) w 302 (L_) (O_) w1):=zy (λw1 h1 C=>⟨[],G,n,rfl,by simp,by simp,hn,M_,zy ⟨y.call h1 C hg.2.1,(A.mono v_).trans C u_,C.bl H M_,by have:=C.size;simp at this;omega,K,[],World.ownsRow_nil _ _ _ _,rfl,qe.nil _ _ _ _⟩,by rw[rH,I];rfl⟩);clear I;have C:(cnt:Int)<=9223372036854775807:=hg.2.2.2.1;clear M y H A hb;go_in;go_wp2_with (go_at_call 185;apply hC.o.mono;rintro e w1 ⟨hf1,rfl,y,h1⟩;have y:=zy (start.o w1 h1 hf1);clear hf1 h1);go_loopg [8,9,10,11,21] 302 (λq G C C C C W=>Bn LL (rdB s (zx ds) f u) cnt n P ss ds sv rv xs s br [Z_ pt,.iface vT vx] 223 (.wrap 123 p u) w q G C W);case atStart=>exact y
  case round=>
   clear start y hC;obtain⟨acc,j,nn,rfl,y,y,hnn3,a,hQ,hres⟩:=hrel;obtain⟨ys,h,x,z⟩:=hQ.o.row;obtain⟨la,lc,rfl⟩:=zw h;by_cases C:acc.length=cnt
   .have y:¬(acc.length:Int)<(cnt:Int):=M_;obtain rfl:LL=(acc,j,nn):=xv_
    have a:=zy z;have hrw:=zy h;clear hres h z C x;go_wp2;try go_ret
    rw[J.o];refine yok ?_ hQ.o.fr hQ.o.M.R hQ.o.M.il;exact a.o.dat hrw (λg _ hg=>M_) (λg e=>by have:=(hrw.o.lt g e).1;show w.heap.size<=g;omega)
   .have y:(acc.length:Int)<(cnt:Int):=M_;obtain⟨cn,a⟩:∃cn,cnt-acc.length=cn+1:=⟨cnt-acc.length-1,M_⟩;rw[a,cq]at hres;have a:=hQ.o.bB;have a:acc.length<=300:=M_;cases a:qU s j with
    |none=>simp[pe,a]at hres
    |some r1=>
     obtain⟨key,j1⟩:=r1;have hK:=zy (cO hQ.o.M.R hQ.o.M.hs hQ.o.M.il a);have y:=qA a;have hks:key.size<=4000:=M_;have hYh:=zy z;have hrw:=zy h;cases y:wX acc with
     |none=>
      have G:acc.length=0:=by rw[y]at x;exact x
      have J:¬(0:Int)<(acc.length:Int):=M_;replace G:=zy G;rw[y,show pe s true none j=some (key,j1) by simp[pe,a,kV]]at hres;clear h z x;simp only[oa]at hres;have hRd:=zy (λw1 (h1:xu w1 br sv rv s j1 nn) (hf:Fr wr w1 (· = br)) {r3}=>D.o j1 nn M_ hnn3 M_ w1 _ r3 (hQ.o.M.call h1 hf M_) hnn3 ((E.o.fr hQ.o.fr (λg hg e=>F (e▸hg))).fr hf (λg hg e=>F (e▸hg))));clear C;cases hrd:rdB s (zx ds) f u j1 nn with
      |error e0=>rw[hrd]at hres;cases hres
      |ok r2=>
       exact cwQo1_
     |some key0=>
      have hm:=x;rw[y]at hm;obtain⟨m,G,H⟩:=hm;obtain⟨gz,I,I⟩:=zg h M_;cases I;have I:IntKind.i64.wrap ((acc.length:Int)-1)=(m:Int):=y0_
      have J:(0:Int)<(acc.length:Int):=M_;have I:0<acc.length:=M_;have I:(m:Int)<(acc.length:Int):=M_;have hfac:H_ (∀w1,Fr wr w1 (· = br)->w1.cell? ⟨gz,m*2,none⟩=some (.string key0)):=zy (λw1 hf=>zr (zj h hf (λg' hg e=>o2_ (h.lt g' hg) hQ.o.lt)) rfl H);replace G:=zy G;clear H h z x;by_cases h:Op.bytesLess key0.toList key.toList=true;case neg=>simp[y,pe,a,kV,h]at hres
      have x:(Op.bytesLess key.toList key0.toList||key.toList==key0.toList)=false:=by
       rw[fE];rw[show Op.bytesLess key0.toList key.toList=true from h];rfl
      rw[y,show pe s true (some key0) j=some (key,j1) by simp[pe,a,kV,h]]at hres;replace h:=zy h;simp only[oa]at hres;have hRd:=zy (λw1 (h1:xu w1 br sv rv s j1 nn) (hf:Fr wr w1 (· = br)) {r3}=>D.o j1 nn M_ hnn3 M_ w1 _ r3 (hQ.o.M.call h1 hf M_) hnn3 ((E.o.fr hQ.o.fr (λg hg e=>F (e▸hg))).fr hf (λg hg e=>F (e▸hg))));clear C;cases hrd:rdB s (zx ds) f u j1 nn with
      |error e0=>rw[hrd]at hres;cases hres
      |ok r2=>
       have cc1:=Nat;exact cwQo1_
end
section
variable {w:Aw} {P:Az} {ss:BA} {ds:Ar} {sv rv:Ax} {xs:Ay} {s:BA} {br i n:Nat}
def Zu{l:Af}{C:Ax}{X:Ai}(M:YC P ss ds sv rv xs s br i n w)(hn:n<=300)(hl:l.length<=4000)(ho:w.ownsRow 0 46 1 C l.length ((List.range l.length).map X))(hP:∀g,C.ownBlock=some g->P g)(hX:∀i t,l[i]?=some t->TyV w P t (X i))(K:∀t∈l,∀j,j<=s.size->db P ss ds sv rv xs s br f t j n){q:Em}(a:fZ (rdB s (zx ds) f) s l i n=.ok q):Calls prog 135 #[P_ br,.agg #[Z_ pt,C]] w (yk (zx ds) (.alts p l) w sv rv s br q):=by
 refine hq_ λC Q=>?_;have C:=M.lt;have N:=M.brP;obtain⟨F,D,rfl⟩:=zw ho;have A:Fr w (w.alloc (.cells #[Z_ pt,.slice F l.length D] 226)) N_:=(A_ w _).alloc _;have y:=M.new A;have J:=B_ w #[Z_ pt,.slice F l.length D] 226;have C:=M.hs;unfold fZ at a;cases hb:wt s 0 ((l.length:Int)-1) i with
 |none=>rw[hb]at a;cases a
 |some r0=>
  obtain⟨v,j⟩:=r0;have S:=zy (ml hl y.R y.hs y.il hb);have hg:=xN hb;obtain⟨k,rfl⟩:∃m:Nat,v=(m:Int):=⟨v.toNat,M_⟩;rw[hb]at a;simp only[bt_]at a;have H:k<l.length:=M_;have V:k<=4000:=M_;have C:(k:Int)<(l.length:Int):=M_;have hd:l[k]?=some l[k]:=aj_ H;have I:l[k]∈l:=bi_ H;rw[hd]at a;have O:H_ (yg (zx ds) (.alts p l) k 0=l[k]):=zy (by simp[yg,as_,hd]);generalize l[k]=t at hd I a O;simp only at a;have F:=hX k t hd;obtain⟨T,x,hx⟩:=F.iface;obtain⟨g,C,C⟩:=zg ho M_;cases C;have L:H_ (∀w1,Fr w w1 (· = br)->w1.cell? ⟨g,k,none⟩=some (.iface T x)/\TyV w1 P t (.iface T x)):=zy (λw1 hf=>⟨by rw[zr (zj ho hf (λg' hg e=>N (e▸hP g' hg))) rfl (k:=k) (x:=X k) (by simp[H]),hx],hx▸F.fr hf (λg' hg e=>N (e▸hg))⟩);have hB:=zy (λw1 (hf:Fr (w.alloc (.cells #[Z_ pt,S_ g l.length D] 226)) w1 (· = br))=>hf.bl J M_);replace A:=zy A;cases C:rdB s (zx ds) f t j n with
  |error e0=>rw[C]at a;cases a
  |ok r1=>
   obtain⟨d,D,H⟩:=r1;rw[C]at a;cases a;have Z:=zy (λw1 (h1:xu w1 br sv rv s j n) (hf:Fr w w1 (· = br))=>K t I j M_ w1 _ (d,D,H) (M.call h1 hf M_) hn (L.o w1 hf).2 C);go_in;go_wp2_with (first
    |(go_at_call 186;apply S.o.mono;rintro e w1 ⟨z,rfl,a,h1⟩;have h:=(A.o.mono (T:=λg=>g=br) v_).trans z u_;have c1:=(L.o w1 h).1;have b1:=(hB.o w1 z).c1;have a:=zy (Z.o w1 h1 h);replace h:=zy h)
    |(go_at_call 47;apply a.o.mono;rintro e a ⟨a,rfl,G,z,E,U⟩;obtain⟨dT,a,rfl⟩:=z.iface;replace z:=zy z;replace G:=zy G;replace E:=zy E))
   try go_ret
   rw[Q.o];have hz:=h.o.size;refine yok (.branch k V ?_) (h.o.trans G u_) E U;rw[O.o];exact z.o.mono (λg _ hg=>M_)
def eK{l:As}{t:PT}{z:Ax}{dd:Am}(M:YC P ss ds sv rv xs s br i n w)(hl:l.length<=300)(H:∀q∈l,zl q.1=true)(ho:w.ownsRow 0 191 2 z l.length (zE l))(hP:∀g,z.ownBlock=some g->P g)(I:∀k,fU (zx ds) t k=(l.map Prod.fst).getD k 0){q:Em}(y:(match wt s 0 ((l.length:Int)-1) i with|none=>.error 6|some (q,j)=>.ok (.mk 101 q noB [] [],j,n):Except Nat (DT×Nat×Nat))=.ok q):Calls prog 137 #[P_ br,.agg #[Z_ pt,z,.pointer dd]] w (yk (zx ds) t w sv rv s br q):=by
 refine hq_ λz J=>?_;have z:=M.lt;have U:=M.brP;obtain⟨G,C,rfl⟩:=zw ho;have A:Fr w (w.alloc (.cells #[Z_ pt,.slice G l.length C,.pointer dd] 236)) N_:=(A_ w _).alloc _;have x:=M.new A;have F:=B_ w #[Z_ pt,.slice G l.length C,.pointer dd] 236;have z:=M.hs;cases hb:wt s 0 ((l.length:Int)-1) i with
 |none=>rw[hb]at y;cases y
 |some r0=>
  obtain⟨v,j⟩:=r0;have N:=zy (ml (m:=l.length) M_ x.R x.hs x.il hb);have hg:=xN hb;obtain⟨k,rfl⟩:∃m:Nat,v=(m:Int):=⟨v.toNat,M_⟩;rw[hb]at y;cases y;have y:k<l.length:=M_;have S:k<=4000:=M_;have z:(k:Int)<(l.length:Int):=M_;have hd:l[k]?=some l[k]:=aj_ y;have E:l[k]∈l:=bi_ y;have h:fU (zx ds) t k=l[k].1:=by rw[I k];simp[as_,hd]
  generalize l[k]=c at hd E h;obtain⟨cl,y⟩:=c;have z:=H _ E;obtain⟨y,y,G⟩:=kS z;simp only at h y;have O:cl<256:=M_;obtain⟨g,G,G⟩:=zg ho M_;cases G;have Q:H_ (∀w1,Fr w w1 (· = br)->w1.cell? ⟨g,k*2+1,none⟩=some (U_ cl)):=zy (λw1 hf=>zr (zj ho hf (λg' hg e=>U (e▸hP g' hg))) rfl (xB hd).2);have hB:=zy (λw1 (hf:Fr (w.alloc (.cells #[Z_ pt,S_ g l.length C,.pointer dd] 236)) w1 (· = br))=>hf.bl F M_);replace A:=zy A;replace h:=zy h;replace y:=zy y;go_in;go_wp2_with (go_at_call 186;apply N.o.mono;rintro e w1 ⟨D,rfl,y,h1⟩;have x:=(A.o.mono (T:=λg=>g=br) v_).trans D u_;have c1:=(Q.o w1 x);have b1:=(hB.o w1 D).c1;replace x:=zy x;replace h1:=zy h1);try go_ret
  rw[J.o];refine yok (.flat (.sym k cl S) (λn' z e=>?_)) x h1 y;injection e with _ e
  injection e with e
  have x:=congrArg (λa=>a.toList) e;simp only[List.cons.injEq,Value.int.injEq,true_and,and_true]at x;obtain⟨y,y⟩:=x;have K:cl=z:=M_;have L:k=n':=M_;subst K;subst L;exact⟨h,O⟩
def Zc{t:PT}(M:YC P ss ds sv rv xs s br i n w)(hk:k<=9){q:Em}(g:(match gJ s i k with|none=>.error 6|some (tx,j)=>.ok (.mk 102 0 tx [] [],j,n):Except Nat (DT×Nat×Nat))=.ok q):Calls prog 138 #[P_ br,.agg #[Z_ pt,I_ k]] w (yk (zx ds) t w sv rv s br q):=by
 refine hq_ λa x=>?_;have A:Fr w (w.alloc (.cells #[Z_ pt,I_ k] 238)) N_:=(A_ w _).alloc _;have a:=M.new A;have y:=M.hs;have y:=M.il;replace A:=zy A;cases hb:gJ s i k with
 |none=>rw[hb]at g;cases g
 |some r0=>
  obtain⟨tx,j⟩:=r0;have hg:=pi y hb;have y:=zy (pU (m:=k) a.R a.hs a.il hb);rw[hb]at g;cases g;go_in;go_wp2_with (go_at_call 188;apply y.o.mono;rintro e w1 ⟨h,rfl,a,h1⟩;replace h:=zy h;replace h1:=zy h1);try go_ret
  rw[x.o];exact yok (V_ (.bytes tx M_) D_) ((A.o.mono v_).trans h u_) h1 a
end
end Go.Proofs.YtokgeopihcopeaaGreatDoor
