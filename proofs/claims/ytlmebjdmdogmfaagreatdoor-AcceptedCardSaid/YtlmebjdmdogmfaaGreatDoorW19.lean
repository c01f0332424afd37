import Derived.Laws.BitsAllLaws
import Derived.Laws.Shifts
import Derived.Lib.ConvBytes
import Derived.Test.YtlmebjdmdogmfaaGreatDoorW16
set_option linter.unusedVariables false
set_option maxHeartbeats 16000000
set_option maxRecDepth 100000
set_option linter.defProp false
set_option linter.unusedSimpArgs false
open Go.Proofs.Tryz
namespace Go.Proofs.YtlmebjdmdogmfaaGreatDoor
open Go.RowKit
variable {pt:Int}{f k p:Nat}{r:Int×Nat}
def xu(w:Aw)(br:Nat)(sv rv:Ax)(s:BA)(i n:Nat):Prop:=Blk w br [sv,rv,.string s,I_ i,I_ n] 123
section
variable {w w':Aw} {br:Nat} {sv rv:Ax} {s:BA} {i n:Nat}
def xu.c0(h:xu w br sv rv s i n):w.cell? ⟨br,0,none⟩=some sv:=by rw[F_ h];rfl
def xu.c1(h:xu w br sv rv s i n):w.cell? ⟨br,1,none⟩=some rv:=by rw[F_ h];rfl
def xu.c2(h:xu w br sv rv s i n):w.cell? ⟨br,2,none⟩=some (.string s):=by rw[F_ h];rfl
def xu.c3(h:xu w br sv rv s i n):w.cell? ⟨br,3,none⟩=some (I_ i):=by rw[F_ h];rfl
def xu.c4(h:xu w br sv rv s i n):w.cell? ⟨br,4,none⟩=some (I_ n):=by rw[F_ h];rfl
def xu.th(h:xu w br sv rv s i n)(o:Nat):w.frozen? ⟨br,o,none⟩=false:=Blk.th h o
def xu.si(h:xu w br sv rv s i n)(hw:zq w w'):xu w' br sv rv s i n:=by obtain⟨n,rfl⟩:=hw;exact h
def xu.inc(h:xu w br sv rv s i n):xu (w.setCell ⟨br,3,none⟩ (Z_ ((i:Int)+1))) br sv rv s (i+1) n:=G_ h 3 _
def xu.move(h:xu w br sv rv s i n)(j:Nat):xu (w.setCell ⟨br,3,none⟩ (Z_ ((i:Int)+(j:Int)))) br sv rv s (i+j) n:=by
 have:=G_ h 3 (Z_ ((i:Int)+(j:Int)));unfold xu;exact this
def xu.node(h:xu w br sv rv s i n):xu (w.setCell ⟨br,4,none⟩ (Z_ ((n:Int)+1))) br sv rv s i (n+1):=G_ h 4 _
end
section
variable {w:Aw} {br:Nat} {sv rv:Ax} {s:BA} {i n:Nat}
def tJ(h:xu w br sv rv s i n)(hs:s.size<=4000)(hl:i<s.size):Calls prog 182 #[P_ br] w λe w'=>e=.returned (.tuple #[.int .u8 (bt s i:Int),.nilIface])/\xu w' br sv rv s (i+1) n/\Fr w w' (· = br):=by
 refine hq_ λb a=>?_;have c2:=h.c2;have c3:=h.c3;have f3:=h.th 3;have b:((i:Int)==(s.size:Int))=false:=x1_
 have b:(i:Int)<(s.size:Int):=M_;obtain⟨x,hx⟩:=x_ (bt s i);have b:((s[i]'hl).toNat:Int)=(x:Int):=by rw[<- hx,xO s i hl]
 rw[hx]at a;replace hx:=zy hx;replace h:=zy h;go_in;go_wp2;go_quiet (fail);go_wp2;go_quiet (fail);go_wp2;try go_ret
 rw[a.o];refine⟨rfl,?_,?_⟩
 .exact((h.o.si (zq.drewN _ _)).inc).si (zq.drewN _ _)
 .exact(((A_ w (· = br)).si (zq.drewN _ _)).setCell _ _ (λ_=>rfl)).si (zq.drewN _ _)
end
def Fo{m:Nat}(h:m<9223372036854775808):bits .xor .i64 (-1) (m:Int) = -(m:Int)-1:=by
 have e:bits .xor .i64 (-1) (m:Int)=IntKind.i64.wrap ((BitVec.ofInt 64 (-1) ^^^ BitVec.ofInt 64 (m:Int)).toNat:Int):=rfl;have a:BitVec.ofInt 64 (-1)=BitVec.allOnes 64:=D_;rw[e,a,BitVec.allOnes_xor,BitVec.toNat_not,BitVec.toNat_ofInt];have:(((m:Int) % ((2 ^ 64:Nat):Int)).toNat:Int)=(m:Int):=M_;simp only[IntKind.wrap,IntKind.bits,IntKind.signed];simp;omega
def Zn{w:Aw}{z:Nat}(hz:z<18446744073709551616):Calls prog 224 #[.int .u64 (z:Int)] w λe w'=>e=.returned (Z_ (pL z))/\w'=w:=by
 refine hq_ λc a=>?_;have hc:IntKind.i64.wrap ((z:Int) / 2)=((z / 2:Nat):Int):=by
  simp only[IntKind.wrap,IntKind.bits,IntKind.signed];simp;omega
 by_cases h1:z % 2=1
 .have b:(z:Int) % 2=1:=M_;have hx:=Fo (m:=z / 2) M_;go_in;go_wp2;try go_ret
  rw[a.o];unfold pL;rw[i_ h1];refine⟨?_,rfl⟩
  congr 2
 .have b:¬(z:Int) % 2=1:=M_;go_in;go_wp2;try go_ret
  rw[a.o];unfold pL;rw[n_ h1];refine⟨?_,rfl⟩
  congr 2
def Qd(w:Aw)(br:Nat)(sv rv:Ax)(s:BA)(n:Nat)(q:Int×Nat)(e:Ak)(w':Aw):Prop:=
 Fr w w' (· = br)/\e=.returned (.tuple #[Z_ q.1,.nilIface])/\q.2<=s.size/\xu w' br sv rv s q.2 n
def YR(lo hi:Int):Option (Nat×Nat)->Option (Int×Nat)
 |none=>none
 |some (z,j)=>if z<18446744073709551616/\lo<=pL z/\pL z<=hi then some (pL z,j) else none
def Gj(s:BA)(lo hi:Int)(i:Nat):wt s lo hi i=YR lo hi (cJ s i 0 0):=by
 rw[Je];unfold wt bL YR;cases gn s 10 i with
 |none=>rfl
 |some q=>
  obtain⟨z,j⟩:=q;simp only;by_cases h:z<18446744073709551616
  .rw[i_ h];simp only;by_cases a:lo<=pL z/\pL z<=hi
   .rw[i_ a,i_ ⟨h,a⟩]
   .rw[n_ a,n_ (λx=>a x.2)]
  .rw[n_ h,n_ (λx=>h x.1)]
def MK(k:Nat):(2:Int) ^ (7*k)=((128 ^ k:Nat):Int):=by
 rw[show(128:Nat)=2 ^ 7 from rfl,<- Nat.pow_mul,Int.natCast_pow];rfl
def BR{c a:Nat}(hk:k<=9)(hb:¬(k=9/\2<=c % 128))(b:a<128 ^ k):∃X:Nat,X=c % 128*128 ^ k/\a+X<18446744073709551616/\IntKind.u64.wrap ((c:Int) % 128*2 ^ (7*k))=(X:Int)/\(X:Int) / 2 ^ (7*k)=(c:Int) % 128/\bits .or .u64 (a:Int) (X:Int)=((a+X:Nat):Int):=by
 have hp:=Uz k;have o:a+c % 128*128 ^ k<18446744073709551616:=by
  by_cases h:k=9
  .subst h;have:c % 128<=1:=M_;have:=b2_ (128 ^ 9) this;omega
  .have h1:=VU (k:=k) M_;have a:c % 128*128 ^ k<=127*128 ^ k:=b2_ _ M_;have a:128 ^ (k+1)=128 ^ k*128:=Nat.pow_succ 128 k;omega
 have g:(c:Int) % 128*2 ^ (7*k)=((c % 128*128 ^ k:Nat):Int):=by rw[MK,Int.natCast_mul];rfl
 refine⟨_,rfl,o,?_,?_,?_⟩
 .rw[g,IntKind.wrap_u64];omega
 .rw[MK,<- Int.natCast_ediv,Nat.mul_div_cancel _ hp];rfl
 .rw[u64_or_nat _ _ M_ M_]
  congr 1
  rw[show(128:Nat)=2 ^ 7 from rfl,<- Nat.pow_mul,bg_ (c % 2 ^ 7)];rw[show(128:Nat)=2 ^ 7 from rfl,<- Nat.pow_mul]at b;rw[Nat.or_comm,<- Nat.two_pow_add_eq_or_of_lt b,Nat.add_comm]
def Bl(r:Int×Nat)(lo up:Int)(w:Aw)(br:Nat)(sv rv:Ax)(s:BA)(i n:Nat)(q:Nat)(v8 v9:Ax)(W:Aw):Prop:=
 ∃k acc:Nat,v8=.int .u64 (acc:Int)/\v9=Z_ ((7*k:Nat):Int)/\i+k<=s.size/\s.size+1-(i+k)<=q/\acc<18446744073709551616/\H_ (xu W br sv rv s (i+k) n/\Fr w W (· = br))/\k<=9/\acc<128 ^ k/\YR lo up (cJ s i k acc)=some r
def wP{w:Aw}{br:Nat}{sv rv:Ax}{s:BA}{i n:Nat}{lo up:Int}(h:xu w br sv rv s i n)(hs:s.size<=4000)(hi:i<=s.size)(hb:wt s lo up i=some r):Calls prog 183 #[P_ br,Z_ lo,Z_ up] w (Qd w br sv rv s n r):=by
 refine hq_ λI M=>?_;rw[Gj]at hb;have start:H_ (Bl r lo up w br sv rv s i n (s.size+1) (.int .u64 0) (O_) w):=zy ⟨0,0,rfl,rfl,M_,M_,M_,zy ⟨h,A_ _ _⟩,M_,M_,hb⟩;clear h hb;go_in;go_wp2;go_loopg [8,9,10,11,12] (s.size+1) (λq I T V V V W=>Bl r lo up w br sv rv s i n q I T W);case atStart=>exact start
 case round=>
  clear start;obtain⟨k,y,rfl,rfl,I,I,I,F,E,K,a⟩:=hrel;have z:i+k<s.size:=Classical.byContradiction λI=>by
   rw[Wm E M_]at a;cases a
  obtain⟨c,hc⟩:=x_ (bt s (i+k));have B:=tJ F.o.1 hs z;rw[hc]at B;replace B:=zy B;have I:c<256:=by have:=rG s (i+k);omega
  have L:¬(k=9/\2<=c % 128):=λ⟨h1,hb2⟩=>by
   subst h1;by_cases h1:c<128
   .rw[nk M_ z M_,hc,n_ (λx=>M_)]at a;unfold YR at a;simp only at a;rw[n_ (λx=>by
     have N:=Nat.mul_le_mul_left (128 ^ 9) (show 2<=c by omega)
     have O:128 ^ 9*2=18446744073709551616:=D_
     omega)]at a
    cases a
   .rw[nj M_ z M_,i_ rfl]at a;cases a
  obtain⟨X,D,H,hX,I,Q⟩:=BR E L K;have T:(((X:Int) / 2 ^ (7*k)) != (c:Int) % 128)=false:=by rw[I];simp
  have T:7*k<=63:=M_;replace D:=zy D;replace I:=zy I;by_cases I:c<128
  .have S:¬(c:Int)≥128:=M_;have hm:c % 128=c:=Nat.mod_eq_of_lt I;have g:YR lo up (if c=0/\0<k then none else some (y+X,i+k+1))=some r:=by
    rw[<- a,nk E z M_,hc,D.o,hm,bg_ c]
   obtain⟨u,hu⟩:=x_ (pL (y+X));have C:=λ(w:World)=>Zn (w:=w) H;rw[hu]at C;replace C:=zy C;have hz:¬(c=0/\0<k):=λx=>by rw[i_ x]at g;cases g
   rw[n_ hz]at g;unfold YR at g;simp only[hu]at g;by_cases I:y+X<18446744073709551616/\lo<=u/\u<=up;case neg=>rw[n_ I]at g;cases g
   rw[i_ I]at g;cases g;obtain⟨_,g,T⟩:=I;have I:u≥lo:=g;replace hu:=zy hu;obtain⟨Z,J⟩:∃Z:Nat,Z=y+X:=⟨_,rfl⟩;rw[<- J]at Q C H;replace J:=zy J;clear a K hc L hm;by_cases G:c=0
   .have R:¬(c:Int) > 0:=M_;have g:(7*(k:Int)==0)=true:=x1_
    replace hz:=zy hz;replace G:=zy G;go_wp2_with (first
     |(go_at_call 182;apply B.o.mono;rintro e w1 ⟨rfl,h1,b⟩;replace h1:=zy h1;replace b:=zy b)
     |(go_at_call 224;apply(C.o _).mono;rintro e U ⟨rfl,A⟩;replace A:=A.symm;subst A))
    try go_ret
    rw[M.o];exact⟨F.o.2.trans b u_,rfl,z,h1⟩
   .have R:(c:Int) > 0:=M_;replace hz:=zy hz;replace G:=zy G;go_wp2_with (first
     |(go_at_call 182;apply B.o.mono;rintro e w1 ⟨rfl,h1,b⟩;replace h1:=zy h1;replace b:=zy b)
     |(go_at_call 224;apply(C.o _).mono;rintro e U ⟨rfl,A⟩;replace A:=A.symm;subst A))
    try go_ret
    rw[M.o];exact⟨F.o.2.trans b u_,rfl,z,h1⟩
  .have S:(c:Int)≥128:=M_;have A:=zy (show k+1<=9/\y+X<128 ^ (k+1)/\YR lo up (cJ s i (k+1) (y+X))=some r by
    rw[nj E z M_,hc]at a
    by_cases g:k=9
    .rw[i_ g]at a
     cases a
    .have O:128 ^ (k+1)=128 ^ k*128:=Nat.pow_succ 128 k
     have N:c % 128*128 ^ k<=127*128 ^ k:=b2_ _ M_
     rw[n_ g,show c-128=c % 128 by omega,bg_ (128 ^ k),<- D.o]at a
     exact⟨M_,by have:=D.o;omega,a⟩)
   clear a K hc L;go_wp2_with (go_at_call 182;apply B.o.mono;rintro e w1 ⟨rfl,h1,b⟩;replace h1:=zy h1;replace b:=zy b);go_roundg (s.size+1-(i+(k+1)));case measure=>omega
   case rel=>
    refine⟨k+1,y+X,rfl,?_,M_,l_,H,zy ⟨h1,F.o.2.trans b u_⟩,A⟩
    congr 1
section
variable {w:Aw} {br:Nat} {sv rv:Ax} {s:BA} {i n:Nat}
def cq28_{p:Prop}(h:p:=by
 refine hq_ λg c=>?_;(first|(have:=cc1;have b:=zy (wP (lo:=0) (up:=(m:Int)-1) h hs hi hb))|(have b:=zy (wP (lo:=0) (up:=9223372036854775807) h hs hi hb)));clear h hb;go_in;go_wp2_with (go_at_call 183;apply b.o.mono;rintro e w1 ⟨a,rfl,hm⟩;replace a:=zy a;replace hm:=zy hm);try go_ret
 rw[c.o];exact⟨a.o,rfl,hm.o⟩):p:=h
def fB(h:xu w br sv rv s i n)(hs:s.size<=4000)(hi:i<=s.size)(hb:gQ s i=some r):Calls prog 185 #[P_ br] w (Qd w br sv rv s n r):=by
 exact cq28_
def ml{m:Nat}(hm3:m<=4000)(h:xu w br sv rv s i n)(hs:s.size<=4000)(hi:i<=s.size)(hb:wt s 0 ((m:Int)-1) i=some r):Calls prog 186 #[P_ br,I_ m] w (Qd w br sv rv s n r):=by
 have cc1:=Nat
 exact cq28_
def PX(w:Aw)(br:Nat)(sv rv:Ax)(s:BA)(n:Nat)(q:BA×Nat)(e:Ak)(w':Aw):Prop:=
 Fr w w' (· = br)/\e=.returned (.tuple #[.string q.1,.nilIface])/\q.2<=s.size/\xu w' br sv rv s q.2 n
end
def iR{s:BA}{i m:Nat}(hm:i+m<=s.size)(hk:k<m):((s.extract i (i+m)).data.toList.getD k 0).toNat=bt s (i+k):=by
 have hz:i+k<s.data.toList.length:=by rw[Array.length_toList];show i+k<s.size;omega
 rw[xO s (i+k) M_];simp[List.getD,ByteArray.data_extract];rw[List.getElem?_take_of_lt hk,List.getElem?_drop,ai_ hz];rfl
def Cb(w:Aw)(br:Nat)(sv rv:Ax)(s:BA)(i n m:Nat)(bb:Nat)(q:Nat)(v48:Ax)(W:Aw):Prop:=
 ∃k:Nat,v48=I_ k/\k<=m/\m+1-k<=q/\i+k<=zo s i/\H_ (xu W br sv rv s (i+m) n/\Fr w W (· = br))/\H_ (∀q,q<m->W.cell? ⟨bb,q,none⟩=some (.int .u8 (bt s (i+q):Int)))
def pU{w:Aw}{br:Nat}{sv rv:Ax}{s:BA}{i n m:Nat}{r:BA×Nat}(h:xu w br sv rv s i n)(hs:s.size<=4000)(hi:i<=s.size)(hb:gJ s i m=some r):Calls prog 188 #[P_ br,I_ m] w (PX w br sv rv s n r):=by
 refine hq_ λR C=>?_;have c2:=h.c2;have c3:=h.c3;have f3:=h.th 3;have Y:=lA hi;have H:i+m<=zo s i:=Classical.byContradiction λhx=>by unfold gJ at hb;rw[n_ hx]at hb;cases hb
 obtain rfl:r=(s.extract i (i+m),i+m):=by unfold gJ at hb;rw[i_ H]at hb;cases hb;rfl
 clear hb;have S:¬(m:Int) > (s.size:Int)-(i:Int):=M_;have Z:m<=4000:=M_;have T:(i:Int)<=(i:Int)+(m:Int):=M_;have U:(i:Int)+(m:Int)<=(s.size:Int):=M_;obtain⟨tx,z⟩:=x_ (s.extract i (i+m));have J:tx.size=m:=by rw[<- z,a6_];omega
 have E:=zy (show ∀q,q<m->(tx.data.toList.getD q 0).toNat=bt s (i+q) from λq x=>by rw[<- z];exact iR M_ x);have hv:=λ(W:World)=>Lib.run_convert_string_bytes (P:=prog) W 9 94 5 tx wM wU underlying5;have y:=zy (show ∀a b,xu (Lib.bytesWorld (((w.drewN a).setCell ⟨br,3,none⟩ (Z_ ((i:Int)+(m:Int)))).drewN b) 5 tx) br sv rv s (i+m) n/\Fr w (Lib.bytesWorld (((w.drewN a).setCell ⟨br,3,none⟩ (Z_ ((i:Int)+(m:Int)))).drewN b) 5 tx) (· = br)/\∀q,q<m->(Lib.bytesWorld (((w.drewN a).setCell ⟨br,3,none⟩ (Z_ ((i:Int)+(m:Int)))).drewN b) 5 tx).cell? ⟨w.heap.size,q,none⟩=some (.int .u8 (bt s (i+q):Int)) from λa b=>by
  have u:(((w.drewN a).setCell ⟨br,3,none⟩ (Z_ ((i:Int)+(m:Int)))).drewN b).heap.size=w.heap.size:=by simp[World.setCell,World.drewN]
  have h1:xu (((w.drewN a).setCell ⟨br,3,none⟩ (Z_ ((i:Int)+(m:Int)))).drewN b) br sv rv s (i+m) n:=by
   exact((h.si (zq.drewN w a)).move m).si (zq.drewN _ b)
  have K:Fr w (((w.drewN a).setCell ⟨br,3,none⟩ (Z_ ((i:Int)+(m:Int)))).drewN b) (· = br):=(((A_ w (· = br)).si (zq.drewN _ _)).setCell _ _ (λ_=>rfl)).si (zq.drewN _ _)
  generalize ((w.drewN a).setCell ⟨br,3,none⟩ (Z_ ((i:Int)+(m:Int)))).drewN b=V at *
  have D:Fr V (Lib.bytesWorld V 5 tx) N_:=⟨rfl,rfl,rfl,by rw[Lib.bytesWorld_size];omega,λk hk _=>Lib.bytesWorld_at_old V _ tx k hk⟩
  refine⟨D.bl h1 id,K.trans D v_,λq x=>?_⟩
  rw[<- u,Lib.bytesWorld_cell V _ tx q M_,E.o q x])
 replace h:=zy h;go_in;go_wp2;go_quiet (fail);go_wp2;go_quiet (fail);go_wp2;go_loopg [9,48] (m+1) (λq v9 Q W=>Cb w br sv rv s i n m w.heap.size q Q W);case atStart=>exact⟨0,rfl,M_,M_,vU s i,zy ⟨(y.o _ _).1,(y.o _ _).2.1⟩,zy (y.o _ _).2.2⟩
 case round=>
  clear y E hv;obtain⟨k,rfl,X,x,G,A,F⟩:=hrel;have I:=zy z;have a0:=zy J;clear z J c2 c3 f3;by_cases L:k=m
  .subst L;rw[I.o]at C;have O:¬(k:Int)<(k:Int):=M_;go_wp2;try go_ret
   rw[C.o];exact⟨A.o.2,by rw[I.o],M_,A.o.1⟩
  .have N:k<m:=M_;have O:(k:Int)<(m:Int):=M_;have hc:=F.o k N;obtain⟨c,g⟩:=x_ (bt s (i+k));rw[g]at hc;have B:97<=c/\c<=122:=Classical.byContradiction λB=>by
    have u:=mP G;unfold zo at u H;rw[vO (by rw[g];exact B)]at u;omega
   have n1:¬(c:Int)<97:=M_;have n2:¬(c:Int) > 122:=M_;have M:i+(k+1)<=zo s i:=by
    rw[<- mP G];unfold zo;rw[kX M_ (by rw[g];exact B)];exact vU s (i+k+1)
   replace g:=zy g;go_wp2;go_roundg (m+1-(k+1));case measure=>omega
   case rel=>exact⟨k+1,by simp,M_,l_,M,A,F⟩
def cO{w:Aw}{br:Nat}{sv rv:Ax}{s:BA}{i n:Nat}{r:BA×Nat}(h:xu w br sv rv s i n)(hs:s.size<=4000)(hi:i<=s.size)(hb:qU s i=some r):Calls prog 184 #[P_ br] w (PX w br sv rv s n r):=by
 refine hq_ λg c=>?_;unfold qU at hb;cases hz:gQ s i with
 |none=>rw[hz]at hb;cases hb
 |some q=>
  obtain⟨v,j⟩:=q;have hg:=xN hz;obtain⟨m,rfl⟩:∃m:Nat,v=(m:Int):=⟨v.toNat,M_⟩;have g:=zy (fB h hs hi hz);rw[hz]at hb;simp only[bx_]at hb;have u:=zy (λ(W:World) (h:xu W br sv rv s j n)=>pU h hs hg.2.1 hb);go_in;go_wp2_with (first
   |(go_at_call 185;apply g.o.mono;rintro e w1 ⟨a,rfl,g,h1⟩;replace a:=zy a;replace h1:=zy h1)
   |(go_at_call 188;apply(u.o _ h1).mono;rintro e g ⟨b,rfl,hm⟩;replace b:=zy b;replace hm:=zy hm))
  try go_ret
  rw[c.o];exact⟨a.o.trans b u_,rfl,hm⟩
structure YC(P:Az)(ss:BA)(ds:Ar)(sv rv:Ax)(xs:Ay)(s:BA)(br i n:Nat)(W:Aw):Prop where
 R:xu W br sv rv s i n
 D:yR W P ss ds sv xs
 Pbr:∀g,P g->g<br
 hs:s.size<=4000
 il:i<=s.size
section
variable {W W':Aw} {P:Az} {ss:BA} {ds:Ar} {sv rv:Ax} {xs:Ay} {s:BA} {br i n i' n':Nat}
def YC.brP(M:YC P ss ds sv rv xs s br i n W):¬P br:=λh=>a2_ _ (M.Pbr br h)
def YC.lt(M:YC P ss ds sv rv xs s br i n W):br<W.heap.size:=Blk.lt M.R
def YC.call(M:YC P ss ds sv rv xs s br i n W)(h:xu W' br sv rv s i' n')(hf:Fr W W' (· = br))(hi:i'<=s.size):YC P ss ds sv rv xs s br i' n' W':=
 ⟨h,M.D.fr hf (λg hg e=>M.brP (e▸hg)),M.Pbr,M.hs,hi⟩
def YC.new(M:YC P ss ds sv rv xs s br i n W)(hf:Fr W W' N_):YC P ss ds sv rv xs s br i n W':=M.call (hf.bl M.R id) (hf.mono v_) M.il
def YC.si(M:YC P ss ds sv rv xs s br i n W)(hf:zq W W'):YC P ss ds sv rv xs s br i n W':=M.new ((A_ W _).si hf)
end
def yk(env:Au)(t:PT)(w:Aw)(sv rv:Ax)(s:BA)(br:Nat)(q:Em)(e:Ak)(w':Aw):Prop:=
 ∃v,e=.returned (.tuple #[v,.nilIface])/\Fr w w' (· = br)/\DaV env w' (λg=>w.heap.size<=g) q.1 t v/\xu w' br sv rv s q.2.1 q.2.2/\q.2.1<=s.size
section
variable {env:Au} {t:PT} {w w1 w':Aw} {sv rv:Ax} {s:BA} {br j m:Nat} {d:DT} {v:Ax} {q:Em} {e:Ak}
def yok(h:DaV env w' (λg=>w.heap.size<=g) d t v)(hf:Fr w w' (· = br))(a:xu w' br sv rv s j m)(b:j<=s.size):yk env t w sv rv s br (d,j,m) (.returned (.tuple #[v,.nilIface])) w':=⟨v,rfl,hf,h,a,b⟩
def yk.pre2(hf:Fr w w1 (· = br))(h:yk env t w1 sv rv s br q e w'):yk env t w sv rv s br q e w':=by
 obtain⟨v,he,a,hm,hr⟩:=h;have hz:=hf.size;exact⟨v,he,hf.trans a u_,hm.mono (λg _ hg=>M_),hr⟩
def yk.pre(hf:Fr w w1 N_)(h:yk env t w1 sv rv s br q e w'):yk env t w sv rv s br q e w':=h.pre2 (hf.mono v_)
end
def db(P:Az)(ss:BA)(ds:Ar)(sv rv:Ax)(xs:Ay)(s:BA)(br f:Nat)(t:PT)(i n:Nat):Prop:=
 ∀(w:World) (v:Value) (q:DT×Nat×Nat),YC P ss ds sv rv xs s br i n w->n<=300->TyV w P t v->rdB s (zx ds) f t i n=.ok q->
  Calls prog 47 #[P_ br,v] w (yk (zx ds) t w sv rv s br q)
section
variable {w:Aw} {P:Az} {ss:BA} {ds:Ar} {sv rv:Ax} {xs:Ay} {s:BA} {br i n:Nat} {env:Au} {t:PT} {q:Em}
def Zm(M:YC P ss ds sv rv xs s br i n w)(hb:(if i<s.size/\bt s i<=1 then .ok (.mk 116 (bt s i:Int) noB [] [],i+1,n) else .error 6:Except Nat (DT×Nat×Nat))=.ok q):Calls prog 130 #[P_ br] w (yk env t w sv rv s br q):=by
 refine hq_ λu g=>?_;by_cases hx:i<s.size/\bt s i<=1;case neg=>rw[n_ hx]at hb;cases hb
 rw[i_ hx]at hb;cases hb;obtain⟨b,h⟩:=hx;have a:=tJ M.R M.hs b;obtain⟨c,hc⟩:=x_ (bt s i);rw[hc]at a g h;replace a:=zy a;have h:¬(c:Int) > 1:=M_;have h:c=0\/c=1:=M_;rcases h with rfl|rfl;all_goals
  go_in;go_wp2_with (go_at_call 182;apply a.o.mono;rintro e w1 ⟨rfl,h1,a⟩;replace h1:=zy h1;replace a:=zy a);try go_ret
  rw[g.o]
 .exact yok (W_ (.truth false) D_) a h1 b
 .exact yok (W_ (.truth true) D_) a h1 b
def pG{c:Nat}{lo up:Int}(hc:c=105\/c=108)(M:YC P ss ds sv rv xs s br i n w)(a:(match wt s lo up i with|none=>.error 6|some (q,j)=>.ok (.mk c q noB [] [],j,n):Except Nat (DT×Nat×Nat))=.ok q):Calls prog 131 #[P_ br,Z_ lo,Z_ up] w (yk env t w sv rv s br q):=by
 refine hq_ λh g=>?_;cases hb:wt s lo up i with
 |none=>rw[hb]at a;cases a
 |some r=>
  obtain⟨v,j⟩:=r;have hg:=xN hb;rw[hb]at a;cases a;have a:=zy (wP (lo:=lo) (up:=up) M.R M.hs M.il hb);go_in;go_wp2_with (go_at_call 183;apply a.o.mono;rintro e w1 ⟨b,rfl,a,h1⟩;replace b:=zy b;replace h1:=zy h1);try go_ret
  rw[g.o];exact yok (W_ (.num c v hc hg.2.2.2.2.1 hg.2.2.2.2.2) D_) b h1 a
def Vu(M:YC P ss ds sv rv xs s br i n w)(a:(match qU s i with|none=>.error 6|some (tx,j)=>.ok (.mk 115 0 tx [] [],j,n):Except Nat (DT×Nat×Nat))=.ok q):Calls prog 132 #[P_ br] w (yk env t w sv rv s br q):=by
 refine hq_ λg c=>?_;have g:=M.hs;cases hb:qU s i with
 |none=>rw[hb]at a;cases a
 |some r=>
  obtain⟨tx,j⟩:=r;have hg:=qA hb;rw[hb]at a;cases a;have a:=zy (cO M.R M.hs M.il hb);go_in;go_wp2_with (go_at_call 184;apply a.o.mono;rintro e w1 ⟨b,rfl,a,h1⟩;replace b:=zy b;replace h1:=zy h1);try go_ret
  rw[c.o];exact yok (W_ (.text tx M_) D_) b h1 a
end
structure YL(P:Az)(ss:BA)(ds:Ar)(sv rv:Ax)(xs:Ay)(s:BA)(br j nn:Nat)(cx:Ay)(ct:Av)(t:PT)(w:Aw)(lv:Ax)(l:Ae)(W:Aw):Prop where
 M:YC P ss ds sv rv xs s br j nn W
 fr:Fr w W (· = br)
 bx:Blk W w.heap.size cx ct
 bB:w.heap.size+1<=W.heap.size
 lt:br<w.heap.size
 row:jY (zx ds) W (w.heap.size+1) (λg=>w.heap.size+1<=g/\lv.ownBlock≠some g) t lv l
section
variable {w W W':Aw} {P:Az} {ss:BA} {ds:Ar} {sv rv:Ax} {xs:Ay} {s:BA} {br i n j nn j' nn':Nat} {cx:Ay} {ct:Av} {t:PT} {lv:Ax} {l:Ae}
def YL.call(Q:YL P ss ds sv rv xs s br j nn cx ct t w lv l W)(h:xu W' br sv rv s j' nn')(hf:Fr W W' (· = br))(c:j'<=s.size):YL P ss ds sv rv xs s br j' nn' cx ct t w lv l W':=by
 have h1:=Q.lt;have b:=Q.bB;refine⟨Q.M.call h hf c,Q.fr.trans hf u_,hf.bl Q.bx M_,ak_ b hf.size,h1,Q.row.fr hf (λg hg=>M_) (λg hg=>?_)⟩;obtain⟨Y,a,_⟩:=Q.row;have:=a.lt g hg;omega
def YL.item(Q:YL P ss ds sv rv xs s br j nn cx ct t w lv l W){o:Obj}{h:Aw}{b v:Ax}{d:DT}{Y:Ai}(A:∀i d,l[i]?=some d->DaV (zx ds) W (λg=>w.heap.size+1<=g/\lv.ownBlock≠some g) d (yg (zx ds) t 0 i) (Y i))(hd:DaV (zx ds) W (λg=>w.heap.size+1<=g/\lv.ownBlock≠some g) d (yg (zx ds) t 0 l.length) v)(hg:(W.alloc o).grownBy h lv.ownBlock)(ho:h.ownsRow (w.heap.size+1) 52 1 b (l.length+1) (((List.range l.length).flatMap λi=>[Y i])++[v]))(hl:b.ownBlock=lv.ownBlock\/b.ownBlock=some (W.alloc o).heap.size):YL P ss ds sv rv xs s br j nn cx ct t w b (l++[d]) h:=by
 have h1:=Q.lt;have y:=Q.bB;have b:(W.alloc o).heap.size=W.heap.size+1:=x7_
 obtain⟨b,a,_⟩:=Q.row;have b:Fr W h (λg=>lv.ownBlock=some g):=((A_ W _).alloc o).gw hg (λk e _=>e);have u:∀g,lv.ownBlock=some g->w.heap.size+1<=g:=λg e=>(a.lt g e).1;have z:YC P ss ds sv rv xs s br j nn h:=by
  exact⟨b.bl Q.M.R (λe=>o1_ (u _ e)),Q.M.D.fr b (λg hg e=>o2_ (u _ e) (Q.M.Pbr g hg)),Q.M.Pbr,Q.M.hs,Q.M.il⟩
 refine⟨z,Q.fr.trans b (λx hx e=>absurd (u x e) M_),b.bl Q.bx (λe=>o1_ (u _ e)),ak_ y b.size,h1,jY.grow A hd (b.mono (λg _ e=>.inl e)) (c:=br) M_ ?_ ho⟩;rcases hl with e|e
 .exact .inl e
 .exact .inr ⟨_,e,M_⟩
end
def Bi(LL:List (BA×DT)×Nat×Nat)(R:Nat->Nat->Except Nat (DT×Nat×Nat))(cnt n:Nat)(P:Az)(ss:BA)(ds:Ar)(sv rv:Ax)(xs:Ay)(s:BA)(br:Nat)(cx:Ay)(ct:Av)(t:PT)(w:Aw)(q:Nat)(v8 v20:Ax)(W:Aw):Prop:=
 ∃(acc:List (BA×DT)) (j nn:Nat),v20=I_ acc.length/\acc.length<=cnt/\n+acc.length<=nn/\nn<=300/\302<=q+nn/\H_ (YL P ss ds sv rv xs s br j nn cx ct t w v8 (acc.map Prod.snd) W)/\.ok LL=gB acc (xP R s false (cnt-acc.length) (kP acc) j nn)
section
variable {w:Aw} {P:Az} {ss:BA} {ds:Ar} {sv rv:Ax} {xs:Ay} {s:BA} {br i n:Nat}
def cwVm1_{p:Prop}(h:p:=by
 obtain⟨d,c,a⟩:=r1;(first|(have _:=cc1;have hC:=zy (hR.o _ hmem j nn hnn hnn3 hQ.o.M.il _ _ (d,c,a) Q0.M hnn3 (hT.fr A1 u_) hrd))|(have hC:=zy (hR.o j nn M_ hnn3 hQ.o.M.il wr _ (d,c,a) hQ.o.M hnn3 (hT.o.fr hQ.o.fr (λg hg e=>hnb (e▸hg))) hrd)));rw[hrd]at hres;(first|(have _:=cc1;replace Q0:=zy Q0;clear hT;have E:=pN s (zx ds) f g0.ty j nn d c a hQ.o.M.il hnn3 hrd)|(have E:=pN s (zx ds) f u j nn d c a hQ.o.M.il hnn3 hrd));have K:=zy hres;(first|(have _:=cc1;have N:=zy (λi d (e:l[i]?=some d)=>(hY i d e).fr A1 u_);have C:=zy (zj hrow A1 u_))|(replace hY:=zy hY));replace hrow:=zy hrow;(first|(have _:=cc1;replace A1:=zy A1)|(have hL3:acc.length<=300:=M_));obtain⟨ti,G,H,I,J⟩:=info_parts qP;(first|(have _:=cc1;clear hres hY hd hmem)|(clear hres));go_wp2_with (first
  |(go_at_call 47;apply hC.o.mono;rintro e w1 ⟨b,rfl,hf1,y,A,B⟩;obtain⟨dT,z,rfl⟩:=y.iface;(first|(have _:=cc1;have b:=Q0.o.call A hf1 B)|(have b:=hQ.o.call A hf1 B));have hb1:=b.bB;(first|(have _:=cc1;have L:=zy (zj C.o hf1 (λg hg e=>o1_ (C.o.lt g hg))))|(have L:=zy (zj hrow.o hf1 (λg hg e=>o1_ (hrow.o.lt g hg)))));(first|(have _:=cc1;have B:=zy (y.mono (Q:=λg=>w.heap.size+1<=g/\(Value.slice la l.length lc).ownBlock≠some g) (λg _ hg=>⟨by have:=hz1.o;omega,λe=>by have:=hrow.o.lt g e;have:=hz1.o;omega⟩)))|(have B:=zy (y.mono (Q:=λg=>w.heap.size+1<=g/\(Value.slice la acc.length lc).ownBlock≠some g) (λg _ hg=>⟨M_,λe=>o1_ (hrow.o.lt g e)⟩))));(first|(have _:=cc1;have C:=zy (λi d (e:l[i]?=some d)=>(N.o i d e).fr hf1 (λg hg e=>o1_ hg.1)))|(have C:=zy (λi d (e:(acc.map Prod.snd)[i]?=some d)=>(hY.o i d e).fr hf1 (λg hg e=>o1_ hg.1))));replace b:=zy b;(first|(have _:=cc1;clear y A hf1)|(clear y A)))
  |(at_builtin;go_must ((first|(have _:=cc1;refine wpList_append_own_at _ rfl _ _ 152 rfl (w.heap.size+1) 52 ti _ 1 16 Zi G H I J rfl D_ (.slice la l.length lc) l.length ((List.range l.length).flatMap λi=>[Y i]) rfl ?hown _ 1 1 [.iface dT z] rfl rfl (zK _ #[.iface dT z] _ _ ?nn) ?one ?b1 ?b2 ?b3 ?_)|(refine wpList_append_own_at _ rfl _ _ 144 rfl (w.heap.size+1) 52 ti _ 1 16 sF G H I J rfl D_ (.slice la acc.length lc) acc.length ((List.range acc.length).flatMap λi=>[Y i]) rfl ?hown _ 1 1 [.iface dT z] rfl rfl (zK _ #[.iface dT z] _ _ ?nn) ?one ?b1 ?b2 ?b3 ?_)))
    case hown=>exact World.ownsRow.alloc L.o _
    case nn=>simp
    case one=>simp[Value.oneCell']
    case b1=>unfold maxLen;omega
    case b2=>omega
    case b3=>simp;omega
    intro y y ho5 D O F
    (first|(have _:=cc1;have x:=b.o.item C.o (by rw[hsb.o];exact B.o) D ho5 F)|(have x:=b.o.item C.o B.o D z9_ F))
    obtain⟨b,b,rfl⟩:=zg ho5 M_
    clear D F O ho5
    replace x:=zy x))
 (first|(have _:=cc1;go_roundg (302-(l.length+1)))|(go_roundg (302-a)));case measure=>omega
 case rel=>
  (first|(have _:=cc1;refine⟨l++[d],c,a,by simp,by simp;omega,M_,E.2.2.2,by simp;omega,x,?_⟩)|(refine⟨acc++[(noB,d)],c,a,by simp,by simp;omega,by simp;omega,E.2.2.2,M_,zy (by rw[bd_];exact x.o),?_⟩));(first|(have _:=cc1;rw[K.o,ag_,ap_])|(rw[K.o,ag_,ap_,show cnt-(acc.length+1)=cn by omega];(have:kP (acc++[(noB,d)])=some noB:=by simp[kP]);rw[this]))):p:=h
def Vm{u:PT}{vT:Av}{vx:Ax}(M:YC P ss ds sv rv xs s br i n w)(hn:n<=300)(hT:TyV w P u (.iface vT vx))(hR:∀j nn,n<=nn->nn<=300->j<=s.size->db P ss ds sv rv xs s br f u j nn){q:Em}(b:uz (rdB s (zx ds) f u) s 91 i n=.ok q):Calls prog 133 #[P_ br,.agg #[Z_ pt,.iface vT vx]] w (yk (zx ds) (.wrap 91 p u) w sv rv s br q):=by
 refine hq_ λE B=>?_;rw[oO]at b;have E:=M.hs;have C:=M.lt;have A:Fr w (w.alloc (.cells #[Z_ pt,.iface vT vx] 222)) N_:=(A_ w _).alloc _;have c:=M.new A;have y:=B_ w #[Z_ pt,.iface vT vx] 222;have hnb:=M.brP;replace hT:=zy hT;replace hR:=zy hR;cases hb:gQ s i with
 |none=>rw[hb]at b;cases b
 |some r0=>
  obtain⟨v,x⟩:=r0;have hC:=zy (fB c.R c.hs c.il hb);have hg:=xN hb;obtain⟨cnt,rfl⟩:∃m:Nat,v=(m:Int):=⟨v.toNat,M_⟩;rw[hb]at b;simp only[bx_]at b;rw[show((91:Nat)==123)=false from rfl]at b;obtain⟨LL,z,rfl⟩:∃r,.ok r=xP (rdB s (zx ds) f u) s false cnt none x n/\q=(.mk 91 0 noB [] (r.1.map Prod.snd),r.2):=by
   cases hx:xP (rdB s (zx ds) f u) s false cnt none x n with
   |error e=>rw[hx]at b;cases b
   |ok r=>rw[hx]at b;cases b;exact⟨r,rfl,rfl⟩
  have start:H_ (∀w1,xu w1 br sv rv s x n->Fr (w.alloc (.cells #[Z_ pt,.iface vT vx] 222)) w1 (· = br)->Bi LL (rdB s (zx ds) f u) cnt n P ss ds sv rv xs s br [Z_ pt,.iface vT vx] 222 (.wrap 91 p u) w 302 (L_) (O_) w1):=zy (λw1 h1 h=>⟨[],x,n,rfl,by simp,by simp,hn,M_,zy ⟨c.call h1 h hg.2.1,(A.mono v_).trans h u_,h.bl y M_,by have:=h.size;simp at this;omega,C,jY.nil _ _ _ _ _⟩,by rw[rH,z];rfl⟩);clear z;have h:(cnt:Int)<=9223372036854775807:=hg.2.2.2.1;clear M c y A hb;go_in;go_wp2_with (go_at_call 185;apply hC.o.mono;rintro e w1 ⟨hf1,rfl,c,h1⟩;have c:=zy (start.o w1 h1 hf1);clear hf1 h1);go_loopg [8,9,10,20] 302 (λq x h h h W=>Bi LL (rdB s (zx ds) f u) cnt n P ss ds sv rv xs s br [Z_ pt,.iface vT vx] 222 (.wrap 91 p u) w q x h W);case atStart=>exact c
  case round=>
   clear start c hC;obtain⟨acc,j,nn,rfl,c,hnn,hnn3,b,hQ,hres⟩:=hrel;obtain⟨Y,hrow,hY⟩:=hQ.o.row;obtain⟨la,lc,rfl⟩:=zw hrow;have hll:(acc.map Prod.snd).length=acc.length:=x7_
   rw[hll]at hrow hQ hY;by_cases c:acc.length=cnt
   .have D:¬(acc.length:Int)<(cnt:Int):=M_;obtain rfl:LL=(acc,j,nn):=xw_
    have b:=zy hQ.o.row;clear hres hrow hY hll c;go_wp2;try go_ret
    rw[B.o];refine yok ?_ hQ.o.fr hQ.o.M.R hQ.o.M.il;exact b.o.dat (λg _ hg=>M_) (λg e=>by have:=b.o;obtain⟨_,a,_⟩:=this;have:=(a.lt g e).1;show w.heap.size<=g;omega) (.inl ⟨rfl,rfl⟩)
   .have D:(acc.length:Int)<(cnt:Int):=M_;obtain⟨cn,b⟩:∃cn,cnt-acc.length=cn+1:=⟨cnt-acc.length-1,M_⟩;rw[b,cq]at hres;have b:pe s false (kP acc) j=some (noB,j):=by simp[pe]
    rw[b]at hres;simp only[oa]at hres;have b:=hQ.o.bx.c1;have b:=hQ.o.bB;cases hrd:rdB s (zx ds) f u j nn with
    |error e0=>rw[hrd]at hres;cases hres
    |ok r1=>
     exact cwVm1_
end
structure YM(P:Az)(ss:BA)(ds:Ar)(sv rv:Ax)(xs:Ay)(s:BA)(br j nn:Nat)(cx:Ay)(ct:Av)(t:PT)(w:Aw)(lv:Ax)(l:Ag)(W:Aw):Prop where
 M:YC P ss ds sv rv xs s br j nn W
 fr:Fr w W (· = br)
 bx:Blk W w.heap.size cx ct
 bB:w.heap.size+1<=W.heap.size
 lt:br<w.heap.size
 row:∃ys,W.ownsRow (w.heap.size+1) 201 2 lv l.length ys/\GX (wX l) l.length ys/\qe (zx ds) W (λg=>w.heap.size+1<=g/\lv.ownBlock≠some g) t l ys
section
variable {w W W':Aw} {P:Az} {ss:BA} {ds:Ar} {sv rv:Ax} {xs:Ay} {s:BA} {br i n j nn j' nn':Nat} {cx:Ay} {ct:Av} {t:PT} {lv:Ax} {l:Ag}
def YM.call(Q:YM P ss ds sv rv xs s br j nn cx ct t w lv l W)(h:xu W' br sv rv s j' nn')(hf:Fr W W' (· = br))(u:j'<=s.size):YM P ss ds sv rv xs s br j' nn' cx ct t w lv l W':=by
 have h1:=Q.lt;have o:=Q.bB;obtain⟨ys,a,b,c⟩:=Q.row;exact⟨Q.M.call h hf u,Q.fr.trans hf u_,hf.bl Q.bx M_,ak_ o hf.size,h1,ys,zj a hf (λg hg e=>o1_ (a.lt g hg)),b,c.fr hf (λg hg e=>M_)⟩
def YM.item(Q:YM P ss ds sv rv xs s br j nn cx ct t w lv l W){o:Obj}{b:Aw}{a v:Ax}{d:DT}{key:BA}{ys:Ay}(ha:W.ownsRow (w.heap.size+1) 201 2 lv l.length ys)(z:qe (zx ds) W (λg=>w.heap.size+1<=g/\lv.ownBlock≠some g) t l ys)(hk:key.size<=4000)(hd:DaV (zx ds) W (λg=>w.heap.size+1<=g/\lv.ownBlock≠some g) d (yg (zx ds) t 0 l.length) v)(hg:(W.alloc o).grownBy b lv.ownBlock)(ho:b.ownsRow (w.heap.size+1) 201 2 a (l.length+1) (ys++[.string key,v]))(hl:a.ownBlock=lv.ownBlock\/a.ownBlock=some (W.alloc o).heap.size):YM P ss ds sv rv xs s br j nn cx ct t w a (l++[(key,d)]) b:=by
 have h1:=Q.lt;have u:=Q.bB;have a:(W.alloc o).heap.size=W.heap.size+1:=x7_
 have a:Fr W b (λg=>lv.ownBlock=some g):=((A_ W _).alloc o).gw hg (λk e _=>e);have h:∀g,lv.ownBlock=some g->w.heap.size+1<=g:=λg e=>(ha.lt g e).1;have y:YC P ss ds sv rv xs s br j nn b:=by
  exact⟨a.bl Q.M.R (λe=>o1_ (h _ e)),Q.M.D.fr a (λg hg e=>o2_ (h _ e) (Q.M.Pbr g hg)),Q.M.Pbr,Q.M.hs,Q.M.il⟩
 have b:=ha.1;refine⟨y,Q.fr.trans a (λx hx e=>absurd (h x e) M_),a.bl Q.bx (λe=>o1_ (h _ e)),ak_ u a.size,h1,_,by rw[ag_,ap_];exact ho,?_,qe.grow z hd hk (a.mono (λg _ e=>.inl e)) (c:=br) M_ ?_⟩
 .rw[jF,ag_,ap_];exact⟨l.length,rfl,by rw[as_ M_,show l.length*2-ys.length=0 by omega];rfl⟩
 .rcases hl with e|e
  .exact .inl e
  .exact .inr ⟨_,e,M_⟩
end
def Bn(LL:List (BA×DT)×Nat×Nat)(R:Nat->Nat->Except Nat (DT×Nat×Nat))(cnt n:Nat)(P:Az)(ss:BA)(ds:Ar)(sv rv:Ax)(xs:Ay)(s:BA)(br:Nat)(cx:Ay)(ct:Av)(t:PT)(w:Aw)(q:Nat)(v8 v21:Ax)(W:Aw):Prop:=
 ∃(acc:List (BA×DT)) (j nn:Nat),v21=I_ acc.length/\acc.length<=cnt/\n+acc.length<=nn/\nn<=300/\302<=q+nn/\H_ (YM P ss ds sv rv xs s br j nn cx ct t w v8 acc W)/\.ok LL=gB acc (xP R s true (cnt-acc.length) (wX acc) j nn)
section
variable {w:Aw} {P:Az} {ss:BA} {ds:Ar} {sv rv:Ax} {xs:Ay} {s:BA} {br i n:Nat}
def cwQo1_{p:Prop}(h:p:=by
 obtain⟨d,j2,m1⟩:=r2;have hRe:=zy (λw1 h1 hf=>hRd.o w1 h1 hf hrd);rw[hrd]at hres;have hgo:=pN s (zx ds) f u j1 nn d j2 m1 M_ hnn3 hrd;have hres':=zy hres;obtain⟨ti,hi1,hi2,hi3,hi4⟩:=info_parts bH;clear hres;go_wp2_with (first
  |(go_at_call 184;apply hK.o.mono;rintro e w1 ⟨hf1,rfl,hj1,h1⟩;(try have:=cc1;have hk1:=hfac.o w1 hf1);have hC:=zy (hRe.o w1 h1 hf1);have Q1:=hQ.o.call h1 hf1 hj1;have c1:=Q1.bx.cell 1;have hb1:=Q1.bB;have hrow1:=zy (zj hrw.o hf1 (λg hg e=>o1_ (hrw.o.lt g hg)));have hY1:=zy (hYh.o.fr hf1 (λg hg e=>o1_ hg.1));simp only[aa_,ab_]at c1;replace Q1:=zy Q1;clear h1 hf1)
  |(go_at_call 47;apply hC.o.mono;rintro e w2 ⟨v2,rfl,hf2,hD2,hR2,hj2⟩;obtain⟨dT,dx,rfl⟩:=hD2.iface;have Q2:=Q1.o.call hR2 hf2 hj2;have hb2:=Q2.bB;have hrow2:=zy (zj hrow1.o hf2 (λg hg e=>o1_ (hrow1.o.lt g hg)));(first|(have:=cc1;have hD2':=zy (hD2.mono (Q:=λg=>w.heap.size+1<=g/\(Value.slice (some ⟨gz,0,none⟩) acc.length lc).ownBlock≠some g) (λg _ hg=>⟨M_,λe=>o1_ (hrow1.o.lt g e)⟩)))|(have hD2':=zy (hD2.mono (Q:=λg=>w.heap.size+1<=g/\(Value.slice la acc.length lc).ownBlock≠some g) (λg _ hg=>⟨M_,λe=>o1_ (hrow1.o.lt g e)⟩))));have hY2:=zy (hY1.o.fr hf2 (λg hg e=>o1_ hg.1));replace Q2:=zy Q2;clear hD2 hR2 hf2)
  |(at_builtin;go_must ((first|(have:=cc1;refine wpList_append_own_at _ rfl _ _ 147 rfl (w.heap.size+1) 201 ti _ 2 32 lj hi1 hi2 hi3 hi4 rfl D_ (Value.slice (some ⟨gz,0,none⟩) acc.length lc) acc.length ys rfl ?hown _ 1 1 [.string key,.iface dT dx] rfl rfl (zK _ #[.string key,.iface dT dx] _ _ ?nn) ?one ?b1 ?b2 ?b3 ?_)|(refine wpList_append_own_at _ rfl _ _ 147 rfl (w.heap.size+1) 201 ti _ 2 32 lj hi1 hi2 hi3 hi4 rfl D_ (Value.slice la acc.length lc) acc.length ys rfl ?hown _ 1 1 [.string key,.iface dT dx] rfl rfl (zK _ #[.string key,.iface dT dx] _ _ ?nn) ?one ?b1 ?b2 ?b3 ?_)))
    case hown=>exact World.ownsRow.alloc hrow2.o _
    case nn=>simp
    case one=>simp[Value.oneCell']
    case b1=>unfold maxLen;omega
    case b2=>omega
    case b3=>simp;omega
    intro v5 w5 ho5 hg5 hn5 hl5
    have Q5:=Q2.o.item (d:=d) hrow2.o hY2.o hks hD2'.o hg5 ho5 hl5
    obtain⟨g5,cap5,rfl⟩:=zg ho5 M_
    clear hg5 hl5 hn5 ho5
    replace Q5:=zy Q5))
 go_roundg (302-m1);case measure=>omega
 case rel=>
  refine⟨acc++[(key,d)],j2,m1,by simp,by simp;omega,by simp;omega,hgo.2.2.2,M_,zy Q5.o,?_⟩;rw[hres'.o,ag_,ap_,show cnt-(acc.length+1)=cn by omega,jF]):p:=h
def Qo{u:PT}{vT:Av}{vx:Ax}(M:YC P ss ds sv rv xs s br i n w)(hn:n<=300)(B:TyV w P u (.iface vT vx))(z:∀j nn,n<=nn->nn<=300->j<=s.size->db P ss ds sv rv xs s br f u j nn){q:Em}(a:uz (rdB s (zx ds) f u) s 123 i n=.ok q):Calls prog 134 #[P_ br,.agg #[Z_ pt,.iface vT vx]] w (yk (zx ds) (.wrap 123 p u) w sv rv s br q):=by
 refine hq_ λI G=>?_;rw[oO]at a;have I:=M.hs;have H:=M.lt;have A:Fr w (w.alloc (.cells #[Z_ pt,.iface vT vx] 223)) N_:=(A_ w _).alloc _;have h:=M.new A;have E:=B_ w #[Z_ pt,.iface vT vx] 223;have C:=M.brP;replace B:=zy B;replace z:=zy z;cases hb:gQ s i with
 |none=>rw[hb]at a;cases a
 |some r0=>
  obtain⟨v,D⟩:=r0;have hC:=zy (fB h.R h.hs h.il hb);have hg:=xN hb;obtain⟨cnt,rfl⟩:∃m:Nat,v=(m:Int):=⟨v.toNat,M_⟩;rw[hb]at a;simp only[bx_]at a;rw[show((123:Nat)==123)=true from rfl]at a;obtain⟨LL,F,rfl⟩:∃r,.ok r=xP (rdB s (zx ds) f u) s true cnt none D n/\q=(.mk 123 0 noB (r.1.map Prod.fst) (r.1.map Prod.snd),r.2):=by
   cases hx:xP (rdB s (zx ds) f u) s true cnt none D n with
   |error e=>rw[hx]at a;cases a
   |ok r=>rw[hx]at a;cases a;exact⟨r,rfl,rfl⟩
  have start:H_ (∀w1,xu w1 br sv rv s D n->Fr (w.alloc (.cells #[Z_ pt,.iface vT vx] 223)) w1 (· = br)->Bn LL (rdB s (zx ds) f u) cnt n P ss ds sv rv xs s br [Z_ pt,.iface vT vx] 223 (.wrap 123 p u) w 302 (L_) (O_) w1):=zy (λw1 h1 y=>⟨[],D,n,rfl,by simp,by simp,hn,M_,zy ⟨h.call h1 y hg.2.1,(A.mono v_).trans y u_,y.bl E M_,by have:=y.size;simp at this;omega,H,[],World.ownsRow_nil _ _ _ _,rfl,qe.nil _ _ _ _⟩,by rw[rH,F];rfl⟩);clear F;have y:(cnt:Int)<=9223372036854775807:=hg.2.2.2.1;clear M h E A hb;go_in;go_wp2_with (go_at_call 185;apply hC.o.mono;rintro e w1 ⟨hf1,rfl,h,h1⟩;have h:=zy (start.o w1 h1 hf1);clear hf1 h1);go_loopg [8,9,10,11,21] 302 (λq D y y y y W=>Bn LL (rdB s (zx ds) f u) cnt n P ss ds sv rv xs s br [Z_ pt,.iface vT vx] 223 (.wrap 123 p u) w q D y W);case atStart=>exact h
  case round=>
   clear start h hC;obtain⟨acc,j,nn,rfl,h,h,hnn3,a,hQ,hres⟩:=hrel;obtain⟨ys,b,c,x⟩:=hQ.o.row;obtain⟨la,lc,rfl⟩:=zw b;by_cases y:acc.length=cnt
   .have h:¬(acc.length:Int)<(cnt:Int):=M_;obtain rfl:LL=(acc,j,nn):=xw_
    have a:=zy x;have hrw:=zy b;clear hres b x y c;go_wp2;try go_ret
    rw[G.o];refine yok ?_ hQ.o.fr hQ.o.M.R hQ.o.M.il;exact a.o.dat hrw (λg _ hg=>M_) (λg e=>by have:=(hrw.o.lt g e).1;show w.heap.size<=g;omega)
   .have h:(acc.length:Int)<(cnt:Int):=M_;obtain⟨cn,a⟩:∃cn,cnt-acc.length=cn+1:=⟨cnt-acc.length-1,M_⟩;rw[a,cq]at hres;have a:=hQ.o.bB;have a:acc.length<=300:=M_;cases a:qU s j with
    |none=>simp[pe,a]at hres
    |some r1=>
     obtain⟨key,j1⟩:=r1;have hK:=zy (cO hQ.o.M.R hQ.o.M.hs hQ.o.M.il a);have h:=qA a;have hks:key.size<=4000:=M_;have hYh:=zy x;have hrw:=zy b;cases h:wX acc with
     |none=>
      have D:acc.length=0:=by rw[h]at c;exact c
      have G:¬(0:Int)<(acc.length:Int):=M_;replace D:=zy D;rw[h,show pe s true none j=some (key,j1) by simp[pe,a,kV]]at hres;clear b x c;simp only[oa]at hres;have hRd:=zy (λw1 (h1:xu w1 br sv rv s j1 nn) (hf:Fr wr w1 (· = br)) {r3}=>z.o j1 nn M_ hnn3 M_ w1 _ r3 (hQ.o.M.call h1 hf M_) hnn3 ((B.o.fr hQ.o.fr (λg hg e=>C (e▸hg))).fr hf (λg hg e=>C (e▸hg))));clear y;cases hrd:rdB s (zx ds) f u j1 nn with
      |error e0=>rw[hrd]at hres;cases hres
      |ok r2=>
       exact cwQo1_
     |some key0=>
      have hm:=c;rw[h]at hm;obtain⟨m,D,E⟩:=hm;obtain⟨gz,F,F⟩:=zg b M_;cases F;have F:IntKind.i64.wrap ((acc.length:Int)-1)=(m:Int):=y0_
      have G:(0:Int)<(acc.length:Int):=M_;have F:0<acc.length:=M_;have F:(m:Int)<(acc.length:Int):=M_;have hfac:H_ (∀w1,Fr wr w1 (· = br)->w1.cell? ⟨gz,m*2,none⟩=some (.string key0)):=zy (λw1 hf=>zr (zj b hf (λg' hg e=>o2_ (b.lt g' hg) hQ.o.lt)) rfl E);replace D:=zy D;clear E b x c;by_cases b:Op.bytesLess key0.toList key.toList=true;case neg=>simp[h,pe,a,kV,b]at hres
      have c:(Op.bytesLess key.toList key0.toList||key.toList==key0.toList)=false:=by
       rw[fE];rw[show Op.bytesLess key0.toList key.toList=true from b];rfl
      rw[h,show pe s true (some key0) j=some (key,j1) by simp[pe,a,kV,b]]at hres;replace b:=zy b;simp only[oa]at hres;have hRd:=zy (λw1 (h1:xu w1 br sv rv s j1 nn) (hf:Fr wr w1 (· = br)) {r3}=>z.o j1 nn M_ hnn3 M_ w1 _ r3 (hQ.o.M.call h1 hf M_) hnn3 ((B.o.fr hQ.o.fr (λg hg e=>C (e▸hg))).fr hf (λg hg e=>C (e▸hg))));clear y;cases hrd:rdB s (zx ds) f u j1 nn with
      |error e0=>rw[hrd]at hres;cases hres
      |ok r2=>
       have cc1:=Nat;exact cwQo1_
end
section
variable {w:Aw} {P:Az} {ss:BA} {ds:Ar} {sv rv:Ax} {xs:Ay} {s:BA} {br i n:Nat}
def Zu{l:Af}{u:Ax}{X:Ai}(M:YC P ss ds sv rv xs s br i n w)(hn:n<=300)(hl:l.length<=4000)(ho:w.ownsRow 0 46 1 u l.length ((List.range l.length).map X))(hP:∀g,u.ownBlock=some g->P g)(hX:∀i t,l[i]?=some t->TyV w P t (X i))(G:∀t∈l,∀j,j<=s.size->db P ss ds sv rv xs s br f t j n){q:Em}(a:fZ (rdB s (zx ds) f) s l i n=.ok q):Calls prog 135 #[P_ br,.agg #[Z_ pt,u]] w (yk (zx ds) (.alts p l) w sv rv s br q):=by
 refine hq_ λu K=>?_;have u:=M.lt;have I:=M.brP;obtain⟨B,y,rfl⟩:=zw ho;have A:Fr w (w.alloc (.cells #[Z_ pt,.slice B l.length y] 226)) N_:=(A_ w _).alloc _;have c:=M.new A;have F:=B_ w #[Z_ pt,.slice B l.length y] 226;have u:=M.hs;unfold fZ at a;cases hb:wt s 0 ((l.length:Int)-1) i with
 |none=>rw[hb]at a;cases a
 |some r0=>
  obtain⟨v,j⟩:=r0;have L:=zy (ml hl c.R c.hs c.il hb);have hg:=xN hb;obtain⟨k,rfl⟩:∃m:Nat,v=(m:Int):=⟨v.toNat,M_⟩;rw[hb]at a;simp only[bx_]at a;have D:k<l.length:=M_;have O:k<=4000:=M_;have u:(k:Int)<(l.length:Int):=M_;have hd:l[k]?=some l[k]:=ai_ D;have E:l[k]∈l:=bk_ D;rw[hd]at a;have J:H_ (yg (zx ds) (.alts p l) k 0=l[k]):=zy (by simp[yg,au_,hd]);generalize l[k]=t at hd E a J;simp only at a;have B:=hX k t hd;obtain⟨T,x,hx⟩:=B.iface;obtain⟨g,u,u⟩:=zg ho M_;cases u;have H:H_ (∀w1,Fr w w1 (· = br)->w1.cell? ⟨g,k,none⟩=some (.iface T x)/\TyV w1 P t (.iface T x)):=zy (λw1 hf=>⟨by rw[zr (zj ho hf (λg' hg e=>I (e▸hP g' hg))) rfl (k:=k) (x:=X k) (by simp[D]),hx],hx▸B.fr hf (λg' hg e=>I (e▸hg))⟩);have hB:=zy (λw1 (hf:Fr (w.alloc (.cells #[Z_ pt,S_ g l.length y] 226)) w1 (· = br))=>hf.bl F M_);replace A:=zy A;cases u:rdB s (zx ds) f t j n with
  |error e0=>rw[u]at a;cases a
  |ok r1=>
   obtain⟨d,y,D⟩:=r1;rw[u]at a;cases a;have Q:=zy (λw1 (h1:xu w1 br sv rv s j n) (hf:Fr w w1 (· = br))=>G t E j M_ w1 _ (d,y,D) (M.call h1 hf M_) hn (H.o w1 hf).2 u);go_in;go_wp2_with (first
    |(go_at_call 186;apply L.o.mono;rintro e w1 ⟨h,rfl,a,h1⟩;have b:=(A.o.mono (T:=λg=>g=br) v_).trans h u_;have c1:=(H.o w1 b).1;have b1:=(hB.o w1 h).c1;have a:=zy (Q.o w1 h1 b);replace b:=zy b)
    |(go_at_call 47;apply a.o.mono;rintro e a ⟨a,rfl,C,h,z,N⟩;obtain⟨dT,a,rfl⟩:=h.iface;replace h:=zy h;replace C:=zy C;replace z:=zy z))
   try go_ret
   rw[K.o];have hz:=b.o.size;refine yok (.branch k O ?_) (b.o.trans C u_) z N;rw[J.o];exact h.o.mono (λg _ hg=>M_)
def eK{l:As}{t:PT}{x:Ax}{dd:Am}(M:YC P ss ds sv rv xs s br i n w)(hl:l.length<=300)(E:∀q∈l,zl q.1=true)(ho:w.ownsRow 0 191 2 x l.length (zE l))(hP:∀g,x.ownBlock=some g->P g)(F:∀k,fU (zx ds) t k=(l.map Prod.fst).getD k 0){q:Em}(u:(match wt s 0 ((l.length:Int)-1) i with|none=>.error 6|some (q,j)=>.ok (.mk 101 q noB [] [],j,n):Except Nat (DT×Nat×Nat))=.ok q):Calls prog 137 #[P_ br,.agg #[Z_ pt,x,.pointer dd]] w (yk (zx ds) t w sv rv s br q):=by
 refine hq_ λx G=>?_;have x:=M.lt;have O:=M.brP;obtain⟨D,y,rfl⟩:=zw ho;have A:Fr w (w.alloc (.cells #[Z_ pt,.slice D l.length y,.pointer dd] 236)) N_:=(A_ w _).alloc _;have h:=M.new A;have C:=B_ w #[Z_ pt,.slice D l.length y,.pointer dd] 236;have x:=M.hs;cases hb:wt s 0 ((l.length:Int)-1) i with
 |none=>rw[hb]at u;cases u
 |some r0=>
  obtain⟨v,j⟩:=r0;have J:=zy (ml (m:=l.length) M_ h.R h.hs h.il hb);have hg:=xN hb;obtain⟨k,rfl⟩:∃m:Nat,v=(m:Int):=⟨v.toNat,M_⟩;rw[hb]at u;cases u;have u:k<l.length:=M_;have N:k<=4000:=M_;have x:(k:Int)<(l.length:Int):=M_;have hd:l[k]?=some l[k]:=ai_ u;have B:l[k]∈l:=bk_ u;have b:fU (zx ds) t k=l[k].1:=by rw[F k];simp[au_,hd]
  generalize l[k]=c at hd B b;obtain⟨cl,u⟩:=c;have x:=E _ B;obtain⟨u,u,D⟩:=kS x;simp only at b u;have K:cl<256:=M_;obtain⟨g,D,D⟩:=zg ho M_;cases D;have L:H_ (∀w1,Fr w w1 (· = br)->w1.cell? ⟨g,k*2+1,none⟩=some (U_ cl)):=zy (λw1 hf=>zr (zj ho hf (λg' hg e=>O (e▸hP g' hg))) rfl (xB hd).2);have hB:=zy (λw1 (hf:Fr (w.alloc (.cells #[Z_ pt,S_ g l.length y,.pointer dd] 236)) w1 (· = br))=>hf.bl C M_);replace A:=zy A;replace b:=zy b;replace u:=zy u;go_in;go_wp2_with (go_at_call 186;apply J.o.mono;rintro e w1 ⟨z,rfl,u,h1⟩;have h:=(A.o.mono (T:=λg=>g=br) v_).trans z u_;have c1:=(L.o w1 h);have b1:=(hB.o w1 z).c1;replace h:=zy h;replace h1:=zy h1);try go_ret
  rw[G.o];refine yok (.flat (.sym k cl N) (λn' x e=>?_)) h h1 u;injection e with _ e
  injection e with e
  have h:=congrArg (λa=>a.toList) e;simp only[List.cons.injEq,Value.int.injEq,true_and,and_true]at h;obtain⟨u,u⟩:=h;have H:cl=x:=M_;have I:k=n':=M_;subst H;subst I;exact⟨b,K⟩
def Zc{t:PT}(M:YC P ss ds sv rv xs s br i n w)(hk:k<=9){q:Em}(b:(match gJ s i k with|none=>.error 6|some (tx,j)=>.ok (.mk 102 0 tx [] [],j,n):Except Nat (DT×Nat×Nat))=.ok q):Calls prog 138 #[P_ br,.agg #[Z_ pt,I_ k]] w (yk (zx ds) t w sv rv s br q):=by
 refine hq_ λa g=>?_;have A:Fr w (w.alloc (.cells #[Z_ pt,I_ k] 238)) N_:=(A_ w _).alloc _;have a:=M.new A;have h:=M.hs;have h:=M.il;replace A:=zy A;cases hb:gJ s i k with
 |none=>rw[hb]at b;cases b
 |some r0=>
  obtain⟨tx,j⟩:=r0;have hg:=pi h hb;have h:=zy (pU (m:=k) a.R a.hs a.il hb);rw[hb]at b;cases b;go_in;go_wp2_with (go_at_call 188;apply h.o.mono;rintro e w1 ⟨c,rfl,a,h1⟩;replace c:=zy c;replace h1:=zy h1);try go_ret
  rw[g.o];exact yok (W_ (.bytes tx M_) D_) ((A.o.mono v_).trans c u_) h1 a
end
def Be(LL:List DT×Nat×Nat)(R:PT->Nat->Nat->Except Nat (DT×Nat×Nat))(fs:An)(n:Nat)(P:Az)(ss:BA)(ds:Ar)(sv rv:Ax)(xs:Ay)(s:BA)(br:Nat)(cx:Ay)(ct:Av)(t:PT)(w:Aw)(q:Nat)(v6 v14:Ax)(W:Aw):Prop:=
 ∃(l:List DT) (j nn:Nat),v14=I_ l.length/\l.length<=fs.length/\n<=nn/\nn<=300/\302<=q+l.length/\H_ (YL P ss ds sv rv xs s br j nn cx ct t w v6 l W)/\.ok LL=mq l (xU R ((fs.map PF.ty).drop l.length) j nn)
section
variable {w:Aw} {P:Az} {ss:BA} {ds:Ar} {sv rv:Ax} {xs:Ay} {s:BA} {br i n:Nat}
def eW{fs:An}{t:PT}{fv:Ax}{zs:Ay}(M:YC P ss ds sv rv xs s br i n w)(hn:n<=300)(h:xh w P ss fs fv zs)(O:fs.length<=300)(B:∀k g,fs[k]?=some g->yg (zx ds) t 0 k=g.ty)(hR:∀g∈fs,∀j nn,n<=nn->nn<=300->j<=s.size->db P ss ds sv rv xs s br f g.ty j nn){LL:List DT×Nat×Nat}(D:xU (rdB s (zx ds) f) (fs.map PF.ty) i n=.ok LL):Calls prog 136 #[P_ br,.agg #[Z_ pt,fv]] w (yk (zx ds) t w sv rv s br (.mk 114 0 noB [] LL.1,LL.2)):=by
 refine hq_ λO J=>?_;have O:=M.hs;have L:=M.lt;have hnb:=M.brP;obtain⟨b,c,rfl⟩:=zw h.row;have A:Fr w (w.alloc (.cells #[Z_ pt,.slice b fs.length c] 231)) N_:=(A_ w _).alloc _;have C:=M.new A;have y:=B_ w #[Z_ pt,.slice b fs.length c] 231;have start:H_ (Be LL (rdB s (zx ds) f) fs n P ss ds sv rv xs s br [Z_ pt,.slice b fs.length c] 231 t w 302 (L_) (O_) (w.alloc (.cells #[Z_ pt,.slice b fs.length c] 231))):=zy ⟨[],i,n,rfl,by simp,l_,hn,by simp,zy ⟨C,A.mono v_,y,by simp,L,jY.nil _ _ _ _ _⟩,by rw[Xc];exact D.symm⟩;clear D;replace hR:=zy hR;replace h:=zy h;replace B:=zy B;have hb1:=y.c1;clear M C A y;go_in;go_wp2;go_loopg [6,8,9,10,14] 302 (λq C y y y y W=>Be LL (rdB s (zx ds) f) fs n P ss ds sv rv xs s br [Z_ pt,.slice b fs.length c] 231 t w q C y W);case atStart=>exact start
 case round=>
  clear start hb1;obtain⟨l,j,nn,rfl,b,hnn,hnn3,b,hQ,hres⟩:=hrel;obtain⟨Y,hrow,hY⟩:=hQ.o.row;obtain⟨la,lc,rfl⟩:=zw hrow;by_cases F:l.length=fs.length
  .have N:¬(l.length:Int)<(fs.length:Int):=M_;obtain rfl:LL=(l,j,nn):=by rw[List.drop_of_length_le x1_]at hres;simp[xU,mq]at hres;exact hres
   have b:=zy hQ.o.row;clear hres hrow hY F;go_wp2;try go_ret
   rw[J.o];refine yok ?_ hQ.o.fr hQ.o.M.R hQ.o.M.il;exact b.o.dat (λg _ hg=>M_) (λg e=>by have:=b.o;obtain⟨_,a,_⟩:=this;have:=(a.lt g e).1;show w.heap.size<=g;omega) (.inr ⟨rfl,rfl⟩)
  .have N:(l.length:Int)<(fs.length:Int):=M_;have b:l.length<fs.length:=M_;have hd:fs[l.length]?=some fs[l.length]:=ai_ b;have hmem:fs[l.length]∈fs:=bk_ b;have E:(fs.map PF.ty).drop l.length=fs[l.length].ty::(fs.map PF.ty).drop (l.length+1):=by
    rw[bq_ (by simpa using b),List.getElem_map]
   rw[E,Zv]at hres;generalize fs[l.length]=g0 at hd hmem hres;have z:=h.o.fr hQ.o.fr (λg hg e=>hnb (e▸hg));obtain⟨b,b,b⟩:=zg z.row M_;cases b;obtain⟨T,x,d0,c0,c1,c2,c3,hT,K⟩:=z.cells hd;obtain⟨lt,G⟩:=x_ g0.letter;obtain⟨I,H⟩:=x_ g0.place;rw[G]at c1;rw[H]at c0;have hsb:=zy (B.o _ _ hd);have A1:=(A_ wr N_).alloc (.cells #[I_ I,U_ lt,.iface T x,.pointer d0] 194);have hz1:(wr.alloc (.cells #[I_ I,U_ lt,.iface T x,.pointer d0] 194)).heap.size=wr.heap.size+1:=x7_
   have Q0:=hQ.o.call (A1.bl hQ.o.M.R id) (A1.mono v_) hQ.o.M.il;have b:=hQ.o.bB;have b:=hQ.o.lt;have hL3:l.length<=300:=M_;replace hz1:=zy hz1;clear K z G H E F;cases hrd:rdB s (zx ds) f g0.ty j nn with
   |error e0=>rw[hrd]at hres;cases hres
   |ok r1=>
    have cc1:=Nat;exact cwVm1_
end
end Go.Proofs.YtlmebjdmdogmfaaGreatDoor
