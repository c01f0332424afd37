import Derived.Test.YthmjjpkjgjklmaaGreatDoorW10
import Derived.Lib.AppendStr
import Derived.Deep.RegionWith
import Derived.Test.YthmjjpkjgjklmaaGreatDoorW11
import Derived.Test.YthmjjpkjgjklmaaGreatDoorW22
import Derived.Test.YthmjjpkjgjklmaaGreatDoorA00
set_option maxHeartbeats 16000000
set_option maxRecDepth 100000
set_option linter.unusedSimpArgs false
open Go.Proofs.Tryz
namespace Go.Proofs.YthmjjpkjgjklmaaGreatDoor
open Go.RowKit
variable {b tx:BA}{u:Value}{P:Nat->Prop}{m lc:Nat}{n:Int}{ds:List DT}{la:Option Addr}{Y:Nat->Value}{d:DT}{w':World}
def BufV (w:World) (B:Nat) (v:Value) (b:BA):Prop:=w.ownsRow B 5 1 v b.size (Lib.strCells b)
theorem zx7 (h0 : -9223372036854775808<=n) (h1:n<0):IntKind.u64.wrap (bits .xor .i64 (-1) n) = -(n+1):=by
 have e:bits .xor .i64 (-1) n=IntKind.i64.wrap ((BitVec.ofInt 64 (-1) ^^^ BitVec.ofInt 64 n).toNat:Int):=rfl
 have a1:BitVec.ofInt 64 (-1)=BitVec.allOnes 64:=by decide
 rw[e,a1,BitVec.allOnes_xor,BitVec.toNat_not,IntKind.wrap_u64,BitVec.toNat_ofInt];simp only[IntKind.wrap,IntKind.bits,IntKind.signed]
 have:((n % ((2 ^ 64:Nat):Int)).toNat:Int)=n+18446744073709551616:=by
  have:n % ((2 ^ 64:Nat):Int)=n+18446744073709551616:=by omega
  omega
 simp
 omega
theorem zzs {x:Nat}(h:x<256):x ||| 128=x % 128+128:=by
 have k:∀ y,y<128->128+y=128 ||| y:=λ y hy=>by
  have:=Nat.two_pow_add_eq_or_of_lt (i:=7) (b:=y) (by omega) 1
  simpa using this
 by_cases hx:x<128
 ·rw[Nat.mod_eq_of_lt hx,Nat.or_comm,<- k x hx];omega
 ·have e:x=128 |||(x-128):=by rw[<- k _ (by omega)];omega
  rw[show x ||| 128=x by
   conv=>lhs;rw[e,Nat.or_comm,<- Nat.or_assoc,Nat.or_self,<- e]]
  omega
theorem z03 {z:Nat}:bits .or .u8 ((z:Int) % 256) 128=((z % 128+128:Nat):Int):=by
 have e:bits .or .u8 ((z:Int) % 256) 128=IntKind.u8.wrap ((BitVec.ofInt 8 ((z:Int) % 256) ||| BitVec.ofInt 8 128).toNat:Int):=rfl
 have h1:(BitVec.ofInt 8 ((z % 256:Nat):Int)).toNat=z % 256:=by
  rw[BitVec.ofInt_natCast,BitVec.toNat_ofNat];exact Nat.mod_eq_of_lt (by omega)
 have h2:(BitVec.ofInt 8 128).toNat=128:=by decide
 rw[e,show((z:Int) % 256)=((z % 256:Nat):Int) by omega,BitVec.toNat_or,h1,h2,zzs (by omega)]
 simp[IntKind.wrap,IntKind.bits,IntKind.signed]
 omega
theorem zwi {w:World}(h0 : -9223372036854775808<=n) (h1:n<=9223372036854775807) :
 Calls prog 174 #[.int .i64 n] w λ e w'=>e=.returned (.int .u64 (zci n:Int))/\w'=w:=by
 refine hq_ λ POST Q_=>?_
 by_cases hn:n<0
 ·go_in
  go_wp2_with fail
  try go_ret
  rw[Q_.o,zx7 h0 hn,IntKind.wrap_u64,IntKind.wrap_u64];unfold zci;rw[if_pos hn];refine⟨?_,rfl⟩
  congr 2
  omega
 ·go_in
  go_wp2_with fail
  try go_ret
  rw[Q_.o];unfold zci;rw[if_neg (by omega)];refine⟨?_,rfl⟩
  congr 2
  omega
theorem zfl:Tryz.prog.underlying 111=some (.slice 5):=by kernel_rfl
theorem i_u8:(Tryz.prog.info? 5).map (λ i=>(i.zero,i.size,i.bytes))=some (some (.int .u8 0),1,1):=by kernel_rfl
theorem ye_ (a b:BA):Lib.strCells (a++b)=Lib.strCells a++Lib.strCells b:=by
 unfold Lib.strCells
 simp
theorem v6_ {c:Nat}(h:c<256):Lib.strCells (bts [c])=[.int .u8 (c:Int)]:=by
 unfold Lib.strCells bts
 simp
 omega
def Own (w:World) (v v':Value):Prop:=v'.ownBlock=v.ownBlock\/∃ h,v'.ownBlock=some h/\w.heap.size<=h
theorem Own.trans {w W:World}{v v1 v2:Value}(h:Own w v v1) (k:v2.ownBlock=v1.ownBlock\/v2.ownBlock=some W.heap.size) (hs:w.heap.size<=W.heap.size):Own w v v2:=by
 rcases k with k|k
 ·unfold Own;rw[k];exact h
 ·exact .inr ⟨_,k,hs⟩
theorem Own.fr {w W W2:World}{v v1:Value}(h:Own w v v1) (hF:Fr w W (λ g=>v.ownBlock=some g)) (hF2:Fr W W2 (λ g=>v1.ownBlock=some g)):Fr w W2 (λ g=>v.ownBlock=some g):=by
 refine hF.trans hF2 (λ x hx e=>?_)
 rcases h with h|⟨q,h,hq⟩
 ·rw[<- h];exact e
 ·rw[h] at e;simp only[ad_] at e;omega
def zl7 (w:World) (B:Nat) (v:Value) (b:BA) (e:Ending) (w':World):Prop:=∃ v',e=.returned v'/\BufV w' B v' b/\Fr w w' (λ g=>v.ownBlock=some g)/\Own w v v'
def zgu (w:World) (B:Nat) (v:Value) (b:BA) (e:Ending) (w':World):Prop:=∃ v',e=.returned v'/\BufV w' B v' b/\Fr w w' (λ g=>v.ownBlock=some g)
def vk_ (w:World) (B:Nat) (b:BA) (e:Ending) (w':World):Prop:=∃ v',e=.returned v'/\BufV w' B v' b/\Fr w w' (λ g=>B<=g)
theorem BufV.own {w:World}{B:Nat}{v:Value}(h:BufV w B v b){g:Nat}(e:v.ownBlock=some g):B<=g/\g<w.heap.size:=World.ownsRow.lt h g e
def zn3 (w:World) (B:Nat) (v:Value) (T:BA) (q:Nat) (v0 v5:Value) (W:World):Prop:=
 ∃ (z f:Nat) (acc:BA),v5=.int .u64 (z:Int)/\z<18446744073709551616/\z<128 ^ (f+1)/\f<=q/\T=acc++bts (lebN f z)/\BufV W B v0 acc/\Fr w W (λ g=>v.ownBlock=some g)/\Own w v v0
section
variable {w W w5:World} {B z f:Nat} {T acc:BA} {v v0 v5:Value} {o:Obj} {x:Int}
theorem zn3.more {f':Nat}(hz:128<=z) (hz2:z<18446744073709551616) (hf:z<128 ^ (f+1)) (ef:f=f'+1) (hT:T=acc++bts (lebN f z)) (hF:Fr w W (λ g=>v.ownBlock=some g)) (hO:Own w v v0)
 (ho:w5.ownsRow B 5 1 v5 (acc.size+1) (Lib.strCells acc++[.int .u8 x])) (hx:x=((z % 128+128:Nat):Int)) (hg:(W.alloc o).grownBy w5 v0.ownBlock) (hl:v5.ownBlock=v0.ownBlock\/v5.ownBlock=some (W.alloc o).heap.size):zn3 w B v T f' v5 (.int .u64 ((z / 128:Nat):Int)) w5:=by
 subst ef hx;refine⟨z / 128,f',acc++bts [z % 128+128],rfl,by omega,?_,l_,?_,?_,?_,?_⟩
 ·rw[Nat.pow_succ] at hf;omega
 ·rw[hT,lebN,if_neg (by omega),bb_,<- zd0];rfl
 ·unfold BufV;rw[ye_,v6_ (by omega),ag_,zi_];exact ho
 ·exact hO.fr hF (((Fr.refl W _).alloc o).grown hg (λ k hk _=>hk))
 ·exact hO.trans hl (by have:=hF.size;simp;omega)
theorem zn3.last (hz:z<128) (hT:T=acc++bts (lebN f z)) (hF:Fr w W (λ g=>v.ownBlock=some g)) (hO:Own w v v0)
 (ho:w5.ownsRow B 5 1 v5 (acc.size+1) (Lib.strCells acc++[.int .u8 x])) (hx:x=(z:Int)) (hg:(W.alloc o).grownBy w5 v0.ownBlock) (hl:v5.ownBlock=v0.ownBlock\/v5.ownBlock=some (W.alloc o).heap.size):zl7 w B v T (.returned v5) w5:=by
 subst hx;refine⟨v5,rfl,?_,?_,?_⟩
 ·have e:lebN f z=[z]:=by cases f<;>simp[lebN,hz]
  rw[hT,e];unfold BufV;rw[ye_,v6_ (by omega),ag_,zi_];exact ho
 ·exact hO.fr hF (((Fr.refl W _).alloc o).grown hg (λ k hk _=>hk))
 ·exact hO.trans hl (by have:=hF.size;simp;omega)
end
theorem zos (h0 : -9223372036854775808<=n) (h1:n<=9223372036854775807):zci n<18446744073709551616:=by
 unfold zci;split<;>omega
theorem zhy {w:World}{B:Nat}{v:Value}(h0 : -9223372036854775808<=n) (h1:n<=9223372036854775807) (hb:BufV w B v b) (hB:B<=w.heap.size) (hs:b.size<=100000000) :
 Calls prog 112 #[v,.int .i64 n] w (zl7 w B v (b++zt_ n)):=by
 refine hq_ λ POST Q_=>?_;have hC:=@zwi;obtain⟨T,hT⟩:∃ T,b++zt_ n=T:=⟨_,rfl⟩;obtain⟨zz,hzz⟩:∃ z,zci n=z:=⟨_,rfl⟩;have start:H_ (zn3 w B v T 10 v (.int .u64 (zz:Int)) w):=q_ ⟨zz,10,b,rfl,by have:=zos h0 h1;omega,by have:=zos h0 h1;omega,l_,by rw[<- hT,<- hzz];rfl,hb,Fr.refl _ _,.inl rfl⟩;rw[hT] at Q_
 have hTs:T.size<=100000011:=by have:=xe_ n;rw[<- hT,ag_];omega
 replace hT:=q_ hT;replace hb:=q_ hb;obtain⟨ti,hi1,hi2,hi3,hi4⟩:=info_parts i_u8
 go_in
 go_wp2_with (go_at_call 174;refine(hC h0 h1).mono ?_;rintro e w1 ⟨rfl,hw1⟩;replace hw1:=hw1.symm;subst hw1;rw[hzz])
 go_loopg [0,5] 10 (λ q v0 v5 W=>zn3 w B v T q v0 v5 W)
 case atStart=>exact start.o
 case round=>
  clear start;obtain⟨z,f,acc,rfl,hz2,hz3,hf,hT2,hbuf,hF,hO⟩:=hrel
  have hacc:acc.size<=100000011:=by
   have:=congrArg ByteArray.size hT2;rw[ag_] at this;omega
  have hB2:B<=wr.heap.size:=by have:=hF.size;omega
  have hF':=q_ hF;replace hO:=q_ hO;have hbuf':=q_ hbuf;have hT2':=q_ hT2;clear hF hbuf hT2
  by_cases hz:z<128
  ·have hz':¬ (z:Int)≥128:=by omega
   clear hz3
   go_wp2_with (first
    |(at_builtin;go_must (refine wpList_append_own_at _ rfl _ _ 111 rfl B 5 ti _ 1 1 zfl hi1 hi2 hi3 hi4 rfl (by decide) _ acc.size (Lib.strCells acc) rfl ?hown _ 1 1 [.int .u8 (z:Int)] rfl rfl (yh_ _ #[.int .u8 (z:Int)] _ _ ?nn) ?one ?b1 ?b2 ?b3 ?_)
      case hown=>exact World.ownsRow.alloc hbuf'.o _
      case nn=>simp
      case one=>simp[Value.oneCell']
      case b1=>unfold maxLen;omega
      case b2=>omega
      case b3=>simp;omega
      intro v5 w5 ho5 hg5 hn5 hl5))
   try go_ret
   rw[Q_.o];exact zn3.last hz hT2'.o hF'.o hO.o ho5 rfl hg5 hl5
  ·have hz':(z:Int)≥128:=by omega
   obtain⟨f',ef⟩:∃ f',f=f'+1:=by
    rcases f with _|f'
    ·simp at hz3;omega
    ·exact⟨f',rfl⟩
   have hz3':=q_ hz3;clear hz3
   go_wp2_with (first
    |(at_builtin;go_must (refine wpList_append_own_at _ rfl _ _ 111 rfl B 5 ti _ 1 1 zfl hi1 hi2 hi3 hi4 rfl (by decide) _ acc.size (Lib.strCells acc) rfl ?hown _ 1 1 [.int .u8 (bits .or .u8 ((z:Int) % 256) 128)] rfl rfl (yh_ _ #[.int .u8 (bits .or .u8 ((z:Int) % 256) 128)] _ _ ?nn) ?one ?b1 ?b2 ?b3 ?_)
      case hown=>exact World.ownsRow.alloc hbuf'.o _
      case nn=>simp
      case one=>simp[Value.oneCell']
      case b1=>unfold maxLen;omega
      case b2=>omega
      case b3=>simp;omega
      intro v5 w5 ho5 hg5 hn5 hl5))
   go_roundg f'
   case measure=>omega
   case rel=>exact zn3.more (by omega) hz2 hz3'.o ef hT2'.o hF'.o hO.o ho5 z03 hg5 hl5
theorem zuk {w:World}{B:Nat}{v:Value}(ht:tx.size<=4000) (hb:BufV w B v b) (hB:B<=w.heap.size) (hs:b.size<=100000000) :
 Calls prog 113 #[v,.string tx] w (zgu w B v (b++(zt_ tx.size++tx))):=by
 refine hq_ λ POST Q_=>?_;have hC:=q_ (zhy (n:=(tx.size:Int)) (by omega) (by omega) hb hB hs);have hws:=xe_ tx.size;obtain⟨ti,hi1,hi2,hi3,hi4⟩:=info_parts i_u8;replace hb:=q_ hb
 go_in
 go_wp2_with (first
  |(go_at_call 112;refine hC.o.mono ?_;rintro e w1 ⟨v1,rfl,hb1,hF1,hO1⟩;have hz1:=hF1.size;replace hb1:=q_ hb1;replace hF1:=q_ hF1;replace hO1:=q_ hO1)
  |(at_builtin;go_must (refine Lib.wpList_append_own_string _ rfl _ _ 111 9 rfl B 5 ti zfl ze3 hi1 hi2 hi3 hi4 _ (b++zt_ tx.size).size (Lib.strCells (b++zt_ tx.size)) rfl ?hown tx rfl ?b1 ?b2 ?b3 ?_)
    case hown=>exact hb1.o
    case b1=>rw[ag_];unfold maxLen;omega
    case b2=>rw[ag_];omega
    case b3=>omega
    intro v5 w5 ho5 hg5 hn5))
 try go_ret
 rw[Q_.o];refine⟨v5,rfl,?_,hO1.o.fr hF1.o ((Fr.refl w1 _).grown hg5 (λ k hk _=>hk))⟩;rw[<- bb_];unfold BufV;rw[ye_ (b++zt_ tx.size),ag_ (a:=b++zt_ tx.size)];exact ho5
theorem zwy {w:World}{B:Nat}{t:Bool}{v:Value}(hb:BufV w B v b) (hB:B<=w.heap.size) (hs:b.size<=100000000) :
 Calls prog 111 #[v,.bool t] w (zgu w B v (b++bts [if t=true then 1 else 0])):=by
 refine hq_ λ POST Q_=>?_;obtain⟨ti,hi1,hi2,hi3,hi4⟩:=info_parts i_u8
 have fin:∀ (c:Nat) (w5:World) (v5:Value) (o:Obj),c<256->w5.ownsRow B 5 1 v5 (b.size+1) (Lib.strCells b++[.int .u8 (c:Int)])->(w.alloc o).grownBy w5 v.ownBlock->zgu w B v (b++bts [c]) (.returned v5) w5:=by
  intro c w5 v5 o hc ho hg;refine⟨v5,rfl,?_,((Fr.refl w _).alloc o).grown hg (λ k hk _=>hk)⟩;unfold BufV;rw[ye_,v6_ hc,ag_,zi_];exact ho
 replace fin:=q_ fin;replace hb:=q_ hb;cases t
 ·go_in
  go_wp2_with (first
   |(at_builtin;go_must (refine wpList_append_own_at _ rfl _ _ 111 rfl B 5 ti _ 1 1 zfl hi1 hi2 hi3 hi4 rfl (by decide) _ b.size (Lib.strCells b) rfl ?hown _ 1 1 [.int .u8 0] rfl rfl (yh_ _ #[.int .u8 0] _ _ ?nn) ?one ?b1 ?b2 ?b3 ?_)
     case hown=>exact World.ownsRow.alloc hb.o _
     case nn=>simp
     case one=>simp[Value.oneCell']
     case b1=>unfold maxLen;omega
     case b2=>omega
     case b3=>simp;omega
     intro v5 w5 ho5 hg5 hn5 hl5))
  try go_ret
  rw[Q_.o];exact fin.o 0 _ _ _ (by omega) ho5 hg5
 ·go_in
  go_wp2_with (first
   |(at_builtin;go_must (refine wpList_append_own_at _ rfl _ _ 111 rfl B 5 ti _ 1 1 zfl hi1 hi2 hi3 hi4 rfl (by decide) _ b.size (Lib.strCells b) rfl ?hown _ 1 1 [.int .u8 1] rfl rfl (yh_ _ #[.int .u8 1] _ _ ?nn) ?one ?b1 ?b2 ?b3 ?_)
     case hown=>exact World.ownsRow.alloc hb.o _
     case nn=>simp
     case one=>simp[Value.oneCell']
     case b1=>unfold maxLen;omega
     case b2=>omega
     case b3=>simp;omega
     intro v5 w5 ho5 hg5 hn5 hl5))
  try go_ret
  rw[Q_.o];exact fin.o 1 _ _ _ (by omega) ho5 hg5
open Go.RowKit
theorem zcd:∀ {ds:List DT},(∀ (i:Nat) (d:DT),ds[i]?=some d->okD d)->okDs ds
 | [],_=>by simp[okDs]
 | d::r,h=>by
  unfold okDs;exact⟨h 0 d rfl,zcd (λ i e he=>h (i+1) e he)⟩
theorem DatV.ok {w:World}{v:Value}(h:DatV w P d v):okD d:=by
 induction h with
 | flat h=>
  cases h with
  | nothing=>simp[okD,okDs,kdOK];exact aj_ _
  | truth b=>cases b<;>simp[okD,okDs,kdOK]<;>exact aj_ _
  | num c n hc h0 h1=>simp only[okD,okDs,kdOK];refine⟨⟨h0,h1,by omega⟩,λ e=>by omega,by show(0:Nat)<=_;omega,by simp,λ e=>by omega,trivial⟩
  | text tx h=>simp[okD,okDs,kdOK,h]
  | bytes tx h=>simp[okD,okDs,kdOK,h]
  | sym n l h=>simp only[okD,okDs,kdOK];refine⟨⟨by omega,by omega,by simp⟩,λ e=>by omega,by show(0:Nat)<=_;omega,by simp,λ e=>by omega,trivial⟩
 | branch n h hd ih=>simp only[okD,okDs,kdOK];refine⟨⟨by omega,by omega,by simp⟩,λ e=>by omega,by show(0:Nat)<=_;omega,by simp,λ e=>by omega,ih,trivial⟩
 | row Y hc ho hP hd ih=>simp only[okD,kdOK];refine⟨⟨by omega,by omega,by omega⟩,λ e=>by omega,by show(0:Nat)<=_;omega,by simp,λ e=>by omega,zcd ih⟩
 | map Y hl hk ho hP hd ih=>simp only[okD,kdOK];refine⟨⟨by omega,by omega,by simp⟩,λ e=>by omega,by show(0:Nat)<=_;omega,hk,λ _=>hl,zcd ih⟩
def WrOK (m:Nat):Prop:=∀ (d:DT),ndT d<=m->∀ (w:World) (P:Nat->Prop) (B:Nat) (v u:Value) (b:BA),DatV w P d v->(∀ g,P g->g<B)->B<=w.heap.size->BufV w B u b->b.size+8022*ndT d<=90000000->
 Calls prog 81 #[u,v] w (vk_ w B (b++byT d))
theorem zxf (ih:WrOK m){w:World}{B:Nat}(hm:ndTs ds<=m) (hP:∀ g,P g->g<B) (hB:B<=w.heap.size) (hu:BufV w B u b) (hs:b.size+8022*ndTs ds<=90000000)
 (ho:w.ownsRow 0 94 1 (.slice la ds.length lc) ds.length ((List.range ds.length).flatMap λ i=>[Y i])) (hl:∀ g,(Value.slice la ds.length lc).ownBlock=some g->P g) (hd:∀ i d,ds[i]?=some d->DatV w P d (Y i)) :
 Calls prog 114 #[u,.slice la ds.length lc] w (vk_ w B (b++byTs false [] ds)):=by
 refine hq_ λ POST Q_=>?_;have hok:okDs ds:=zcd (λ i d e=>(hd i d e).ok);have start:H_ (∃ q:Nat,Value.int .i64 0=.int .i64 (q:Int)/\q<=ds.length/\ds.length+1-q<=ds.length+1/\BufV w B u (b++byTs false [] (ds.take q))/\Fr w w (λ g=>B<=g)):=q_ ⟨0,rfl,aj_ _,by omega,by rw[List.take_zero];simp only[byTs];rw[j9_];exact hu,Fr.refl _ _⟩;have hnl:=x3_ ds;replace ho:=q_ ho;replace hd:=q_ hd;replace hl:=q_ hl;replace hP:=q_ hP;replace hok:=q_ hok;replace hu:=q_ hu
 go_in
 go_wp2_with fail
 go_loopg [0,6,9] (ds.length+1) (λ m v0 v6 v W=>∃ q:Nat,v=.int .i64 (q:Int)/\q<=ds.length/\ds.length+1-q<=m/\BufV W B v0 (b++byTs false [] (ds.take q))/\Fr w W (λ g=>B<=g))
 case atStart=>exact start.o
 case round=>
  clear start;obtain⟨q,rfl,hq,hmq,hBu,hFw⟩:=hrel
  by_cases hlt:q<ds.length
  ·have hlt':(q:Int)<(ds.length:Int):=by omega
   have hdq:ds[q]?=some ds[q]:=am_ hlt;generalize ds[q]=d at hdq;obtain⟨t1,t2⟩:=xm_ hdq;have hsz:=zdd false [] (ds.take q) (by simp) (zcw hok.o q)
   have hst:byTs false [] (ds.take (q+1))=byTs false [] (ds.take q)++byT d:=by
    rw[zgh false ds [] q d hdq]
    congr 1
    try simp only[itB,az_,if_false,xl_]
   obtain⟨g,cap,hgc⟩:=zk_ ho.o (by omega);cases hgc;have hv:=hd.o q d hdq;obtain⟨T,x,hx⟩:=hv.iface;rw[hx] at hv
   have hkeep:∀ g,P g->¬ B<=g:=λ g h=>by have:=hP.o g h;omega
   have e0:wr.cell? ⟨g,q,none⟩=some (.iface T x):=by
    rw[<- hx];exact zbl (zb_ ho.o hFw (λ g e=>hkeep g (hl.o g e))) hlt
   have hC:=q_ (ih d (by omega) wr P B _ _ _ (hv.fr hFw hkeep) hP.o (by have:=hFw.size;omega) hBu (by rw[ag_];omega));rw[bb_,<- hst] at hC
   have hq5:q<=90000000:=by omega
   clear hsz t1 t2;replace hst:=q_ hst;replace hFw:=q_ hFw;replace hdq:=q_ hdq;replace hv:=q_ hv;replace hBu:=q_ hBu;replace hkeep:=q_ hkeep;clear hx
   go_wp2_with (go_at_call 81;refine hC.o.mono ?_;rintro e w2 ⟨v2,rfl,hb2,hf2⟩;replace hf2:=q_ hf2;replace hb2:=q_ hb2)
   go_roundg (ds.length+1-(q+1))
   case measure=>omega
   case rel=>exact⟨q+1,by simp,hlt,l_,hb2.o,hFw.o.trans hf2.o u_⟩
  ·have hlt':¬ ((q:Int)<(ds.length:Int)):=by omega
   rw[a3_ (by omega)] at hBu;replace hFw:=q_ hFw;replace hBu:=q_ hBu
   go_wp2_with fail
   try go_ret
   rw[Q_.o];exact⟨_,rfl,hBu.o,hFw.o⟩
open Go.RowKit
theorem BufV.fr {w:World}{B:Nat}{v:Value}{S:Nat->Prop}(h:BufV w B v b) (hf:Fr w w' S) (hS:∀ g,v.ownBlock=some g->¬ S g):BufV w' B v b:=zb_ h hf hS
theorem zrg (ih:WrOK m){n:Nat}(hn:n<=4000){v:Value}{w:World}{B:Nat}(hm:ndT d<=m) (hv:DatV w P d v) (hP:∀ g,P g->g<B) (hB:B<=w.heap.size) (hu:BufV w B u b) (hs:b.size+8022*(1+ndT d)<=90000000) :
 Calls prog 81 #[u,.iface 175 (.agg #[.int .i64 (n:Int),v])] w (vk_ w B (b++byT (.mk 40 (n:Int) noB [] [d]))):=by
 refine hq_ λ POST Q_=>?_;obtain⟨T,x,rfl⟩:=hv.iface
 have hby:byT (.mk 40 (n:Int) noB [] [d])=zt_ n++byT d:=by
  have e:byT (.mk 40 (n:Int) noB [] [d])=zt_ n++byTs false [] [d]:=by
   conv=>lhs;unfold byT
   rw[if_neg (by decide),if_neg (by decide),if_neg (by decide),if_neg (by decide),if_pos rfl]
   rfl
  rw[e]
  congr 1
  simp only[byTs,j9_];exact xl_ _
 have hws:=xe_ n
 have hkeep:∀ g,P g->¬ B<=g:=λ g h=>by have:=hP g h;omega
 have hK:∀ W,Fr (w.alloc (.cells #[.int .i64 (n:Int),.iface T x] 175)) W (λ _=>False)->Calls prog 112 #[u,.int .i64 (n:Int)] W (λ e w'=>∃ v1,e=.returned v1/\H_ (BufV w' B v1 (b++zt_ n)/\Fr w w' (λ g=>B<=g))/\w'.cell? ⟨w.heap.size,1,none⟩=some (.iface T x)):=by
  intro W hW;have hz:=hW.size
  simp at hz
  have huW:BufV W B u b:=(BufV.fr (BufV.fr hu ((Fr.refl w (λ _=>False)).alloc _) u_) hW u_);refine(zhy (by omega) (by omega) huW (by omega) (by omega)).mono ?_;rintro e w1 ⟨v1,rfl,hb1,hF1,hO1⟩;refine⟨v1,rfl,q_ ⟨hb1,?_⟩,?_⟩
  ·refine((((Fr.refl w _).alloc _).trans (T:=λ _=>False) hW v_).trans hF1 (λ x _ e=>?_));exact(hu.own e).1
  ·have h1:=Blk.new w #[.int .i64 (n:Int),.iface T x] 175;have h2:=hF1.blk (hW.blk h1 (λ f=>f)) (λ e=>by have:=(hu.own e).2;omega);rw[h2.cell 1]
   rfl
 have hD:∀ W v1,BufV W B v1 (b++zt_ n)->Fr w W (λ g=>B<=g)->Calls prog 81 #[v1,.iface T x] W (vk_ w B (b++byT (.mk 40 (n:Int) noB [] [d]))):=by
  intro W v1 hb1 hF1;have hz:=hF1.size;refine(ih d hm W P B _ v1 _ (hv.fr hF1 hkeep) hP (by omega) hb1 (by rw[ag_];omega)).mono ?_;rintro e w2 ⟨v2,rfl,hb2,hF2⟩;refine⟨v2,rfl,?_,hF1.trans hF2 u_⟩;rw[hby,<- bb_];exact hb2
 replace hK:=q_ hK;replace hD:=q_ hD;have a0:=yz_ 175 (by decide);have a1:=yv_ 175 (by decide);have a2:=x4_ 175 (by decide);have a3:=xk_ 175 (by decide);have a4:=je_ 175 (by decide);have a5:=zas
 clear hv ih hm hkeep hP hu hby
 go_in
 go_wp2_with fail
 go_region_with (first
  |(go_at_call 112;refine(hK.o _ (by first|exact Fr.refl _ _|exact(Fr.refl _ _).drew|exact(Fr.refl _ _).drew.drew)).mono ?_;rintro e w1 ⟨v1,rfl,hb1,c1⟩)
  |(go_at_call 81;refine(hD.o _ _ (by first|exact hb1.o.1|exact BufV.fr hb1.o.1 (Fr.refl w1 (λ _=>False)).drew u_|exact BufV.fr hb1.o.1 (Fr.refl w1 (λ _=>False)).drew.drew u_) (by first|exact hb1.o.2|exact hb1.o.2.drew|exact hb1.o.2.drew.drew)).mono ?_;rintro e w2 h2;replace h2:=q_ h2;obtain⟨v2,rfl,_⟩:=h2.o))
 all_goals (try go_wp2_with fail)
 all_goals (try go_ret)
 all_goals (rw[Q_.o];exact h2.o)
open Go.RowKit
theorem z0j (ih:WrOK m){ks:List BA}{w:World}{B:Nat}(hm:ndTs ds<=m) (hP:∀ g,P g->g<B) (hB:B<=w.heap.size) (hu:BufV w B u b) (hs:b.size+8022*(1+ndTs ds)<=90000000) (hk:∀ k∈ks,k.size<=4000)
 (ho:w.ownsRow 0 173 2 (.slice la ds.length lc) ds.length ((List.range ds.length).flatMap λ i=>[.string (ks.getD i noB),Y i])) (hl:∀ g,(Value.slice la ds.length lc).ownBlock=some g->P g) (hd:∀ i d,ds[i]?=some d->DatV w P d (Y i)) :
 Calls prog 115 #[u,.slice la ds.length lc] w (vk_ w B (b++(zt_ ds.length++byTs true ks ds))):=by
 refine hq_ λ POST Q_=>?_;have hok:okDs ds:=zcd (λ i d e=>(hd i d e).ok);have hnl:=x3_ ds;have hws:=xe_ ds.length;have hC0:=q_ (zhy (n:=(ds.length:Int)) (by omega) (by omega) hu hB (by omega));obtain⟨b1,hb1⟩:∃ b1,b++zt_ ds.length=b1:=⟨_,rfl⟩;rw[hb1] at hC0
 have hb1s:b1.size<=b.size+11:=by rw[<- hb1,ag_];omega
 have hbx:b++(zt_ ds.length++byTs true ks ds)=b1++byTs true ks ds:=by rw[<- hb1,bb_]
 rw[hbx] at Q_;have hown:=q_ (λ g e=>(BufV.own hu (g:=g) e).1);have start:H_ (∀ (v1:Value) (W:World),BufV W B v1 b1->Fr w W (λ g=>u.ownBlock=some g)->∃ q:Nat,Value.int .i64 0=.int .i64 (q:Int)/\q<=ds.length/\ds.length+1-q<=ds.length+1/\BufV W B v1 (b1++byTs true ks (ds.take q))/\Fr w W (λ g=>B<=g)):=q_ λ v1 W h1 h2=>⟨0,rfl,aj_ _,by omega,by rw[List.take_zero];simp only[byTs];rw[j9_];exact h1,h2.mono (λ g _ e=>hown.o g e)⟩;clear hb1 hbx;replace ho:=q_ ho;replace hd:=q_ hd;replace hl:=q_ hl;replace hP:=q_ hP;replace hok:=q_ hok;replace hu:=q_ hu;replace hk:=q_ hk
 go_in
 go_wp2_with (go_at_call 112;refine hC0.o.mono ?_;rintro e w1 ⟨v1,rfl,hv1,hF1,hO1⟩;replace hv1:=q_ hv1;replace hF1:=q_ hF1;replace hO1:=q_ hO1)
 go_loopg [0,6,13] (ds.length+1) (λ m v0 v6 v W=>∃ q:Nat,v=.int .i64 (q:Int)/\q<=ds.length/\ds.length+1-q<=m/\BufV W B v0 (b1++byTs true ks (ds.take q))/\Fr w W (λ g=>B<=g))
 case atStart=>exact start.o _ _ hv1.o hF1.o
 case round=>
  clear start hC0 hF1 hO1 hv1;obtain⟨q,rfl,hq,hmq,hBu,hFw⟩:=hrel
  by_cases hlt:q<ds.length
  ·have hlt':(q:Int)<(ds.length:Int):=by omega
   have hdq:ds[q]?=some ds[q]:=am_ hlt;generalize ds[q]=d at hdq;obtain⟨t1,t2⟩:=xm_ hdq;have hsz:=zdd true ks (ds.take q) hk.o (zcw hok.o q);obtain⟨K,hK0⟩:∃ K,ks.getD q noB=K:=⟨_,rfl⟩
   have hst:byTs true ks (ds.take (q+1))=byTs true ks (ds.take q)++((zt_ K.size++K)++byT d):=by
    rw[zgh true ds ks q d hdq,hK0]
    rfl
   have hK4:K.size<=4000:=by
    rw[<- hK0,aq_]
    cases hkk:ks[q]? with
    | none=>exact aj_ _
    | some y=>exact hk.o y (ak_ hkk)
   obtain⟨g,cap,hgc⟩:=zk_ ho.o (by omega);cases hgc;have hv:=hd.o q d hdq;obtain⟨T,x,hx⟩:=hv.iface;rw[hx] at hv
   have hkeep:∀ g,P g->¬ B<=g:=λ g h=>by have:=hP.o g h;omega
   obtain⟨m0,m1⟩:=ze9 (K:=λ i=>ks.getD i noB) (zb_ ho.o hFw (λ g e=>hkeep g (hl.o g e))) hlt;rw[hx] at m1;simp only[hK0] at m0;have hzr:=hFw.size
   have hT:∀ W,Fr (wr.alloc (.cells #[.string K,.iface T x] 173)) W (λ _=>False)->Calls prog 113 #[u0,.string K] W (λ e w'=>∃ v1,e=.returned v1/\H_ (BufV w' B v1 ((b1++byTs true ks (ds.take q))++(zt_ K.size++K))/\Fr w w' (λ g=>B<=g))/\w'.cell? ⟨wr.heap.size,1,none⟩=some (.iface T x)):=by
    intro W hW;have hz:=hW.size
    simp at hz
    have huW:BufV W B u0 (b1++byTs true ks (ds.take q)):=(BufV.fr (BufV.fr hBu ((Fr.refl wr (λ _=>False)).alloc _) u_) hW u_);refine(zuk hK4 huW (by omega) (by rw[ag_];omega)).mono ?_;rintro e w1 ⟨v1,rfl,hb1,hF1⟩;refine⟨v1,rfl,q_ ⟨hb1,?_⟩,?_⟩
    ·refine hFw.trans ((((Fr.refl wr _).alloc _).trans (T:=λ _=>False) hW v_).trans hF1 (λ x _ e=>?_)) u_;exact(hBu.own e).1
    ·have h1:=Blk.new wr #[.string K,.iface T x] 173;have h2:=hF1.blk (hW.blk h1 (λ f=>f)) (λ e=>by have:=(hBu.own e).2;omega);rw[h2.cell 1]
     rfl
   have hD:∀ W v1,BufV W B v1 ((b1++byTs true ks (ds.take q))++(zt_ K.size++K))->Fr w W (λ g=>B<=g)->Calls prog 81 #[v1,.iface T x] W (vk_ w B (b1++byTs true ks (ds.take (q+1)))):=by
    intro W v1 hb1 hF1;have hz:=hF1.size;have hw2:=xe_ K.size;refine(ih d (by omega) W P B _ v1 _ (hv.fr hF1 hkeep) hP.o (by omega) hb1 (by simp only[ag_];omega)).mono ?_;rintro e w2 ⟨v2,rfl,hb2,hF2⟩;refine⟨v2,rfl,?_,hF1.trans hF2 u_⟩;rw[hst];simp only[bb_] at hb2⊢;exact hb2
   have hq5:q<=90000000:=by omega
   clear hsz t1 t2 hst hkeep;replace hT:=q_ hT;replace hD:=q_ hD;replace hFw:=q_ hFw;replace hdq:=q_ hdq;replace hv:=q_ hv;replace hBu:=q_ hBu;clear hx
   go_wp2_with fail
   go_region_with (first
    |(go_at_call 113;refine(hT.o _ (by first|exact Fr.refl _ _|exact(Fr.refl _ _).drew|exact(Fr.refl _ _).drew.drew)).mono ?_;rintro e w1 ⟨v1,rfl,hb1,c1⟩)
    |(go_at_call 81;refine(hD.o _ _ (by first|exact hb1.o.1|exact BufV.fr hb1.o.1 (Fr.refl w1 (λ _=>False)).drew u_|exact BufV.fr hb1.o.1 (Fr.refl w1 (λ _=>False)).drew.drew u_) (by first|exact hb1.o.2|exact hb1.o.2.drew|exact hb1.o.2.drew.drew)).mono ?_;rintro e w2 ⟨v2,rfl,hb2,hf2⟩;replace hb2:=q_ hb2;replace hf2:=q_ hf2))
   all_goals
    go_wp2_with fail
    go_roundg (ds.length+1-(q+1))
    case measure=>omega
    case rel=>exact⟨q+1,by simp,hlt,l_,by first|exact hb2.o|exact BufV.fr hb2.o (Fr.refl w2 (λ _=>False)).drew u_,by first|exact hf2.o|exact hf2.o.drew⟩
  ·have hlt':¬ ((q:Int)<(ds.length:Int)):=by omega
   rw[a3_ (by omega)] at hBu;replace hFw:=q_ hFw;replace hBu:=q_ hBu
   go_wp2_with fail
   try go_ret
   rw[Q_.o];exact⟨_,rfl,hBu.o,hFw.o⟩
open Go.RowKit
theorem zgu.all {w:World}{B:Nat}{b0:BA}{e:Ending}(hu:BufV w B u b0) (h:zgu w B u b e w'):vk_ w B b e w':=by
 obtain⟨v,rfl,h1,h2⟩:=h;exact⟨v,rfl,h1,h2.mono (λ g _ e=>(hu.own e).1)⟩
theorem zl7.all {w:World}{B:Nat}{b0:BA}{e:Ending}(hu:BufV w B u b0) (h:zl7 w B u b e w'):vk_ w B b e w':=by
 obtain⟨v,rfl,h1,h2,_⟩:=h;exact⟨v,rfl,h1,h2.mono (λ g _ e=>(hu.own e).1)⟩
theorem zpd {w:World}{B:Nat}(_hB:B<=w.heap.size) (hu:BufV w B u b) (_hs:b.size+8022<=90000000) :
 Calls prog 81 #[u,.iface 178 (.agg #[])] w (vk_ w B (b++byT (.mk 110 0 noB [] []))):=by
 refine hq_ λ POST Q_=>?_
 have hby:byT (.mk 110 0 noB [] [])=noB:=by unfold byT;rw[if_neg (by decide),if_neg (by decide),if_neg (by decide),if_neg (by decide),if_neg (by decide),if_neg (by decide),xl_];simp only[byTs]
 have a0:=yz_ 178 (by decide);have a1:=yv_ 178 (by decide);have a2:=x4_ 178 (by decide);have a3:=xk_ 178 (by decide);have a4:=je_ 178 (by decide);have a5:=x5_ 178 (by decide);have a6:=jr_ 178 (by decide);have a7:=zdy 178 (by decide);have a8:=zub 178 (by decide);replace hu:=q_ hu
 go_in
 go_wp2_with fail
 try go_ret
 rw[Q_.o,hby,j9_];exact⟨_,rfl,hu.o,Fr.refl _ _⟩
theorem zu2 {w:World}{B:Nat}{t:Bool}(hB:B<=w.heap.size) (hu:BufV w B u b) (hs:b.size+8022<=90000000) :
 Calls prog 81 #[u,.iface 179 (.bool t)] w (vk_ w B (b++byT (.mk 116 (if t=true then 1 else 0) noB [] []))):=by
 refine hq_ λ POST Q_=>?_
 have hby:byT (.mk 116 (if t=true then 1 else 0) noB [] [])=bts [if t=true then 1 else 0]:=by unfold byT;rw[if_pos rfl];cases t<;>rfl
 have a0:=zhq;have hC:=q_ (zwy (t:=t) hu hB (by omega));replace hu:=q_ hu
 go_in
 go_wp2_with (go_at_call 111;refine hC.o.mono ?_;rintro e w1 h1;replace h1:=q_ h1;obtain⟨v1,rfl,_⟩:=h1.o)
 try go_ret
 rw[Q_.o,hby];exact h1.o.all hu.o
theorem zzd {w:World}{B:Nat}{c:Nat}(hc:c=105\/c=108) (h0 : -9223372036854775808<=n) (h1:n<=9223372036854775807) (hB:B<=w.heap.size) (hu:BufV w B u b) (hs:b.size+8022<=90000000) :
 Calls prog 81 #[u,.iface 181 (.int .i64 n)] w (vk_ w B (b++byT (.mk c n noB [] []))):=by
 refine hq_ λ POST Q_=>?_
 have hby:byT (.mk c n noB [] [])=zt_ n:=by unfold byT;rw[if_neg (by omega),if_pos (by omega)]
 have a0:=yz_ 181 (by decide);have a1:=zgf;have hC:=q_ (zhy h0 h1 hu hB (by omega));replace hu:=q_ hu
 go_in
 go_wp2_with (go_at_call 112;refine hC.o.mono ?_;rintro e w1 h1;replace h1:=q_ h1;obtain⟨v1,rfl,_⟩:=h1.o)
 try go_ret
 rw[Q_.o,hby];exact h1.o.all hu.o
theorem zxk {w:World}{B:Nat}(ht:tx.size<=4000) (hB:B<=w.heap.size) (hu:BufV w B u b) (hs:b.size+8022<=90000000) :
 Calls prog 81 #[u,.iface 183 (.string tx)] w (vk_ w B (b++byT (.mk 115 0 tx [] []))):=by
 refine hq_ λ POST Q_=>?_
 have hby:byT (.mk 115 0 tx [] [])=zt_ tx.size++tx:=by unfold byT;rw[if_neg (by decide),if_neg (by decide),if_pos rfl]
 have a0:=yz_ 183 (by decide);have a1:=yv_ 183 (by decide);have a2:=zlp;have hC:=q_ (zuk ht hu hB (by omega));replace hu:=q_ hu
 go_in
 go_wp2_with (go_at_call 113;refine hC.o.mono ?_;rintro e w1 h1;replace h1:=q_ h1;obtain⟨v1,rfl,_⟩:=h1.o)
 try go_ret
 rw[Q_.o,hby];exact h1.o.all hu.o
theorem zzc {w:World}{B:Nat}{n l:Nat}(hn:n<=4000) (hB:B<=w.heap.size) (hu:BufV w B u b) (hs:b.size+8022<=90000000) :
 Calls prog 81 #[u,.iface 189 (.agg #[.int .u8 (l:Int),.int .i64 (n:Int)])] w (vk_ w B (b++byT (.mk 101 (n:Int) noB [] []))):=by
 refine hq_ λ POST Q_=>?_
 have hby:byT (.mk 101 (n:Int) noB [] [])=zt_ n:=by unfold byT;rw[if_neg (by decide),if_pos (by decide)]
 have a0:=yz_ 189 (by decide);have a1:=yv_ 189 (by decide);have a2:=x4_ 189 (by decide);have a3:=xk_ 189 (by decide);have a4:=je_ 189 (by decide);have a5:=x5_ 189 (by decide);have a6:=jr_ 189 (by decide);have a7:=zcl;have A:Fr w (w.alloc (.cells #[.int .u8 (l:Int),.int .i64 (n:Int)] 189)) (λ _=>False):=(Fr.refl w _).alloc _;have hu2:BufV (w.alloc (.cells #[.int .u8 (l:Int),.int .i64 (n:Int)] 189)) B u b:=hu.fr A u_;have hC:=q_ (zhy (n:=(n:Int)) (by omega) (by omega) hu2 (by have:=A.size;omega) (by omega));replace hu:=q_ hu;replace hu2:=q_ hu2;replace A:=q_ A
 go_in
 go_wp2_with (go_at_call 112;refine hC.o.mono ?_;rintro e w1 h1;replace h1:=q_ h1;obtain⟨v1,rfl,_⟩:=h1.o)
 try go_ret
 rw[Q_.o,hby];obtain⟨v2,e2,h2,h3⟩:=h1.o.all hu2.o;exact⟨v2,e2,h2,(A.o.mono v_).trans h3 u_⟩
theorem zxr:Tryz.prog.underlying 190=some .string:=by kernel_rfl
theorem zu3 {w:World}{B:Nat}(ht:tx.size<=4000) (hB:B<=w.heap.size) (hu:BufV w B u b) (hs:b.size+8022<=90000000) :
 Calls prog 81 #[u,.iface 190 (.string tx)] w (vk_ w B (b++byT (.mk 102 0 tx [] []))):=by
 refine hq_ λ POST Q_=>?_
 have hby:byT (.mk 102 0 tx [] [])=tx:=by unfold byT;rw[if_neg (by decide),if_neg (by decide),if_neg (by decide),if_pos rfl]
 have a0:=yz_ 190 (by decide);have a1:=yv_ 190 (by decide);have a2:=x4_ 190 (by decide);have a3:=xk_ 190 (by decide);have a4:=je_ 190 (by decide);have a5:=x5_ 190 (by decide);have a6:=jr_ 190 (by decide);have a7:=zdy 190 (by decide);have a8:=zhr;obtain⟨ti,hi1,hi2,hi3,hi4⟩:=info_parts i_u8;replace hu:=q_ hu
 go_in
 go_wp2_with (at_builtin;go_must (refine Lib.wpList_append_own_string _ rfl _ _ 111 190 rfl B 5 ti zfl zxr hi1 hi2 hi3 hi4 _ b.size (Lib.strCells b) rfl ?hown tx rfl ?b1 ?b2 ?b3 ?_)
              case hown=>exact hu.o
              case b1=>unfold maxLen;omega
              case b2=>omega
              case b3=>omega
              intro v5 w5 ho5 hg5 hn5)
 try go_ret
 rw[Q_.o,hby];refine⟨v5,rfl,?_,((Fr.refl w _).grown hg5 (λ k hk _=>hk)).mono (λ g _ e=>(hu.o.own e).1)⟩;unfold BufV;rw[ye_,ag_];exact ho5
open Go.RowKit
theorem zze (ih:WrOK m){ks:List BA}{w:World}{B:Nat}(hm:ndTs ds<=m) (hP:∀ g,P g->g<B) (hB:B<=w.heap.size) (hu:BufV w B u b) (hs:b.size+8022*(1+ndTs ds)<=90000000) (hk:∀ k∈ks,k.size<=4000)
 (ho:w.ownsRow 0 173 2 (.slice la ds.length lc) ds.length ((List.range ds.length).flatMap λ i=>[.string (ks.getD i noB),Y i])) (hl:∀ g,(Value.slice la ds.length lc).ownBlock=some g->P g) (hd:∀ i d,ds[i]?=some d->DatV w P d (Y i)) :
 Calls prog 81 #[u,.iface 171 (.slice la ds.length lc)] w (vk_ w B (b++byT (.mk 123 0 noB ks ds))):=by
 refine hq_ λ POST Q_=>?_
 have hby:byT (.mk 123 0 noB ks ds)=zt_ ds.length++byTs true ks ds:=by
  conv=>lhs;unfold byT
  rw[if_neg (by decide),if_neg (by decide),if_neg (by decide),if_neg (by decide),if_neg (by decide),if_pos (by decide)]
  try rfl
 have hnl:=x3_ ds;have a0:=yz_ 171 (by decide);have a1:=yv_ 171 (by decide);have a2:=x4_ 171 (by decide);have a3:=xk_ 171 (by decide);have a4:=zff;have hC:=q_ (z0j ih hm hP hB hu hs hk ho hl hd);clear ih hP hu ho hl hd hk
 go_in
 go_wp2_with (go_at_call 115;refine hC.o.mono ?_;rintro e w1 h1;replace h1:=q_ h1;obtain⟨v1,rfl,_⟩:=h1.o)
 try go_ret
 rw[Q_.o,hby];exact h1.o
theorem zxl (ih:WrOK m){w:World}{B:Nat}(hm:ndTs ds<=m) (hP:∀ g,P g->g<B) (hB:B<=w.heap.size) (hu:BufV w B u b) (hs:b.size+8022*(1+ndTs ds)<=90000000)
 (ho:w.ownsRow 0 94 1 (.slice la ds.length lc) ds.length ((List.range ds.length).flatMap λ i=>[Y i])) (hl:∀ g,(Value.slice la ds.length lc).ownBlock=some g->P g) (hd:∀ i d,ds[i]?=some d->DatV w P d (Y i)) :
 Calls prog 81 #[u,.iface 176 (.slice la ds.length lc)] w (vk_ w B (b++byT (.mk 114 0 noB [] ds))):=by
 refine hq_ λ POST Q_=>?_
 have hby:byT (.mk 114 0 noB [] ds)=byTs false [] ds:=by
  conv=>lhs;unfold byT
  rw[if_neg (by decide),if_neg (by decide),if_neg (by decide),if_neg (by decide),if_neg (by decide),if_neg (by decide),xl_]
  try rfl
 have hnl:=x3_ ds;have a0:=yz_ 176 (by decide);have a1:=yv_ 176 (by decide);have a2:=x4_ 176 (by decide);have a3:=xk_ 176 (by decide);have a4:=je_ 176 (by decide);have a5:=x5_ 176 (by decide);have a6:=zar;have hC:=q_ (zxf ih hm hP hB hu (by omega) ho hl hd);clear ih hP hu ho hl hd
 go_in
 go_wp2_with (go_at_call 114;refine hC.o.mono ?_;rintro e w1 h1;replace h1:=q_ h1;obtain⟨v1,rfl,_⟩:=h1.o)
 try go_ret
 rw[Q_.o,hby];exact h1.o
theorem zxm (ih:WrOK m){w:World}{B:Nat}(hm:ndTs ds<=m) (hP:∀ g,P g->g<B) (hB:B<=w.heap.size) (hu:BufV w B u b) (hs:b.size+8022*(1+ndTs ds)<=90000000)
 (ho:w.ownsRow 0 94 1 (.slice la ds.length lc) ds.length ((List.range ds.length).flatMap λ i=>[Y i])) (hl:∀ g,(Value.slice la ds.length lc).ownBlock=some g->P g) (hd:∀ i d,ds[i]?=some d->DatV w P d (Y i)) :
 Calls prog 81 #[u,.iface 169 (.slice la ds.length lc)] w (vk_ w B (b++byT (.mk 91 0 noB [] ds))):=by
 refine hq_ λ POST Q_=>?_
 have hby:byT (.mk 91 0 noB [] ds)=zt_ ds.length++byTs false [] ds:=by
  conv=>lhs;unfold byT
  rw[if_neg (by decide),if_neg (by decide),if_neg (by decide),if_neg (by decide),if_neg (by decide),if_pos (by decide)]
  try rfl
 have hnl:=x3_ ds;have a0:=yz_ 169 (by decide);have a1:=yv_ 169 (by decide);have a2:=x4_ 169 (by decide);have a3:=zdc;have hws:=xe_ ds.length;have hC:=q_ (zhy (n:=(ds.length:Int)) (by omega) (by omega) hu hB (by omega))
 have hD:∀ W v1,BufV W B v1 (b++zt_ ds.length)->Fr w W (λ g=>u.ownBlock=some g)->Calls prog 114 #[v1,.slice la ds.length lc] W (vk_ w B (b++byT (.mk 91 0 noB [] ds))):=by
  intro W v1 h1 hF;have hF2:=hF.mono (T:=λ g=>B<=g) (λ g _ e=>(hu.own e).1)
  have hkeep:∀ g,P g->¬ B<=g:=λ g h=>by have:=hP g h;omega
  refine(zxf ih hm hP (by have:=hF.size;omega) h1 (by rw[ag_];omega) (zb_ ho hF2 (λ g e=>hkeep g (hl g e))) hl (λ i d e=>(hd i d e).fr hF2 hkeep)).mono ?_;rintro e w2 ⟨v2,rfl,h3,h4⟩;refine⟨v2,rfl,?_,hF2.trans h4 u_⟩;rw[hby,<- bb_];exact h3
 replace hD:=q_ hD;clear ih hP hu ho hl hd
 go_in
 go_wp2_with (first
  |(go_at_call 112;refine hC.o.mono ?_;rintro e w1 ⟨v1,rfl,h1,hF1,hO1⟩;replace h1:=q_ h1;replace hF1:=q_ hF1;replace hO1:=q_ hO1)
  |(go_at_call 114;refine(hD.o _ _ h1.o hF1.o).mono ?_;rintro e w2 h2;replace h2:=q_ h2;obtain⟨v2,rfl,_⟩:=h2.o))
 try go_ret
 rw[Q_.o];exact h2.o
theorem zzf:∀ m,WrOK m:=by
 intro m
 induction m with
 | zero=>intro d h;obtain⟨_,_,_,_,_⟩:=d;unfold ndT at h;omega
 | succ m ih=>
  intro d hm w P B v u b hv hP hB hu hs
  cases hv with
  | flat h=>
   have hge:1<=ndT d:=by obtain⟨_,_,_,_,_⟩:=d;unfold ndT;omega
   cases h with
   | nothing=>exact zpd hB hu (by omega)
   | truth b=>exact zu2 hB hu (by omega)
   | num c n hc h0 h1=>exact zzd hc h0 h1 hB hu (by omega)
   | text tx h=>exact zxk h hB hu (by omega)
   | bytes tx h=>exact zu3 h hB hu (by omega)
   | sym n l h=>exact zzc h hB hu (by omega)
  | branch n h hd=>
   unfold ndT at hm hs;simp only[ndTs,a7_] at hm hs;exact zrg ih h (by omega) hd hP hB hu hs
  | row Y hc ho hl hd=>
   unfold ndT at hm hs;obtain⟨la,lc,rfl⟩:=zf_ ho
   rcases hc with⟨rfl,rfl⟩|⟨rfl,rfl⟩
   ·exact zxm ih (by omega) hP hB hu hs ho hl hd
   ·exact zxl ih (by omega) hP hB hu hs ho hl hd
  | map Y hl hk ho hl2 hd=>
   unfold ndT at hm hs;obtain⟨la,lc,rfl⟩:=zf_ ho;exact zze ih (by omega) hP hB hu hs hk ho hl2 hd
theorem zox {w:World}{B:Nat}{v:Value}(h:BufV w B v b):(convert 111 9 v).run prog w=.ok (.string b) w:=by
 obtain⟨xs,hxs⟩:∃ xs:List Int,xs=b.data.toList.map λ x=>((x.toNat:Nat):Int):=⟨_,rfl⟩
 have hb:strOfNums xs=b:=by
  apply br_
  unfold strOfNums;subst hxs
  apply Array.toList_inj.1
  rw[List.map_map];show b.data.toList.map _=_
  conv=>rhs;rw[<- List.map_id b.data.toList]
  apply List.map_congr_left
  intro x _;show UInt8.ofNat ((x.toNat:Int).toNat)=x;rw[bc_,UInt8.ofNat_toNat]
 have hl:xs.length=b.size:=by subst hxs;rw[List.length_map];rfl
 have h0:=h
 rcases h.2 with⟨rfl,e⟩|⟨g,cap,cur,rfl,_⟩
 ·have:=run_convert_bytes_nil (P:=prog) w 111 5 underlying111 underlying5 0 0 9 underlying9;have hz:b.data.size=0:=e;have he:b=ByteArray.empty:=br_ (Array.eq_empty_of_size_eq_zero hz);rw[he];exact this
 ·have:=run_convert_bytes_arg (P:=prog) w 111 5 underlying111 underlying5 g 0 b.size cap xs hl (λ i hi=>by
   rw[bg_]
   refine zs_ h0 rfl ?_
   unfold Lib.strCells
   subst hxs
   rw[aq_,a4_,a4_,am_ (show i<b.data.toList.length from hi)]
   rfl) 9 underlying9
  rw[hb] at this;exact this
theorem zrf {w:World}{v:Value}(hv:DatV w P d v) (hs:8022*ndT d<=90000000) :
 Calls prog 51 #[v] w λ e w'=>e=.returned (.string (byT d))/\Fr w w' (λ _=>False):=by
 refine hq_ λ POST Q_=>?_;obtain⟨T,x,rfl⟩:=hv.iface;have hC:=q_ (zzf (ndT d) d l_ w (λ g=>P g/\g<w.heap.size) w.heap.size _ (.slice none 0 0) noB (hv.mono (λ g h1 h2=>⟨h2,h1⟩)) (λ g h=>h.2) l_ (World.ownsRow_nil _ _ _ _) (by show 0+_<=_;omega));rw[xl_] at hC
 go_in
 go_wp2_with (go_at_call 81;refine hC.o.mono ?_;rintro e w1 ⟨v1,rfl,h1,hF1⟩;have hcv:=zox h1;replace hF1:=q_ hF1;replace h1:=q_ h1)
 try go_ret
 rw[Q_.o];exact⟨rfl,hF1.o.mono (λ g hg e=>by omega)⟩
end Go.Proofs.YthmjjpkjgjklmaaGreatDoor
