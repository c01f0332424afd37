import Derived.Test.YtiifagiebikmdaaGreatDoorBK10
import Derived.Lib.AppendStr
import Derived.Deep.RegionWith
import Derived.Test.YtiifagiebikmdaaGreatDoorBK11
import Derived.Test.YtiifagiebikmdaaGreatDoorBK31
namespace Go.Proofs.YtiifagiebikmdaaGreatDoor
open Go.RowKit
def BufV (w:World) (B:Nat) (v:Value) (b:ByteArray):Prop:=w.ownsRow B 5 1 v b.size (Lib.strCells b)
theorem not_i64 {n:Int}(h0 : -9223372036854775808≤n) (h1:n<0):IntKind.u64.wrap (bits .xor .i64 (-1) n) = -(n+1):=by
 have e:bits .xor .i64 (-1) n=IntKind.i64.wrap ((BitVec.ofInt 64 (-1) ^^^ BitVec.ofInt 64 n).toNat:Int):=rfl
 have a1:BitVec.ofInt 64 (-1)=BitVec.allOnes 64:=by decide
 rw[e,a1,BitVec.allOnes_xor,BitVec.toNat_not,IntKind.wrap_u64,BitVec.toNat_ofInt]
 simp only[IntKind.wrap,IntKind.bits,IntKind.signed]
 have:((n % ((2 ^ 64:Nat):Int)).toNat:Int)=n+18446744073709551616:=by
  have:n % ((2 ^ 64:Nat):Int)=n+18446744073709551616:=by omega
  omega
 simp
 omega
theorem or_nat {x:Nat}(h:x<256):x ||| 128=x % 128+128:=by
 have k:∀ y,y<128→128+y=128 ||| y:=fun y hy=>by
  have:=Nat.two_pow_add_eq_or_of_lt (i:=7) (b:=y) (by omega) 1
  simpa using this
 by_cases hx:x<128
 ·rw[Nat.mod_eq_of_lt hx,Nat.or_comm,← k x hx];omega
 ·have e:x=128 |||(x-128):=by rw[← k _ (by omega)];omega
  rw[show x ||| 128=x by
   conv=>lhs;rw[e,Nat.or_comm,← Nat.or_assoc,Nat.or_self,← e]]
  omega
theorem or_u8 {z:Nat}:bits .or .u8 ((z:Int) % 256) 128=((z % 128+128:Nat):Int):=by
 have e:bits .or .u8 ((z:Int) % 256) 128=IntKind.u8.wrap ((BitVec.ofInt 8 ((z:Int) % 256) ||| BitVec.ofInt 8 128).toNat:Int):=rfl
 have h1:(BitVec.ofInt 8 ((z % 256:Nat):Int)).toNat=z % 256:=by
  rw[BitVec.ofInt_natCast,BitVec.toNat_ofNat];exact Nat.mod_eq_of_lt (by omega)
 have h2:(BitVec.ofInt 8 128).toNat=128:=by decide
 rw[e,show((z:Int) % 256)=((z % 256:Nat):Int) by omega,BitVec.toNat_or,h1,h2,or_nat (by omega)]
 simp[IntKind.wrap,IntKind.bits,IntKind.signed]
 omega
set_option maxHeartbeats 4000000 in
theorem fold_any {w:World}{n:Int}(h0 : -9223372036854775808≤n) (h1:n≤9223372036854775807) :
 Calls Tryz.prog 124 #[.int .i64 n] w fun e w'=>e=.returned (.int .u64 (foldI n:Int))∧w'=w:=by
 obtain⟨POST,hPOST⟩:∃ Q,Hid (Q=fun (e:Ending) (w':World)=>e=.returned (.int .u64 (foldI n:Int))∧w'=w):=⟨_,rfl⟩
 rw[← hPOST.out]
 by_cases hn:n<0
 ·go_enter Tryz.func124,Tryz.ntmps124
  go_wp2_with fail
  try go_ret
  rw[hPOST.out,not_i64 h0 hn,IntKind.wrap_u64,IntKind.wrap_u64]
  unfold foldI
  rw[if_pos hn]
  refine⟨?_,rfl⟩
  congr 2
  omega
 ·go_enter Tryz.func124,Tryz.ntmps124
  go_wp2_with fail
  try go_ret
  rw[hPOST.out]
  unfold foldI
  rw[if_neg (by omega)]
  refine⟨?_,rfl⟩
  congr 2
  omega
theorem u_u8s:Tryz.prog.underlying 99=some (.slice 5):=by kernel_rfl
theorem i_u8:(Tryz.prog.info? 5).map (fun i=>(i.zero,i.size,i.bytes))=some (some (.int .u8 0),1,1):=by kernel_rfl
theorem strCells_append (a b:ByteArray):Lib.strCells (a++b)=Lib.strCells a++Lib.strCells b:=by
 unfold Lib.strCells
 simp
theorem strCells_one {c:Nat}(h:c<256):Lib.strCells (bts [c])=[.int .u8 (c:Int)]:=by
 unfold Lib.strCells bts
 simp
 omega
def Own (w:World) (v v':Value):Prop:=v'.ownBlock=v.ownBlock∨∃ h,v'.ownBlock=some h∧w.heap.size≤h
theorem Own.trans {w W:World}{v v1 v2:Value}(h:Own w v v1) (k:v2.ownBlock=v1.ownBlock∨v2.ownBlock=some W.heap.size) (hs:w.heap.size≤W.heap.size):Own w v v2:=by
 rcases k with k|k
 ·unfold Own;rw[k];exact h
 ·exact .inr ⟨_,k,hs⟩
theorem Own.fr {w W W2:World}{v v1:Value}(h:Own w v v1) (hF:Fr w W (fun g=>v.ownBlock=some g)) (hF2:Fr W W2 (fun g=>v1.ownBlock=some g)):Fr w W2 (fun g=>v.ownBlock=some g):=by
 refine hF.trans hF2 (fun x hx e=>?_)
 rcases h with h|⟨q,h,hq⟩
 ·rw[← h];exact e
 ·rw[h] at e;simp only[Option.some.injEq] at e;omega
def NmPost (w:World) (B:Nat) (v:Value) (b:ByteArray) (e:Ending) (w':World):Prop:=∃ v',e=.returned v'∧BufV w' B v' b∧Fr w w' (fun g=>v.ownBlock=some g)∧Own w v v'
def TxPost (w:World) (B:Nat) (v:Value) (b:ByteArray) (e:Ending) (w':World):Prop:=∃ v',e=.returned v'∧BufV w' B v' b∧Fr w w' (fun g=>v.ownBlock=some g)
def APost (w:World) (B:Nat) (b:ByteArray) (e:Ending) (w':World):Prop:=∃ v',e=.returned v'∧BufV w' B v' b∧Fr w w' (fun g=>B≤g)
theorem BufV.own {w:World}{B:Nat}{v:Value}{b:ByteArray}(h:BufV w B v b){g:Nat}(e:v.ownBlock=some g):B≤g∧g<w.heap.size:=World.ownsRow.lt h g e
def AnInv (w:World) (B:Nat) (v:Value) (T:ByteArray) (q:Nat) (v0 v5:Value) (W:World):Prop:=
 ∃ (z f:Nat) (acc:ByteArray),v5=.int .u64 (z:Int)∧z<18446744073709551616∧z<128 ^ (f+1)∧f≤q∧T=acc++bts (lebN f z)∧BufV W B v0 acc∧Fr w W (fun g=>v.ownBlock=some g)∧Own w v v0
section
variable {w W w5:World} {B z f:Nat} {T acc:ByteArray} {v v0 v5:Value} {o:Obj} {x:Int}
theorem AnInv.more {f':Nat}(hz:128≤z) (hz2:z<18446744073709551616) (hf:z<128 ^ (f+1)) (ef:f=f'+1) (hT:T=acc++bts (lebN f z)) (hF:Fr w W (fun g=>v.ownBlock=some g)) (hO:Own w v v0)
 (ho:w5.ownsRow B 5 1 v5 (acc.size+1) (Lib.strCells acc++[.int .u8 x])) (hx:x=((z % 128+128:Nat):Int)) (hg:(W.alloc o).grownBy w5 v0.ownBlock) (hl:v5.ownBlock=v0.ownBlock∨v5.ownBlock=some (W.alloc o).heap.size):AnInv w B v T f' v5 (.int .u64 ((z / 128:Nat):Int)) w5:=by
 subst ef hx
 refine⟨z / 128,f',acc++bts [z % 128+128],rfl,by omega,?_,Nat.le_refl _,?_,?_,?_,?_⟩
 ·rw[Nat.pow_succ] at hf;omega
 ·rw[hT,lebN,if_neg (by omega),ByteArray.append_assoc,← bts_append];rfl
 ·unfold BufV
  rw[strCells_append,strCells_one (by omega),ByteArray.size_append,bts_size]
  exact ho
 ·exact hO.fr hF (((Fr.refl W _).alloc o).grown hg (fun k hk _=>hk))
 ·exact hO.trans hl (by have:=hF.size;simp;omega)
theorem AnInv.last (hz:z<128) (hT:T=acc++bts (lebN f z)) (hF:Fr w W (fun g=>v.ownBlock=some g)) (hO:Own w v v0)
 (ho:w5.ownsRow B 5 1 v5 (acc.size+1) (Lib.strCells acc++[.int .u8 x])) (hx:x=(z:Int)) (hg:(W.alloc o).grownBy w5 v0.ownBlock) (hl:v5.ownBlock=v0.ownBlock∨v5.ownBlock=some (W.alloc o).heap.size):NmPost w B v T (.returned v5) w5:=by
 subst hx
 refine⟨v5,rfl,?_,?_,?_⟩
 ·have e:lebN f z=[z]:=by cases f <;> simp[lebN,hz]
  rw[hT,e]
  unfold BufV
  rw[strCells_append,strCells_one (by omega),ByteArray.size_append,bts_size]
  exact ho
 ·exact hO.fr hF (((Fr.refl W _).alloc o).grown hg (fun k hk _=>hk))
 ·exact hO.trans hl (by have:=hF.size;simp;omega)
end
theorem foldI_lt {n:Int}(h0 : -9223372036854775808≤n) (h1:n≤9223372036854775807):foldI n<18446744073709551616:=by
 unfold foldI;split <;> omega
set_option maxHeartbeats 4000000 in
set_option maxRecDepth 100000 in
theorem appNum {w:World}{B:Nat}{b:ByteArray}{v:Value}{n:Int}(h0 : -9223372036854775808≤n) (h1:n≤9223372036854775807) (hb:BufV w B v b) (hB:B≤w.heap.size) (hs:b.size≤100000000) :
 Calls Tryz.prog 85 #[v,.int .i64 n] w (NmPost w B v (b++wholeB n)):=by
 obtain⟨POST,hPOST⟩:∃ Q,Hid (Q=NmPost w B v (b++wholeB n)):=⟨_,rfl⟩
 rw[← hPOST.out]
 have hC:=@fold_any
 obtain⟨T,hT⟩:∃ T,b++wholeB n=T:=⟨_,rfl⟩
 obtain⟨zz,hzz⟩:∃ z,foldI n=z:=⟨_,rfl⟩
 have start:Hid (AnInv w B v T 10 v (.int .u64 (zz:Int)) w):=hide ⟨zz,10,b,rfl,by have:=foldI_lt h0 h1;omega,by have:=foldI_lt h0 h1;omega,Nat.le_refl _,by rw[← hT,← hzz];rfl,hb,Fr.refl _ _,.inl rfl⟩
 rw[hT] at hPOST
 have hTs:T.size≤100000011:=by have:=wholeB_size n;rw[← hT,ByteArray.size_append];omega
 replace hT:=hide hT
 replace hb:=hide hb
 obtain⟨ti,hi1,hi2,hi3,hi4⟩:=info_parts i_u8
 go_enter Tryz.func85,Tryz.ntmps85
 go_wp2_with (go_at_call 124;refine(hC h0 h1).mono ?_;rintro e w1 ⟨rfl,hw1⟩;replace hw1:=hw1.symm;subst hw1;rw[hzz])
 go_loopg [0,5] 10 (fun q v0 v5 W=>AnInv w B v T q v0 v5 W)
 case atStart=>exact start.out
 case round=>
  clear start
  obtain⟨z,f,acc,rfl,hz2,hz3,hf,hT2,hbuf,hF,hO⟩:=hrel
  have hacc:acc.size≤100000011:=by
   have:=congrArg ByteArray.size hT2
   rw[ByteArray.size_append] at this
   omega
  have hB2:B≤wr.heap.size:=by have:=hF.size;omega
  have hF':=hide hF
  replace hO:=hide hO
  have hbuf':=hide hbuf
  have hT2':=hide hT2
  clear hF hbuf hT2
  by_cases hz:z<128
  ·have hz':¬ (z:Int)≥128:=by omega
   clear hz3
   go_wp2_with (first
    |(at_builtin;go_must (refine wpList_append_own_at _ rfl _ _ 99 rfl B 5 ti _ 1 1 u_u8s hi1 hi2 hi3 hi4 rfl (by decide) _ acc.size (Lib.strCells acc) rfl ?hown _ 1 1 [.int .u8 (z:Int)] rfl rfl (news_new _ #[.int .u8 (z:Int)] _ _ ?nn) ?one ?b1 ?b2 ?b3 ?_)
      case hown=>exact World.ownsRow.alloc hbuf'.out _
      case nn=>simp
      case one=>simp[Value.oneCell']
      case b1=>unfold maxLen;omega
      case b2=>omega
      case b3=>simp;omega
      intro v5 w5 ho5 hg5 hn5 hl5))
   try go_ret
   rw[hPOST.out]
   exact AnInv.last hz hT2'.out hF'.out hO.out ho5 rfl hg5 hl5
  ·have hz':(z:Int)≥128:=by omega
   obtain⟨f',ef⟩:∃ f',f=f'+1:=by
    rcases f with _|f'
    ·simp at hz3;omega
    ·exact⟨f',rfl⟩
   have hz3':=hide hz3
   clear hz3
   go_wp2_with (first
    |(at_builtin;go_must (refine wpList_append_own_at _ rfl _ _ 99 rfl B 5 ti _ 1 1 u_u8s hi1 hi2 hi3 hi4 rfl (by decide) _ acc.size (Lib.strCells acc) rfl ?hown _ 1 1 [.int .u8 (bits .or .u8 ((z:Int) % 256) 128)] rfl rfl (news_new _ #[.int .u8 (bits .or .u8 ((z:Int) % 256) 128)] _ _ ?nn) ?one ?b1 ?b2 ?b3 ?_)
      case hown=>exact World.ownsRow.alloc hbuf'.out _
      case nn=>simp
      case one=>simp[Value.oneCell']
      case b1=>unfold maxLen;omega
      case b2=>omega
      case b3=>simp;omega
      intro v5 w5 ho5 hg5 hn5 hl5))
   go_roundg f'
   case measure=>omega
   case rel=>exact AnInv.more (by omega) hz2 hz3'.out ef hT2'.out hF'.out hO.out ho5 or_u8 hg5 hl5
set_option maxHeartbeats 4000000 in
set_option maxRecDepth 100000 in
theorem appText {w:World}{B:Nat}{b tx:ByteArray}{v:Value}(ht:tx.size≤4000) (hb:BufV w B v b) (hB:B≤w.heap.size) (hs:b.size≤100000000) :
 Calls Tryz.prog 86 #[v,.string tx] w (TxPost w B v (b++(wholeB tx.size++tx))):=by
 obtain⟨POST,hPOST⟩:∃ Q,Hid (Q=TxPost w B v (b++(wholeB tx.size++tx))):=⟨_,rfl⟩
 rw[← hPOST.out]
 have hC:=hide (appNum (n:=(tx.size:Int)) (by omega) (by omega) hb hB hs)
 have hws:=wholeB_size tx.size
 obtain⟨ti,hi1,hi2,hi3,hi4⟩:=info_parts i_u8
 replace hb:=hide hb
 go_enter Tryz.func86,Tryz.ntmps86
 go_wp2_with (first
  |(go_at_call 85;refine hC.out.mono ?_;rintro e w1 ⟨v1,rfl,hb1,hF1,hO1⟩;have hz1:=hF1.size;replace hb1:=hide hb1;replace hF1:=hide hF1;replace hO1:=hide hO1)
  |(at_builtin;go_must (refine Lib.wpList_append_own_string _ rfl _ _ 99 9 rfl B 5 ti u_u8s u_string hi1 hi2 hi3 hi4 _ (b++wholeB tx.size).size (Lib.strCells (b++wholeB tx.size)) rfl ?hown tx rfl ?b1 ?b2 ?b3 ?_)
    case hown=>exact hb1.out
    case b1=>rw[ByteArray.size_append];unfold maxLen;omega
    case b2=>rw[ByteArray.size_append];omega
    case b3=>omega
    intro v5 w5 ho5 hg5 hn5))
 try go_ret
 rw[hPOST.out]
 refine⟨v5,rfl,?_,hO1.out.fr hF1.out ((Fr.refl w1 _).grown hg5 (fun k hk _=>hk))⟩
 rw[← ByteArray.append_assoc]
 unfold BufV
 rw[strCells_append (b++wholeB tx.size),ByteArray.size_append (a:=b++wholeB tx.size)]
 exact ho5
set_option maxHeartbeats 4000000 in
set_option maxRecDepth 100000 in
theorem appTruth {w:World}{B:Nat}{b:ByteArray}{t:Bool}{v:Value}(hb:BufV w B v b) (hB:B≤w.heap.size) (hs:b.size≤100000000) :
 Calls Tryz.prog 84 #[v,.bool t] w (TxPost w B v (b++bts [if t=true then 1 else 0])):=by
 obtain⟨POST,hPOST⟩:∃ Q,Hid (Q=TxPost w B v (b++bts [if t=true then 1 else 0])):=⟨_,rfl⟩
 rw[← hPOST.out]
 obtain⟨ti,hi1,hi2,hi3,hi4⟩:=info_parts i_u8
 have fin:∀ (c:Nat) (w5:World) (v5:Value) (o:Obj),c<256→w5.ownsRow B 5 1 v5 (b.size+1) (Lib.strCells b++[.int .u8 (c:Int)])→(w.alloc o).grownBy w5 v.ownBlock→TxPost w B v (b++bts [c]) (.returned v5) w5:=by
  intro c w5 v5 o hc ho hg
  refine⟨v5,rfl,?_,((Fr.refl w _).alloc o).grown hg (fun k hk _=>hk)⟩
  unfold BufV
  rw[strCells_append,strCells_one hc,ByteArray.size_append,bts_size]
  exact ho
 replace fin:=hide fin
 replace hb:=hide hb
 cases t
 ·go_enter Tryz.func84,Tryz.ntmps84
  go_wp2_with (first
   |(at_builtin;go_must (refine wpList_append_own_at _ rfl _ _ 99 rfl B 5 ti _ 1 1 u_u8s hi1 hi2 hi3 hi4 rfl (by decide) _ b.size (Lib.strCells b) rfl ?hown _ 1 1 [.int .u8 0] rfl rfl (news_new _ #[.int .u8 0] _ _ ?nn) ?one ?b1 ?b2 ?b3 ?_)
     case hown=>exact World.ownsRow.alloc hb.out _
     case nn=>simp
     case one=>simp[Value.oneCell']
     case b1=>unfold maxLen;omega
     case b2=>omega
     case b3=>simp;omega
     intro v5 w5 ho5 hg5 hn5 hl5))
  try go_ret
  rw[hPOST.out]
  exact fin.out 0 _ _ _ (by omega) ho5 hg5
 ·go_enter Tryz.func84,Tryz.ntmps84
  go_wp2_with (first
   |(at_builtin;go_must (refine wpList_append_own_at _ rfl _ _ 99 rfl B 5 ti _ 1 1 u_u8s hi1 hi2 hi3 hi4 rfl (by decide) _ b.size (Lib.strCells b) rfl ?hown _ 1 1 [.int .u8 1] rfl rfl (news_new _ #[.int .u8 1] _ _ ?nn) ?one ?b1 ?b2 ?b3 ?_)
     case hown=>exact World.ownsRow.alloc hb.out _
     case nn=>simp
     case one=>simp[Value.oneCell']
     case b1=>unfold maxLen;omega
     case b2=>omega
     case b3=>simp;omega
     intro v5 w5 ho5 hg5 hn5 hl5))
  try go_ret
  rw[hPOST.out]
  exact fin.out 1 _ _ _ (by omega) ho5 hg5
open Go.RowKit
theorem okDs_of:∀ {ds:List DT},(∀ (i:Nat) (d:DT),ds[i]?=some d→okD d)→okDs ds
 | [],_=>by simp[okDs]
 | d::r,h=>by
  unfold okDs
  exact⟨h 0 d rfl,okDs_of (fun i e he=>h (i+1) e he)⟩
theorem DatV.ok {w:World}{P:Nat→Prop}{d:DT}{v:Value}(h:DatV w P d v):okD d:=by
 induction h with
 | flat h=>
  cases h with
  | nothing=>simp[okD,okDs,kdOK];exact Nat.zero_le _
  | truth b=>cases b <;> simp[okD,okDs,kdOK] <;> exact Nat.zero_le _
  | num c n hc h0 h1=>simp only[okD,okDs,kdOK];refine⟨⟨h0,h1,by omega⟩,fun e=>by omega,by show(0:Nat)≤_;omega,by simp,fun e=>by omega,trivial⟩
  | text tx h=>simp[okD,okDs,kdOK,h]
  | bytes tx h=>simp[okD,okDs,kdOK,h]
  | sym n l h=>simp only[okD,okDs,kdOK];refine⟨⟨by omega,by omega,by simp⟩,fun e=>by omega,by show(0:Nat)≤_;omega,by simp,fun e=>by omega,trivial⟩
 | branch n h hd ih=>simp only[okD,okDs,kdOK];refine⟨⟨by omega,by omega,by simp⟩,fun e=>by omega,by show(0:Nat)≤_;omega,by simp,fun e=>by omega,ih,trivial⟩
 | row Y hc ho hP hd ih=>simp only[okD,kdOK];refine⟨⟨by omega,by omega,by omega⟩,fun e=>by omega,by show(0:Nat)≤_;omega,by simp,fun e=>by omega,okDs_of ih⟩
 | map Y hl hk ho hP hd ih=>simp only[okD,kdOK];refine⟨⟨by omega,by omega,by simp⟩,fun e=>by omega,by show(0:Nat)≤_;omega,hk,fun _=>hl,okDs_of ih⟩
def WrOK (m:Nat):Prop:=∀ (d:DT),ndT d≤m→∀ (w:World) (P:Nat→Prop) (B:Nat) (v u:Value) (b:ByteArray),DatV w P d v→(∀ g,P g→g<B)→B≤w.heap.size→BufV w B u b→b.size+8022*ndT d≤90000000→
 Calls Tryz.prog 56 #[u,v] w (APost w B (b++byT d))
set_option maxHeartbeats 4000000 in
set_option maxRecDepth 100000 in
theorem appAll {m:Nat}(ih:WrOK m){ds:List DT}{la:Option Addr}{lc:Nat}{Y:Nat→Value}{w:World}{P:Nat→Prop}{B:Nat}{u:Value}{b:ByteArray}(hm:ndTs ds≤m) (hP:∀ g,P g→g<B) (hB:B≤w.heap.size) (hu:BufV w B u b) (hs:b.size+8022*ndTs ds≤90000000)
 (ho:w.ownsRow 0 89 1 (.slice la ds.length lc) ds.length ((List.range ds.length).flatMap fun i=>[Y i])) (hl:∀ g,(Value.slice la ds.length lc).ownBlock=some g→P g) (hd:∀ i d,ds[i]?=some d→DatV w P d (Y i)) :
 Calls Tryz.prog 87 #[u,.slice la ds.length lc] w (APost w B (b++byTs false [] ds)):=by
 obtain⟨POST,hPOST⟩:∃ Q,Hid (Q=APost w B (b++byTs false [] ds)):=⟨_,rfl⟩
 rw[← hPOST.out]
 have hok:okDs ds:=okDs_of (fun i d e=>(hd i d e).ok)
 have start:Hid (∃ q:Nat,Value.int .i64 0=.int .i64 (q:Int)∧q≤ds.length∧ds.length+1-q≤ds.length+1∧BufV w B u (b++byTs false [] (ds.take q))∧Fr w w (fun g=>B≤g)):=hide ⟨0,rfl,Nat.zero_le _,by omega,by rw[List.take_zero];simp only[byTs];rw[app_noB];exact hu,Fr.refl _ _⟩
 have hnl:=ndTs_len ds
 replace ho:=hide ho
 replace hd:=hide hd
 replace hl:=hide hl
 replace hP:=hide hP
 replace hok:=hide hok
 replace hu:=hide hu
 go_enter Tryz.func87,Tryz.ntmps87
 go_wp2_with fail
 go_loopg [0,6,9] (ds.length+1) (fun m v0 v6 v W=>∃ q:Nat,v=.int .i64 (q:Int)∧q≤ds.length∧ds.length+1-q≤m∧BufV W B v0 (b++byTs false [] (ds.take q))∧Fr w W (fun g=>B≤g))
 case atStart=>exact start.out
 case round=>
  clear start
  obtain⟨q,rfl,hq,hmq,hBu,hFw⟩:=hrel
  by_cases hlt:q<ds.length
  ·have hlt':(q:Int)<(ds.length:Int):=by omega
   have hdq:ds[q]?=some ds[q]:=List.getElem?_eq_getElem hlt
   generalize ds[q]=d at hdq
   obtain⟨t1,t2⟩:=ndTs_take hdq
   have hsz:=byTs_size false [] (ds.take q) (by simp) (okDs_take hok.out q)
   have hst:byTs false [] (ds.take (q+1))=byTs false [] (ds.take q)++byT d:=by
    rw[byTs_take false ds [] q d hdq]
    congr 1
    try simp only[itB,Bool.false_eq_true,if_false,noB_app]
   obtain⟨g,cap,hgc⟩:=own_form ho.out (by omega)
   cases hgc
   have hv:=hd.out q d hdq
   obtain⟨T,x,hx⟩:=hv.iface
   rw[hx] at hv
   have hkeep:∀ g,P g→¬ B≤g:=fun g h=>by have:=hP.out g h;omega
   have e0:wr.cell? ⟨g,q,none⟩=some (.iface T x):=by
    rw[← hx]
    exact row_item (ownsRow_fr ho.out hFw (fun g e=>hkeep g (hl.out g e))) hlt
   have hC:=hide (ih d (by omega) wr P B _ _ _ (hv.fr hFw hkeep) hP.out (by have:=hFw.size;omega) hBu (by rw[ByteArray.size_append];omega))
   rw[ByteArray.append_assoc,← hst] at hC
   have hq5:q≤90000000:=by omega
   clear hsz t1 t2
   replace hst:=hide hst
   replace hFw:=hide hFw
   replace hdq:=hide hdq
   replace hv:=hide hv
   replace hBu:=hide hBu
   replace hkeep:=hide hkeep
   clear hx
   go_wp2_with (go_at_call 56;refine hC.out.mono ?_;rintro e w2 ⟨v2,rfl,hb2,hf2⟩;replace hf2:=hide hf2;replace hb2:=hide hb2)
   go_roundg (ds.length+1-(q+1))
   case measure=>omega
   case rel=>exact⟨q+1,by simp,hlt,Nat.le_refl _,hb2.out,hFw.out.trans hf2.out (fun _ _ f=>f)⟩
  ·have hlt':¬ ((q:Int)<(ds.length:Int)):=by omega
   rw[List.take_of_length_le (by omega)] at hBu
   replace hFw:=hide hFw
   replace hBu:=hide hBu
   go_wp2_with fail
   try go_ret
   rw[hPOST.out]
   exact⟨_,rfl,hBu.out,hFw.out⟩
open Go.RowKit
theorem BufV.fr {w w':World}{B:Nat}{v:Value}{b:ByteArray}{S:Nat→Prop}(h:BufV w B v b) (hf:Fr w w' S) (hS:∀ g,v.ownBlock=some g→¬ S g):BufV w' B v b:=ownsRow_fr h hf hS
set_option maxHeartbeats 8000000 in
set_option maxRecDepth 100000 in
theorem wr_branch {m:Nat}(ih:WrOK m){n:Nat}(hn:n≤4000){d:DT}{v:Value}{w:World}{P:Nat→Prop}{B:Nat}{u:Value}{b:ByteArray}(hm:ndT d≤m) (hv:DatV w P d v) (hP:∀ g,P g→g<B) (hB:B≤w.heap.size) (hu:BufV w B u b) (hs:b.size+8022*(1+ndT d)≤90000000) :
 Calls Tryz.prog 56 #[u,.iface 162 (.agg #[.int .i64 (n:Int),v])] w (APost w B (b++byT (.mk 40 (n:Int) noB [] [d]))):=by
 obtain⟨POST,hPOST⟩:∃ Q,Hid (Q=APost w B (b++byT (.mk 40 (n:Int) noB [] [d]))):=⟨_,rfl⟩
 rw[← hPOST.out]
 obtain⟨T,x,rfl⟩:=hv.iface
 have hby:byT (.mk 40 (n:Int) noB [] [d])=wholeB n++byT d:=by
  have e:byT (.mk 40 (n:Int) noB [] [d])=wholeB n++byTs false [] [d]:=by
   conv=>lhs;unfold byT
   rw[if_neg (by decide),if_neg (by decide),if_neg (by decide),if_neg (by decide),if_pos rfl]
   rfl
  rw[e]
  congr 1
  simp only[byTs,app_noB]
  exact noB_app _
 have hws:=wholeB_size n
 have hkeep:∀ g,P g→¬ B≤g:=fun g h=>by have:=hP g h;omega
 have hK:∀ W,Fr (w.alloc (.cells #[.int .i64 (n:Int),.iface T x] 162)) W (fun _=>False)→Calls Tryz.prog 85 #[u,.int .i64 (n:Int)] W (fun e w'=>∃ v1,e=.returned v1∧Hid (BufV w' B v1 (b++wholeB n)∧Fr w w' (fun g=>B≤g))∧w'.cell? ⟨w.heap.size,1,none⟩=some (.iface T x)):=by
  intro W hW
  have hz:=hW.size
  simp at hz
  have huW:BufV W B u b:=(BufV.fr (BufV.fr hu ((Fr.refl w (fun _=>False)).alloc _) (fun _ _ f=>f)) hW (fun _ _ f=>f))
  refine(appNum (by omega) (by omega) huW (by omega) (by omega)).mono ?_
  rintro e w1 ⟨v1,rfl,hb1,hF1,hO1⟩
  refine⟨v1,rfl,hide ⟨hb1,?_⟩,?_⟩
  ·refine((((Fr.refl w _).alloc _).trans (T:=fun _=>False) hW (fun _ _ f=>f.elim)).trans hF1 (fun x _ e=>?_))
   exact(hu.own e).1
  ·have h1:=Blk.new w #[.int .i64 (n:Int),.iface T x] 162
   have h2:=hF1.blk (hW.blk h1 (fun f=>f)) (fun e=>by have:=(hu.own e).2;omega)
   rw[h2.cell 1]
   rfl
 have hD:∀ W v1,BufV W B v1 (b++wholeB n)→Fr w W (fun g=>B≤g)→Calls Tryz.prog 56 #[v1,.iface T x] W (APost w B (b++byT (.mk 40 (n:Int) noB [] [d]))):=by
  intro W v1 hb1 hF1
  have hz:=hF1.size
  refine(ih d hm W P B _ v1 _ (hv.fr hF1 hkeep) hP (by omega) hb1 (by rw[ByteArray.size_append];omega)).mono ?_
  rintro e w2 ⟨v2,rfl,hb2,hF2⟩
  refine⟨v2,rfl,?_,hF1.trans hF2 (fun _ _ f=>f)⟩
  rw[hby,← ByteArray.append_assoc]
  exact hb2
 replace hK:=hide hK
 replace hD:=hide hD
 have a0:=dTruth_no 162 (by decide)
 have a1:=dNumber_no 162 (by decide)
 have a2:=dText_no 162 (by decide)
 have a3:=dList_no 162 (by decide)
 have a4:=dMap_no 162 (by decide)
 have a5:=dBranch_yes
 clear hv ih hm hkeep hP hu hby
 go_enter Tryz.func56,Tryz.ntmps56
 go_wp2_with fail
 go_region_with (first
  |(go_at_call 85;refine(hK.out _ (by first|exact Fr.refl _ _|exact(Fr.refl _ _).drew|exact(Fr.refl _ _).drew.drew)).mono ?_;rintro e w1 ⟨v1,rfl,hb1,c1⟩)
  |(go_at_call 56;refine(hD.out _ _ (by first|exact hb1.out.1|exact BufV.fr hb1.out.1 (Fr.refl w1 (fun _=>False)).drew (fun _ _ f=>f)|exact BufV.fr hb1.out.1 (Fr.refl w1 (fun _=>False)).drew.drew (fun _ _ f=>f)) (by first|exact hb1.out.2|exact hb1.out.2.drew|exact hb1.out.2.drew.drew)).mono ?_;rintro e w2 h2;replace h2:=hide h2;obtain⟨v2,rfl,_⟩:=h2.out))
 all_goals (try go_wp2_with fail)
 all_goals (try go_ret)
 all_goals (rw[hPOST.out];exact h2.out)
open Go.RowKit
set_option maxHeartbeats 8000000 in
set_option maxRecDepth 100000 in
theorem appMap {m:Nat}(ih:WrOK m){ks:List ByteArray}{ds:List DT}{la:Option Addr}{lc:Nat}{Y:Nat→Value}{w:World}{P:Nat→Prop}{B:Nat}{u:Value}{b:ByteArray}(hm:ndTs ds≤m) (hP:∀ g,P g→g<B) (hB:B≤w.heap.size) (hu:BufV w B u b) (hs:b.size+8022*(1+ndTs ds)≤90000000) (hk:∀ k∈ks,k.size≤4000)
 (ho:w.ownsRow 0 160 2 (.slice la ds.length lc) ds.length ((List.range ds.length).flatMap fun i=>[.string (ks.getD i noB),Y i])) (hl:∀ g,(Value.slice la ds.length lc).ownBlock=some g→P g) (hd:∀ i d,ds[i]?=some d→DatV w P d (Y i)) :
 Calls Tryz.prog 88 #[u,.slice la ds.length lc] w (APost w B (b++(wholeB ds.length++byTs true ks ds))):=by
 obtain⟨POST,hPOST⟩:∃ Q,Hid (Q=APost w B (b++(wholeB ds.length++byTs true ks ds))):=⟨_,rfl⟩
 rw[← hPOST.out]
 have hok:okDs ds:=okDs_of (fun i d e=>(hd i d e).ok)
 have hnl:=ndTs_len ds
 have hws:=wholeB_size ds.length
 have hC0:=hide (appNum (n:=(ds.length:Int)) (by omega) (by omega) hu hB (by omega))
 obtain⟨b1,hb1⟩:∃ b1,b++wholeB ds.length=b1:=⟨_,rfl⟩
 rw[hb1] at hC0
 have hb1s:b1.size≤b.size+11:=by rw[← hb1,ByteArray.size_append];omega
 have hbx:b++(wholeB ds.length++byTs true ks ds)=b1++byTs true ks ds:=by rw[← hb1,ByteArray.append_assoc]
 rw[hbx] at hPOST
 have hown:=hide (fun g e=>(BufV.own hu (g:=g) e).1)
 have start:Hid (∀ (v1:Value) (W:World),BufV W B v1 b1→Fr w W (fun g=>u.ownBlock=some g)→∃ q:Nat,Value.int .i64 0=.int .i64 (q:Int)∧q≤ds.length∧ds.length+1-q≤ds.length+1∧BufV W B v1 (b1++byTs true ks (ds.take q))∧Fr w W (fun g=>B≤g)):=hide fun v1 W h1 h2=>⟨0,rfl,Nat.zero_le _,by omega,by rw[List.take_zero];simp only[byTs];rw[app_noB];exact h1,h2.mono (fun g _ e=>hown.out g e)⟩
 clear hb1 hbx
 replace ho:=hide ho
 replace hd:=hide hd
 replace hl:=hide hl
 replace hP:=hide hP
 replace hok:=hide hok
 replace hu:=hide hu
 replace hk:=hide hk
 go_enter Tryz.func88,Tryz.ntmps88
 go_wp2_with (go_at_call 85;refine hC0.out.mono ?_;rintro e w1 ⟨v1,rfl,hv1,hF1,hO1⟩;replace hv1:=hide hv1;replace hF1:=hide hF1;replace hO1:=hide hO1)
 go_loopg [0,6,13] (ds.length+1) (fun m v0 v6 v W=>∃ q:Nat,v=.int .i64 (q:Int)∧q≤ds.length∧ds.length+1-q≤m∧BufV W B v0 (b1++byTs true ks (ds.take q))∧Fr w W (fun g=>B≤g))
 case atStart=>exact start.out _ _ hv1.out hF1.out
 case round=>
  clear start hC0 hF1 hO1 hv1
  obtain⟨q,rfl,hq,hmq,hBu,hFw⟩:=hrel
  by_cases hlt:q<ds.length
  ·have hlt':(q:Int)<(ds.length:Int):=by omega
   have hdq:ds[q]?=some ds[q]:=List.getElem?_eq_getElem hlt
   generalize ds[q]=d at hdq
   obtain⟨t1,t2⟩:=ndTs_take hdq
   have hsz:=byTs_size true ks (ds.take q) hk.out (okDs_take hok.out q)
   obtain⟨K,hK0⟩:∃ K,ks.getD q noB=K:=⟨_,rfl⟩
   have hst:byTs true ks (ds.take (q+1))=byTs true ks (ds.take q)++((wholeB K.size++K)++byT d):=by
    rw[byTs_take true ds ks q d hdq,hK0]
    rfl
   have hK4:K.size≤4000:=by
    rw[← hK0,List.getD_eq_getElem?_getD]
    cases hkk:ks[q]? with
    | none=>exact Nat.zero_le _
    | some y=>exact hk.out y (List.mem_of_getElem? hkk)
   obtain⟨g,cap,hgc⟩:=own_form ho.out (by omega)
   cases hgc
   have hv:=hd.out q d hdq
   obtain⟨T,x,hx⟩:=hv.iface
   rw[hx] at hv
   have hkeep:∀ g,P g→¬ B≤g:=fun g h=>by have:=hP.out g h;omega
   obtain⟨m0,m1⟩:=map_item (K:=fun i=>ks.getD i noB) (ownsRow_fr ho.out hFw (fun g e=>hkeep g (hl.out g e))) hlt
   rw[hx] at m1
   simp only[hK0] at m0
   have hzr:=hFw.size
   have hT:∀ W,Fr (wr.alloc (.cells #[.string K,.iface T x] 160)) W (fun _=>False)→Calls Tryz.prog 86 #[u0,.string K] W (fun e w'=>∃ v1,e=.returned v1∧Hid (BufV w' B v1 ((b1++byTs true ks (ds.take q))++(wholeB K.size++K))∧Fr w w' (fun g=>B≤g))∧w'.cell? ⟨wr.heap.size,1,none⟩=some (.iface T x)):=by
    intro W hW
    have hz:=hW.size
    simp at hz
    have huW:BufV W B u0 (b1++byTs true ks (ds.take q)):=(BufV.fr (BufV.fr hBu ((Fr.refl wr (fun _=>False)).alloc _) (fun _ _ f=>f)) hW (fun _ _ f=>f))
    refine(appText hK4 huW (by omega) (by rw[ByteArray.size_append];omega)).mono ?_
    rintro e w1 ⟨v1,rfl,hb1,hF1⟩
    refine⟨v1,rfl,hide ⟨hb1,?_⟩,?_⟩
    ·refine hFw.trans ((((Fr.refl wr _).alloc _).trans (T:=fun _=>False) hW (fun _ _ f=>f.elim)).trans hF1 (fun x _ e=>?_)) (fun _ _ f=>f)
     exact(hBu.own e).1
    ·have h1:=Blk.new wr #[.string K,.iface T x] 160
     have h2:=hF1.blk (hW.blk h1 (fun f=>f)) (fun e=>by have:=(hBu.own e).2;omega)
     rw[h2.cell 1]
     rfl
   have hD:∀ W v1,BufV W B v1 ((b1++byTs true ks (ds.take q))++(wholeB K.size++K))→Fr w W (fun g=>B≤g)→Calls Tryz.prog 56 #[v1,.iface T x] W (APost w B (b1++byTs true ks (ds.take (q+1)))):=by
    intro W v1 hb1 hF1
    have hz:=hF1.size
    have hw2:=wholeB_size K.size
    refine(ih d (by omega) W P B _ v1 _ (hv.fr hF1 hkeep) hP.out (by omega) hb1 (by simp only[ByteArray.size_append];omega)).mono ?_
    rintro e w2 ⟨v2,rfl,hb2,hF2⟩
    refine⟨v2,rfl,?_,hF1.trans hF2 (fun _ _ f=>f)⟩
    rw[hst]
    simp only[ByteArray.append_assoc] at hb2⊢
    exact hb2
   have hq5:q≤90000000:=by omega
   clear hsz t1 t2 hst hkeep
   replace hT:=hide hT
   replace hD:=hide hD
   replace hFw:=hide hFw
   replace hdq:=hide hdq
   replace hv:=hide hv
   replace hBu:=hide hBu
   clear hx
   go_wp2_with fail
   go_region_with (first
    |(go_at_call 86;refine(hT.out _ (by first|exact Fr.refl _ _|exact(Fr.refl _ _).drew|exact(Fr.refl _ _).drew.drew)).mono ?_;rintro e w1 ⟨v1,rfl,hb1,c1⟩)
    |(go_at_call 56;refine(hD.out _ _ (by first|exact hb1.out.1|exact BufV.fr hb1.out.1 (Fr.refl w1 (fun _=>False)).drew (fun _ _ f=>f)|exact BufV.fr hb1.out.1 (Fr.refl w1 (fun _=>False)).drew.drew (fun _ _ f=>f)) (by first|exact hb1.out.2|exact hb1.out.2.drew|exact hb1.out.2.drew.drew)).mono ?_;rintro e w2 ⟨v2,rfl,hb2,hf2⟩;replace hb2:=hide hb2;replace hf2:=hide hf2))
   all_goals
    go_wp2_with fail
    go_roundg (ds.length+1-(q+1))
    case measure=>omega
    case rel=>exact⟨q+1,by simp,hlt,Nat.le_refl _,by first|exact hb2.out|exact BufV.fr hb2.out (Fr.refl w2 (fun _=>False)).drew (fun _ _ f=>f),by first|exact hf2.out|exact hf2.out.drew⟩
  ·have hlt':¬ ((q:Int)<(ds.length:Int)):=by omega
   rw[List.take_of_length_le (by omega)] at hBu
   replace hFw:=hide hFw
   replace hBu:=hide hBu
   go_wp2_with fail
   try go_ret
   rw[hPOST.out]
   exact⟨_,rfl,hBu.out,hFw.out⟩
open Go.RowKit
theorem TxPost.all {w w':World}{B:Nat}{u:Value}{b0 b:ByteArray}{e:Ending}(hu:BufV w B u b0) (h:TxPost w B u b e w'):APost w B b e w':=by
 obtain⟨v,rfl,h1,h2⟩:=h
 exact⟨v,rfl,h1,h2.mono (fun g _ e=>(hu.own e).1)⟩
theorem NmPost.all {w w':World}{B:Nat}{u:Value}{b0 b:ByteArray}{e:Ending}(hu:BufV w B u b0) (h:NmPost w B u b e w'):APost w B b e w':=by
 obtain⟨v,rfl,h1,h2,_⟩:=h
 exact⟨v,rfl,h1,h2.mono (fun g _ e=>(hu.own e).1)⟩
set_option maxHeartbeats 8000000 in
set_option maxRecDepth 100000 in
theorem wr_nothing {w:World}{B:Nat}{u:Value}{b:ByteArray}(_hB:B≤w.heap.size) (hu:BufV w B u b) (_hs:b.size+8022≤90000000) :
 Calls Tryz.prog 56 #[u,.iface 188 (.agg #[])] w (APost w B (b++byT (.mk 110 0 noB [] []))):=by
 obtain⟨POST,hPOST⟩:∃ Q,Hid (Q=APost w B (b++byT (.mk 110 0 noB [] []))):=⟨_,rfl⟩
 rw[← hPOST.out]
 have hby:byT (.mk 110 0 noB [] [])=noB:=by unfold byT;rw[if_neg (by decide),if_neg (by decide),if_neg (by decide),if_neg (by decide),if_neg (by decide),if_neg (by decide),noB_app];simp only[byTs]
 have a0:=dTruth_no 188 (by decide)
 have a1:=dNumber_no 188 (by decide)
 have a2:=dText_no 188 (by decide)
 have a3:=dList_no 188 (by decide)
 have a4:=dMap_no 188 (by decide)
 have a5:=dBranch_no 188 (by decide)
 have a6:=dRecord_no 188 (by decide)
 have a7:=dSymbol_no 188 (by decide)
 have a8:=dBytes_no 188 (by decide)
 replace hu:=hide hu
 go_enter Tryz.func56,Tryz.ntmps56
 go_wp2_with fail
 try go_ret
 rw[hPOST.out,hby,app_noB]
 exact⟨_,rfl,hu.out,Fr.refl _ _⟩
set_option maxHeartbeats 8000000 in
set_option maxRecDepth 100000 in
theorem wr_truth {w:World}{B:Nat}{u:Value}{b:ByteArray}{t:Bool}(hB:B≤w.heap.size) (hu:BufV w B u b) (hs:b.size+8022≤90000000) :
 Calls Tryz.prog 56 #[u,.iface 164 (.bool t)] w (APost w B (b++byT (.mk 116 (if t=true then 1 else 0) noB [] []))):=by
 obtain⟨POST,hPOST⟩:∃ Q,Hid (Q=APost w B (b++byT (.mk 116 (if t=true then 1 else 0) noB [] []))):=⟨_,rfl⟩
 rw[← hPOST.out]
 have hby:byT (.mk 116 (if t=true then 1 else 0) noB [] [])=bts [if t=true then 1 else 0]:=by unfold byT;rw[if_pos rfl];cases t <;> rfl
 have a0:=dTruth_yes
 have hC:=hide (appTruth (t:=t) hu hB (by omega))
 replace hu:=hide hu
 go_enter Tryz.func56,Tryz.ntmps56
 go_wp2_with (go_at_call 84;refine hC.out.mono ?_;rintro e w1 h1;replace h1:=hide h1;obtain⟨v1,rfl,_⟩:=h1.out)
 try go_ret
 rw[hPOST.out,hby]
 exact h1.out.all hu.out
set_option maxHeartbeats 8000000 in
set_option maxRecDepth 100000 in
theorem wr_num {w:World}{B:Nat}{u:Value}{b:ByteArray}{c:Nat}{n:Int}(hc:c=105∨c=108) (h0 : -9223372036854775808≤n) (h1:n≤9223372036854775807) (hB:B≤w.heap.size) (hu:BufV w B u b) (hs:b.size+8022≤90000000) :
 Calls Tryz.prog 56 #[u,.iface 166 (.int .i64 n)] w (APost w B (b++byT (.mk c n noB [] []))):=by
 obtain⟨POST,hPOST⟩:∃ Q,Hid (Q=APost w B (b++byT (.mk c n noB [] []))):=⟨_,rfl⟩
 rw[← hPOST.out]
 have hby:byT (.mk c n noB [] [])=wholeB n:=by unfold byT;rw[if_neg (by omega),if_pos (by omega)]
 have a0:=dTruth_no 166 (by decide)
 have a1:=dNumber_yes
 have hC:=hide (appNum h0 h1 hu hB (by omega))
 replace hu:=hide hu
 go_enter Tryz.func56,Tryz.ntmps56
 go_wp2_with (go_at_call 85;refine hC.out.mono ?_;rintro e w1 h1;replace h1:=hide h1;obtain⟨v1,rfl,_⟩:=h1.out)
 try go_ret
 rw[hPOST.out,hby]
 exact h1.out.all hu.out
set_option maxHeartbeats 8000000 in
set_option maxRecDepth 100000 in
theorem wr_text {w:World}{B:Nat}{u:Value}{b:ByteArray}{tx:ByteArray}(ht:tx.size≤4000) (hB:B≤w.heap.size) (hu:BufV w B u b) (hs:b.size+8022≤90000000) :
 Calls Tryz.prog 56 #[u,.iface 168 (.string tx)] w (APost w B (b++byT (.mk 115 0 tx [] []))):=by
 obtain⟨POST,hPOST⟩:∃ Q,Hid (Q=APost w B (b++byT (.mk 115 0 tx [] []))):=⟨_,rfl⟩
 rw[← hPOST.out]
 have hby:byT (.mk 115 0 tx [] [])=wholeB tx.size++tx:=by unfold byT;rw[if_neg (by decide),if_neg (by decide),if_pos rfl]
 have a0:=dTruth_no 168 (by decide)
 have a1:=dNumber_no 168 (by decide)
 have a2:=dText_yes
 have hC:=hide (appText ht hu hB (by omega))
 replace hu:=hide hu
 go_enter Tryz.func56,Tryz.ntmps56
 go_wp2_with (go_at_call 86;refine hC.out.mono ?_;rintro e w1 h1;replace h1:=hide h1;obtain⟨v1,rfl,_⟩:=h1.out)
 try go_ret
 rw[hPOST.out,hby]
 exact h1.out.all hu.out
set_option maxHeartbeats 8000000 in
set_option maxRecDepth 100000 in
theorem wr_sym {w:World}{B:Nat}{u:Value}{b:ByteArray}{n l:Nat}(hn:n≤4000) (hB:B≤w.heap.size) (hu:BufV w B u b) (hs:b.size+8022≤90000000) :
 Calls Tryz.prog 56 #[u,.iface 173 (.agg #[.int .u8 (l:Int),.int .i64 (n:Int)])] w (APost w B (b++byT (.mk 101 (n:Int) noB [] []))):=by
 obtain⟨POST,hPOST⟩:∃ Q,Hid (Q=APost w B (b++byT (.mk 101 (n:Int) noB [] []))):=⟨_,rfl⟩
 rw[← hPOST.out]
 have hby:byT (.mk 101 (n:Int) noB [] [])=wholeB n:=by unfold byT;rw[if_neg (by decide),if_pos (by decide)]
 have a0:=dTruth_no 173 (by decide)
 have a1:=dNumber_no 173 (by decide)
 have a2:=dText_no 173 (by decide)
 have a3:=dList_no 173 (by decide)
 have a4:=dMap_no 173 (by decide)
 have a5:=dBranch_no 173 (by decide)
 have a6:=dRecord_no 173 (by decide)
 have a7:=dSymbol_yes
 have A:Fr w (w.alloc (.cells #[.int .u8 (l:Int),.int .i64 (n:Int)] 173)) (fun _=>False):=(Fr.refl w _).alloc _
 have hu2:BufV (w.alloc (.cells #[.int .u8 (l:Int),.int .i64 (n:Int)] 173)) B u b:=hu.fr A (fun _ _ f=>f)
 have hC:=hide (appNum (n:=(n:Int)) (by omega) (by omega) hu2 (by have:=A.size;omega) (by omega))
 replace hu:=hide hu
 replace hu2:=hide hu2
 replace A:=hide A
 go_enter Tryz.func56,Tryz.ntmps56
 go_wp2_with (go_at_call 85;refine hC.out.mono ?_;rintro e w1 h1;replace h1:=hide h1;obtain⟨v1,rfl,_⟩:=h1.out)
 try go_ret
 rw[hPOST.out,hby]
 obtain⟨v2,e2,h2,h3⟩:=h1.out.all hu2.out
 exact⟨v2,e2,h2,(A.out.mono (fun _ _ f=>f.elim)).trans h3 (fun _ _ f=>f)⟩
theorem u_Bytes:Tryz.prog.underlying 174=some .string:=by kernel_rfl
set_option maxHeartbeats 8000000 in
set_option maxRecDepth 100000 in
theorem wr_bytes {w:World}{B:Nat}{u:Value}{b:ByteArray}{tx:ByteArray}(ht:tx.size≤4000) (hB:B≤w.heap.size) (hu:BufV w B u b) (hs:b.size+8022≤90000000) :
 Calls Tryz.prog 56 #[u,.iface 174 (.string tx)] w (APost w B (b++byT (.mk 102 0 tx [] []))):=by
 obtain⟨POST,hPOST⟩:∃ Q,Hid (Q=APost w B (b++byT (.mk 102 0 tx [] []))):=⟨_,rfl⟩
 rw[← hPOST.out]
 have hby:byT (.mk 102 0 tx [] [])=tx:=by unfold byT;rw[if_neg (by decide),if_neg (by decide),if_neg (by decide),if_pos rfl]
 have a0:=dTruth_no 174 (by decide)
 have a1:=dNumber_no 174 (by decide)
 have a2:=dText_no 174 (by decide)
 have a3:=dList_no 174 (by decide)
 have a4:=dMap_no 174 (by decide)
 have a5:=dBranch_no 174 (by decide)
 have a6:=dRecord_no 174 (by decide)
 have a7:=dSymbol_no 174 (by decide)
 have a8:=dBytes_yes
 obtain⟨ti,hi1,hi2,hi3,hi4⟩:=info_parts i_u8
 replace hu:=hide hu
 go_enter Tryz.func56,Tryz.ntmps56
 go_wp2_with (at_builtin;go_must (refine Lib.wpList_append_own_string _ rfl _ _ 99 174 rfl B 5 ti u_u8s u_Bytes hi1 hi2 hi3 hi4 _ b.size (Lib.strCells b) rfl ?hown tx rfl ?b1 ?b2 ?b3 ?_)
              case hown=>exact hu.out
              case b1=>unfold maxLen;omega
              case b2=>omega
              case b3=>omega
              intro v5 w5 ho5 hg5 hn5)
 try go_ret
 rw[hPOST.out,hby]
 refine⟨v5,rfl,?_,((Fr.refl w _).grown hg5 (fun k hk _=>hk)).mono (fun g _ e=>(hu.out.own e).1)⟩
 unfold BufV
 rw[strCells_append,ByteArray.size_append]
 exact ho5
open Go.RowKit
set_option maxHeartbeats 8000000 in
set_option maxRecDepth 100000 in
theorem wr_map {m:Nat}(ih:WrOK m){ks:List ByteArray}{ds:List DT}{la:Option Addr}{lc:Nat}{Y:Nat→Value}{w:World}{P:Nat→Prop}{B:Nat}{u:Value}{b:ByteArray}(hm:ndTs ds≤m) (hP:∀ g,P g→g<B) (hB:B≤w.heap.size) (hu:BufV w B u b) (hs:b.size+8022*(1+ndTs ds)≤90000000) (hk:∀ k∈ks,k.size≤4000)
 (ho:w.ownsRow 0 160 2 (.slice la ds.length lc) ds.length ((List.range ds.length).flatMap fun i=>[.string (ks.getD i noB),Y i])) (hl:∀ g,(Value.slice la ds.length lc).ownBlock=some g→P g) (hd:∀ i d,ds[i]?=some d→DatV w P d (Y i)) :
 Calls Tryz.prog 56 #[u,.iface 158 (.slice la ds.length lc)] w (APost w B (b++byT (.mk 123 0 noB ks ds))):=by
 obtain⟨POST,hPOST⟩:∃ Q,Hid (Q=APost w B (b++byT (.mk 123 0 noB ks ds))):=⟨_,rfl⟩
 rw[← hPOST.out]
 have hby:byT (.mk 123 0 noB ks ds)=wholeB ds.length++byTs true ks ds:=by
  conv=>lhs;unfold byT
  rw[if_neg (by decide),if_neg (by decide),if_neg (by decide),if_neg (by decide),if_neg (by decide),if_pos (by decide)]
  try rfl
 have hnl:=ndTs_len ds
 have a0:=dTruth_no 158 (by decide)
 have a1:=dNumber_no 158 (by decide)
 have a2:=dText_no 158 (by decide)
 have a3:=dList_no 158 (by decide)
 have a4:=dMap_yes
 have hC:=hide (appMap ih hm hP hB hu hs hk ho hl hd)
 clear ih hP hu ho hl hd hk
 go_enter Tryz.func56,Tryz.ntmps56
 go_wp2_with (go_at_call 88;refine hC.out.mono ?_;rintro e w1 h1;replace h1:=hide h1;obtain⟨v1,rfl,_⟩:=h1.out)
 try go_ret
 rw[hPOST.out,hby]
 exact h1.out
set_option maxHeartbeats 8000000 in
set_option maxRecDepth 100000 in
theorem wr_recd {m:Nat}(ih:WrOK m){ds:List DT}{la:Option Addr}{lc:Nat}{Y:Nat→Value}{w:World}{P:Nat→Prop}{B:Nat}{u:Value}{b:ByteArray}(hm:ndTs ds≤m) (hP:∀ g,P g→g<B) (hB:B≤w.heap.size) (hu:BufV w B u b) (hs:b.size+8022*(1+ndTs ds)≤90000000)
 (ho:w.ownsRow 0 89 1 (.slice la ds.length lc) ds.length ((List.range ds.length).flatMap fun i=>[Y i])) (hl:∀ g,(Value.slice la ds.length lc).ownBlock=some g→P g) (hd:∀ i d,ds[i]?=some d→DatV w P d (Y i)) :
 Calls Tryz.prog 56 #[u,.iface 163 (.slice la ds.length lc)] w (APost w B (b++byT (.mk 114 0 noB [] ds))):=by
 obtain⟨POST,hPOST⟩:∃ Q,Hid (Q=APost w B (b++byT (.mk 114 0 noB [] ds))):=⟨_,rfl⟩
 rw[← hPOST.out]
 have hby:byT (.mk 114 0 noB [] ds)=byTs false [] ds:=by
  conv=>lhs;unfold byT
  rw[if_neg (by decide),if_neg (by decide),if_neg (by decide),if_neg (by decide),if_neg (by decide),if_neg (by decide),noB_app]
  try rfl
 have hnl:=ndTs_len ds
 have a0:=dTruth_no 163 (by decide)
 have a1:=dNumber_no 163 (by decide)
 have a2:=dText_no 163 (by decide)
 have a3:=dList_no 163 (by decide)
 have a4:=dMap_no 163 (by decide)
 have a5:=dBranch_no 163 (by decide)
 have a6:=dRecord_yes
 have hC:=hide (appAll ih hm hP hB hu (by omega) ho hl hd)
 clear ih hP hu ho hl hd
 go_enter Tryz.func56,Tryz.ntmps56
 go_wp2_with (go_at_call 87;refine hC.out.mono ?_;rintro e w1 h1;replace h1:=hide h1;obtain⟨v1,rfl,_⟩:=h1.out)
 try go_ret
 rw[hPOST.out,hby]
 exact h1.out
set_option maxHeartbeats 8000000 in
set_option maxRecDepth 100000 in
theorem wr_list {m:Nat}(ih:WrOK m){ds:List DT}{la:Option Addr}{lc:Nat}{Y:Nat→Value}{w:World}{P:Nat→Prop}{B:Nat}{u:Value}{b:ByteArray}(hm:ndTs ds≤m) (hP:∀ g,P g→g<B) (hB:B≤w.heap.size) (hu:BufV w B u b) (hs:b.size+8022*(1+ndTs ds)≤90000000)
 (ho:w.ownsRow 0 89 1 (.slice la ds.length lc) ds.length ((List.range ds.length).flatMap fun i=>[Y i])) (hl:∀ g,(Value.slice la ds.length lc).ownBlock=some g→P g) (hd:∀ i d,ds[i]?=some d→DatV w P d (Y i)) :
 Calls Tryz.prog 56 #[u,.iface 156 (.slice la ds.length lc)] w (APost w B (b++byT (.mk 91 0 noB [] ds))):=by
 obtain⟨POST,hPOST⟩:∃ Q,Hid (Q=APost w B (b++byT (.mk 91 0 noB [] ds))):=⟨_,rfl⟩
 rw[← hPOST.out]
 have hby:byT (.mk 91 0 noB [] ds)=wholeB ds.length++byTs false [] ds:=by
  conv=>lhs;unfold byT
  rw[if_neg (by decide),if_neg (by decide),if_neg (by decide),if_neg (by decide),if_neg (by decide),if_pos (by decide)]
  try rfl
 have hnl:=ndTs_len ds
 have a0:=dTruth_no 156 (by decide)
 have a1:=dNumber_no 156 (by decide)
 have a2:=dText_no 156 (by decide)
 have a3:=dList_yes
 have hws:=wholeB_size ds.length
 have hC:=hide (appNum (n:=(ds.length:Int)) (by omega) (by omega) hu hB (by omega))
 have hD:∀ W v1,BufV W B v1 (b++wholeB ds.length)→Fr w W (fun g=>u.ownBlock=some g)→Calls Tryz.prog 87 #[v1,.slice la ds.length lc] W (APost w B (b++byT (.mk 91 0 noB [] ds))):=by
  intro W v1 h1 hF
  have hF2:=hF.mono (T:=fun g=>B≤g) (fun g _ e=>(hu.own e).1)
  have hkeep:∀ g,P g→¬ B≤g:=fun g h=>by have:=hP g h;omega
  refine(appAll ih hm hP (by have:=hF.size;omega) h1 (by rw[ByteArray.size_append];omega) (ownsRow_fr ho hF2 (fun g e=>hkeep g (hl g e))) hl (fun i d e=>(hd i d e).fr hF2 hkeep)).mono ?_
  rintro e w2 ⟨v2,rfl,h3,h4⟩
  refine⟨v2,rfl,?_,hF2.trans h4 (fun _ _ f=>f)⟩
  rw[hby,← ByteArray.append_assoc]
  exact h3
 replace hD:=hide hD
 clear ih hP hu ho hl hd
 go_enter Tryz.func56,Tryz.ntmps56
 go_wp2_with (first
  |(go_at_call 85;refine hC.out.mono ?_;rintro e w1 ⟨v1,rfl,h1,hF1,hO1⟩;replace h1:=hide h1;replace hF1:=hide hF1;replace hO1:=hide hO1)
  |(go_at_call 87;refine(hD.out _ _ h1.out hF1.out).mono ?_;rintro e w2 h2;replace h2:=hide h2;obtain⟨v2,rfl,_⟩:=h2.out))
 try go_ret
 rw[hPOST.out]
 exact h2.out
theorem wr_any:∀ m,WrOK m:=by
 intro m
 induction m with
 | zero=>intro d h;obtain⟨_,_,_,_,_⟩:=d;unfold ndT at h;omega
 | succ m ih=>
  intro d hm w P B v u b hv hP hB hu hs
  cases hv with
  | flat h=>
   have hge:1≤ndT d:=by obtain⟨_,_,_,_,_⟩:=d;unfold ndT;omega
   cases h with
   | nothing=>exact wr_nothing hB hu (by omega)
   | truth b=>exact wr_truth hB hu (by omega)
   | num c n hc h0 h1=>exact wr_num hc h0 h1 hB hu (by omega)
   | text tx h=>exact wr_text h hB hu (by omega)
   | bytes tx h=>exact wr_bytes h hB hu (by omega)
   | sym n l h=>exact wr_sym h hB hu (by omega)
  | branch n h hd=>
   unfold ndT at hm hs
   simp only[ndTs,Nat.add_zero] at hm hs
   exact wr_branch ih h (by omega) hd hP hB hu hs
  | row Y hc ho hl hd=>
   unfold ndT at hm hs
   obtain⟨la,lc,rfl⟩:=own_sl ho
   rcases hc with⟨rfl,rfl⟩|⟨rfl,rfl⟩
   ·exact wr_list ih (by omega) hP hB hu hs ho hl hd
   ·exact wr_recd ih (by omega) hP hB hu hs ho hl hd
  | map Y hl hk ho hl2 hd=>
   unfold ndT at hm hs
   obtain⟨la,lc,rfl⟩:=own_sl ho
   exact wr_map ih (by omega) hP hB hu hs hk ho hl2 hd
set_option maxRecDepth 100000 in
theorem conv_buf {w:World}{B:Nat}{v:Value}{b:ByteArray}(h:BufV w B v b):(convert 99 9 v).run Tryz.prog w=.ok (.string b) w:=by
 obtain⟨xs,hxs⟩:∃ xs:List Int,xs=b.data.toList.map fun x=>((x.toNat:Nat):Int):=⟨_,rfl⟩
 have hb:strOfNums xs=b:=by
  apply ByteArray.ext
  unfold strOfNums
  subst hxs
  apply Array.toList_inj.1
  rw[List.map_map]
  show b.data.toList.map _=_
  conv=>rhs;rw[← List.map_id b.data.toList]
  apply List.map_congr_left
  intro x _
  show UInt8.ofNat ((x.toNat:Int).toNat)=x
  rw[Int.toNat_natCast,UInt8.ofNat_toNat]
 have hl:xs.length=b.size:=by subst hxs;rw[List.length_map];rfl
 have h0:=h
 rcases h.2 with⟨rfl,e⟩|⟨g,cap,cur,rfl,_⟩
 ·have:=run_convert_bytes_nil (P:=Tryz.prog) w 99 5 Tryz.underlying99 Tryz.underlying5 0 0 9 Tryz.underlying9
  have hz:b.data.size=0:=e
  have he:b=ByteArray.empty:=ByteArray.ext (Array.eq_empty_of_size_eq_zero hz)
  rw[he]
  exact this
 ·have:=run_convert_bytes_arg (P:=Tryz.prog) w 99 5 Tryz.underlying99 Tryz.underlying5 g 0 b.size cap xs hl (fun i hi=>by
   rw[Nat.zero_add]
   refine own_cell h0 rfl ?_
   unfold Lib.strCells
   subst hxs
   rw[List.getD_eq_getElem?_getD,List.getElem?_map,List.getElem?_map,List.getElem?_eq_getElem (show i<b.data.toList.length from hi)]
   rfl) 9 Tryz.underlying9
  rw[hb] at this
  exact this
set_option maxHeartbeats 8000000 in
set_option maxRecDepth 100000 in
theorem write_any {d:DT}{w:World}{P:Nat→Prop}{v:Value}(hv:DatV w P d v) (hs:8022*ndT d≤90000000) :
 Calls Tryz.prog 31 #[v] w fun e w'=>e=.returned (.string (byT d))∧Fr w w' (fun _=>False):=by
 obtain⟨POST,hPOST⟩:∃ Q,Hid (Q=fun (e:Ending) (w':World)=>e=.returned (.string (byT d))∧Fr w w' (fun _=>False)):=⟨_,rfl⟩
 rw[← hPOST.out]
 obtain⟨T,x,rfl⟩:=hv.iface
 have hC:=hide (wr_any (ndT d) d (Nat.le_refl _) w (fun g=>P g∧g<w.heap.size) w.heap.size _ (.slice none 0 0) noB (hv.mono (fun g h1 h2=>⟨h2,h1⟩)) (fun g h=>h.2) (Nat.le_refl _) (World.ownsRow_nil _ _ _ _) (by show 0+_≤_;omega))
 rw[noB_app] at hC
 go_enter Tryz.func31,Tryz.ntmps31
 go_wp2_with (go_at_call 56;refine hC.out.mono ?_;rintro e w1 ⟨v1,rfl,h1,hF1⟩;have hcv:=conv_buf h1;replace hF1:=hide hF1;replace h1:=hide h1)
 try go_ret
 rw[hPOST.out]
 exact⟨rfl,hF1.out.mono (fun g hg e=>by omega)⟩
end Go.Proofs.YtiifagiebikmdaaGreatDoor
