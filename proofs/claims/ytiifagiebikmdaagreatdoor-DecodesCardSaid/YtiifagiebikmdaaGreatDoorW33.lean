import Derived.Test.YtiifagiebikmdaaGreatDoorW13
import Derived.Lib.AppendStr
import Derived.Deep.RegionWith
import Derived.Test.YtiifagiebikmdaaGreatDoorW14
import Derived.Test.YtiifagiebikmdaaGreatDoorW32
import Derived.Test.YtiifagiebikmdaaGreatDoorA00
set_option maxHeartbeats 16000000
set_option maxRecDepth 100000
set_option linter.unusedSimpArgs false
open Go.Proofs.Tryz
namespace Go.Proofs.YtiifagiebikmdaaGreatDoor
open Go.RowKit
variable {b:BA}{w':World}
def BufV (w:World) (B:Nat) (v:Value) (b:BA):Prop:=w.ownsRow B 5 1 v b.size (Lib.strCells b)
theorem zqc:Tryz.prog.underlying 99=some (.slice 5):=by kernel_rfl
theorem i_u8:(Tryz.prog.info? 5).map (λ i=>(i.zero,i.size,i.bytes))=some (some (.int .u8 0),1,1):=by kernel_rfl
theorem y7_ (a b:BA):Lib.strCells (a++b)=Lib.strCells a++Lib.strCells b:=by
 unfold Lib.strCells
 simp
theorem jy_ {c:Nat}(h:c<256):Lib.strCells (bts [c])=[.int .u8 (c:Int)]:=by
 unfold Lib.strCells bts
 simp
 omega
def Own (w:World) (v v':Value):Prop:=v'.ownBlock=v.ownBlock\/∃ h,v'.ownBlock=some h/\w.heap.size<=h
theorem Own.trans {w W:World}{v c a:Value}(h:Own w v c) (k:a.ownBlock=c.ownBlock\/a.ownBlock=some W.heap.size) (hs:w.heap.size<=W.heap.size):Own w v a:=by
 rcases k with k|k
 ·unfold Own;rw[k];exact h
 ·exact .inr ⟨_,k,hs⟩
theorem Own.fr {w W a:World}{v c:Value}(h:Own w v c) (d:Fr w W (λ g=>v.ownBlock=some g)) (i:Fr W a (λ g=>c.ownBlock=some g)):Fr w a (λ g=>v.ownBlock=some g):=by
 refine d.trans i (λ x k e=>?_)
 rcases h with h|⟨q,h,j⟩
 ·rw[<- h];exact e
 ·rw[h] at e;simp only[ag_] at e;omega
def zs2 (w:World) (B:Nat) (v:Value) (b:BA) (e:Ending) (w':World):Prop:=∃ v',e=.returned v'/\BufV w' B v' b/\Fr w w' (λ g=>v.ownBlock=some g)/\Own w v v'
def zvo (w:World) (B:Nat) (v:Value) (b:BA) (e:Ending) (w':World):Prop:=∃ v',e=.returned v'/\BufV w' B v' b/\Fr w w' (λ g=>v.ownBlock=some g)
def zzr (w:World) (B:Nat) (b:BA) (e:Ending) (w':World):Prop:=∃ v',e=.returned v'/\BufV w' B v' b/\Fr w w' (λ g=>B<=g)
theorem BufV.own {w:World}{B:Nat}{v:Value}(h:BufV w B v b){g:Nat}(e:v.ownBlock=some g):B<=g/\g<w.heap.size:=World.ownsRow.lt h g e
def zx0 (w:World) (B:Nat) (v:Value) (T:BA) (q:Nat) (v0 v5:Value) (W:World):Prop:=
 ∃ (z f:Nat) (acc:BA),v5=.int .u64 (z:Int)/\z<18446744073709551616/\z<128 ^ (f+1)/\f<=q/\T=acc++bts (lebN f z)/\BufV W B v0 acc/\Fr w W (λ g=>v.ownBlock=some g)/\Own w v v0
section
variable {w W w5:World} {B z f:Nat} {T acc:BA} {v v0 v5:Value} {o:Obj} {x:Int}
theorem zx0.more {a:Nat}(l:128<=z) (m:z<18446744073709551616) (i:z<128 ^ (f+1)) (e:f=a+1) (h:T=acc++bts (lebN f z)) (c:Fr w W (λ g=>v.ownBlock=some g)) (d:Own w v v0)
 (ho:w5.ownsRow B 5 1 v5 (acc.size+1) (Lib.strCells acc++[.int .u8 x])) (j:x=((z % 128+128:Nat):Int)) (hg:(W.alloc o).grownBy w5 v0.ownBlock) (hl:v5.ownBlock=v0.ownBlock\/v5.ownBlock=some (W.alloc o).heap.size):zx0 w B v T a v5 (.int .u64 ((z / 128:Nat):Int)) w5:=by
 subst e j;refine⟨z / 128,a,acc++bts [z % 128+128],rfl,by omega,?_,l_,?_,?_,?_,?_⟩
 ·rw[Nat.pow_succ] at i;omega
 ·rw[h,lebN,if_neg (by omega),az_,<- zpr];rfl
 ·unfold BufV;rw[y7_,jy_ (by omega),av_,yh_];exact ho
 ·exact d.fr c (((Fr.refl W _).alloc o).grown hg (λ k hk _=>hk))
 ·exact d.trans hl (by have:=c.size;simp;omega)
theorem zx0.last (i:z<128) (d:T=acc++bts (lebN f z)) (a:Fr w W (λ g=>v.ownBlock=some g)) (c:Own w v v0)
 (ho:w5.ownsRow B 5 1 v5 (acc.size+1) (Lib.strCells acc++[.int .u8 x])) (h:x=(z:Int)) (hg:(W.alloc o).grownBy w5 v0.ownBlock) (hl:v5.ownBlock=v0.ownBlock\/v5.ownBlock=some (W.alloc o).heap.size):zs2 w B v T (.returned v5) w5:=by
 subst h;refine⟨v5,rfl,?_,?_,?_⟩
 ·have e:lebN f z=[z]:=by cases f<;>simp[lebN,i]
  rw[d,e];unfold BufV;rw[y7_,jy_ (by omega),av_,yh_];exact ho
 ·exact c.fr a (((Fr.refl W _).alloc o).grown hg (λ k hk _=>hk))
 ·exact c.trans hl (by have:=a.size;simp;omega)
end
open Go.RowKit
theorem zfp:∀ {ds:List DT},(∀ (i:Nat) (d:DT),ds[i]?=some d->okD d)->okDs ds
 | [],_=>by simp[okDs]
 | d::r,h=>by
  unfold okDs;exact⟨h 0 d rfl,zfp (λ i e he=>h (i+1) e he)⟩
theorem DatV.ok {w:World}{P:Nat->Prop}{d:DT}{v:Value}(h:DatV w P d v):okD d:=by
 induction h with
 | flat h=>
  cases h with
  | nothing=>simp[okD,okDs,kdOK];exact ak_ _
  | truth b=>cases b<;>simp[okD,okDs,kdOK]<;>exact ak_ _
  | num c n hc h0 h1=>simp only[okD,okDs,kdOK];refine⟨⟨h0,h1,by omega⟩,λ e=>by omega,by show(0:Nat)<=_;omega,by simp,λ e=>by omega,trivial⟩
  | text tx h=>simp[okD,okDs,kdOK,h]
  | bytes tx h=>simp[okD,okDs,kdOK,h]
  | sym n l h=>simp only[okD,okDs,kdOK];refine⟨⟨by omega,by omega,by simp⟩,λ e=>by omega,by show(0:Nat)<=_;omega,by simp,λ e=>by omega,trivial⟩
 | branch n h hd ih=>simp only[okD,okDs,kdOK];refine⟨⟨by omega,by omega,by simp⟩,λ e=>by omega,by show(0:Nat)<=_;omega,by simp,λ e=>by omega,ih,trivial⟩
 | row Y hc ho hP hd ih=>simp only[okD,kdOK];refine⟨⟨by omega,by omega,by omega⟩,λ e=>by omega,by show(0:Nat)<=_;omega,by simp,λ e=>by omega,zfp ih⟩
 | map Y hl hk ho hP hd ih=>simp only[okD,kdOK];refine⟨⟨by omega,by omega,by simp⟩,λ e=>by omega,by show(0:Nat)<=_;omega,hk,λ _=>hl,zfp ih⟩
open Go.RowKit
theorem BufV.fr {w:World}{B:Nat}{v:Value}{S:Nat->Prop}(h:BufV w B v b) (c:Fr w w' S) (a:∀ g,v.ownBlock=some g->¬ S g):BufV w' B v b:=za_ h c a
open Go.RowKit
open Go.RowKit
theorem zvo.all {w:World}{B:Nat}{u:Value}{b0:BA}{e:Ending}(hu:BufV w B u b0) (h:zvo w B u b e w'):zzr w B b e w':=by
 obtain⟨v,rfl,h1,a⟩:=h;exact⟨v,rfl,h1,a.mono (λ g _ e=>(hu.own e).1)⟩
theorem zs2.all {w:World}{B:Nat}{u:Value}{b0:BA}{e:Ending}(hu:BufV w B u b0) (h:zs2 w B u b e w'):zzr w B b e w':=by
 obtain⟨v,rfl,h1,a,_⟩:=h;exact⟨v,rfl,h1,a.mono (λ g _ e=>(hu.own e).1)⟩
open Go.RowKit
theorem zuy {w:World}{B:Nat}{v:Value}(h:BufV w B v b):(convert 99 9 v).run prog w=.ok (.string b) w:=by
 obtain⟨xs,a⟩:∃ xs:List Int,xs=b.data.toList.map λ x=>((x.toNat:Nat):Int):=⟨_,rfl⟩
 have hb:strOfNums xs=b:=by
  apply ByteArray.ext
  unfold strOfNums;subst a
  apply Array.toList_inj.1
  rw[List.map_map];show b.data.toList.map _=_
  conv=>rhs;rw[<- List.map_id b.data.toList]
  apply List.map_congr_left
  intro x _;show UInt8.ofNat ((x.toNat:Int).toNat)=x;rw[bm_,UInt8.ofNat_toNat]
 have hl:xs.length=b.size:=by subst a;rw[bf_];rfl
 have h0:=h
 rcases h.2 with⟨rfl,e⟩|⟨g,c,k,rfl,_⟩
 ·have:=run_convert_bytes_nil (P:=prog) w 99 5 underlying99 underlying5 0 0 9 underlying9;have j:b.data.size=0:=e;have he:b=ByteArray.empty:=ByteArray.ext (Array.eq_empty_of_size_eq_zero j);rw[he];exact this
 ·have:=run_convert_bytes_arg (P:=prog) w 99 5 underlying99 underlying5 g 0 b.size c xs hl (λ i d=>by
   rw[br_]
   refine zp_ h0 rfl ?_
   unfold Lib.strCells
   subst a
   rw[bd_,bk_,bk_,an_ (show i<b.data.toList.length from d)]
   rfl) 9 underlying9
  rw[hb] at this;exact this
end Go.Proofs.YtiifagiebikmdaaGreatDoor
