import Derived.Test.YthmjjpkjgjklmaaGreatDoorW24
import Derived.Test.YthmjjpkjgjklmaaGreatDoorW23
import Derived.Test.YthmjjpkjgjklmaaGreatDoorW25
import Derived.Deep.RegionWith
import Derived.Test.YthmjjpkjgjklmaaGreatDoorA00
set_option maxHeartbeats 16000000
set_option maxRecDepth 100000
set_option linter.unusedSimpArgs false
open Go.Proofs.Tryz
namespace Go.Proofs.YthmjjpkjgjklmaaGreatDoor
open Go.RowKit
variable {ds:List DT}{la:Option Addr}{lc n:Nat}{Y:Nat->Value}{o:Oper}{Q:Exit->Act->World->Prop}{tx:BA}{d:DT}
def U8 (w:World) (B g:Nat):Prop:=B<=g/\∃ c fz,w.heap[g]?=some (.cells c 5 fz)
def FrU (B:Nat) (w w':World):Prop:=Fr w w' (U8 w B)
section
variable {a b c w w':World} {B:Nat} {v:Value} {x:BA}
theorem FrU.refl (w:World):FrU B w w:=Fr.refl _ _
theorem FrU.trans (h:FrU B a b) (k:FrU B b c):FrU B a c:=Fr.trans h k (λ x hx ⟨h1,c,fz,h2⟩=>by
 by_cases hS:U8 a B x
 ·exact hS
 ·exact⟨h1,c,fz,by rw[<- h.block x hx hS];exact h2⟩)
theorem FrU.all (h:FrU B w w'):Fr w w' (λ g=>B<=g):=Fr.mono h (λ _ _ e=>e.1)
theorem FrU.of (h:Fr w w' (λ _=>False)):FrU B w w':=Fr.mono h v_
theorem FrU.size (h:FrU B w w'):w.heap.size<=w'.heap.size:=Fr.size h
theorem FrU.drew (h:FrU B w w'):FrU B w w'.drew:=Fr.drew h
theorem BufV.u8 (h:BufV w B v x){g:Nat}(e:v.ownBlock=some g):U8 w B g:=by
 refine⟨(h.own e).1,?_⟩
 rcases h.2 with⟨hn,_⟩|⟨g',cap,cur,hv,hb,hg,_⟩
 ·rw[hn] at e;simp[Value.ownBlock] at e
 ·rw[hv] at e
  simp[Value.ownBlock] at e
  subst e;exact⟨_,_,hg⟩
theorem BufV.frx {S:Nat->Prop}(h:BufV w B v x) (hf:Fr w w' S) (hS:∀ g,v.ownBlock=some g->¬ S g):BufV w' B v x:=zb_ h hf hS
theorem BufV.still (h:BufV w B v x) (hs:ze_ w w'):BufV w' B v x:=h.frx ((Fr.refl w (λ _=>False)).still hs) u_
theorem FrU.blk (h:FrU B w w'){k:Nat}{cs:List Value}{t:TypeId}(hb:Blk w k cs t) (ht:t≠5):Blk w' k cs t:=Fr.blk h hb (λ ⟨_,c,fz,e⟩=>by
 unfold Blk at hb
 rw[hb] at e
 simp at e
 exact ht e.2.1)
end
def xi_ (w:World) (B:Nat) (b:BA) (e:Ending) (w':World):Prop:=∃ v',e=.returned v'/\BufV w' B v' b/\FrU B w w'
theorem xi_.pre {w0 w w':World}{B:Nat}{b:BA}{e:Ending}(h:xi_ w B b e w') (hf:FrU B w0 w):xi_ w0 B b e w':=by
 obtain⟨v,h1,h2,h3⟩:=h;exact⟨v,h1,h2,hf.trans h3⟩
theorem zax {ops:Array Oper}{rest:List Oper}{a:Act}(hgd:o.guard=none) (s x:Operand) (ho:o.op=.call { callee:=.builtin .append,args:=#[s,x],argTypes:=#[111,111] })
 {B g:Nat} {w:World} {v:Value} {b:BA} {y:Int} (c:Nat) (hy:y=(c:Int)) (hc:c<256) (hb:BufV w B v b) (hsz:b.size<=100000000) (hB:B<=w.heap.size) (hg:g=w.heap.size) (hs:a.eval s=v) (hx:a.eval x=.slice (some ⟨g,0,none⟩) 1 1)
 (h:∀ v' w',BufV w' B v' (b++bts [c])->FrU B w w'->wpList prog ops Q rest (a.put o.dst v') w'):wpList prog ops Q (o::rest) a (w.alloc (.cells #[.int .u8 y] 5)):=by
 subst hy;obtain⟨ti,hi1,hi2,hi3,hi4⟩:=info_parts i_u8;refine wpList_append_own_at _ hgd _ _ 111 ho B 5 ti _ 1 1 zfl hi1 hi2 hi3 hi4 rfl (by decide) _ b.size (Lib.strCells b) hs (World.ownsRow.alloc hb _) ⟨g,0,none⟩ 1 1 [.int .u8 (c:Int)] hx rfl (yh_ _ #[.int .u8 (c:Int)] _ _ hg) (by simp[Value.oneCell']) (by unfold maxLen;omega) (by omega) (by simp;omega) ?_;intro v5 w5 ho5 hg5 _ _;refine h v5 w5 ?_ ?_
 ·unfold BufV;rw[ye_,v6_ hc,ag_,zi_];exact ho5
 ·exact Fr.mono (((Fr.refl w _).alloc _).grown hg5 (λ k hk _=>hk):Fr w w5 (λ g=>v.ownBlock=some g)) (λ g _ e=>hb.u8 e)
theorem zxn {ops:Array Oper}{rest:List Oper}{a:Act}(hgd:o.guard=none) (s x:Operand) (ho:o.op=.call { callee:=.builtin .append,args:=#[s,x],argTypes:=#[111,9] })
 {B:Nat} {w:World} {v:Value} {b t:BA} (hb:BufV w B v b) (hsz:b.size<=100000000) (ht:t.size<=4000) (hB:B<=w.heap.size) (hs:a.eval s=v) (hx:a.eval x=.string t)
 (h:∀ v' w',BufV w' B v' (b++t)->FrU B w w'->wpList prog ops Q rest (a.put o.dst v') w'):wpList prog ops Q (o::rest) a w:=by
 obtain⟨ti,hi1,hi2,hi3,hi4⟩:=info_parts i_u8;refine Lib.wpList_append_own_string _ hgd _ _ 111 9 ho B 5 ti zfl ze3 hi1 hi2 hi3 hi4 _ b.size (Lib.strCells b) hs hb t hx (by unfold maxLen;omega) (by omega) hB ?_;intro v5 w5 ho5 hg5 _;refine h v5 w5 ?_ ?_
 ·unfold BufV;rw[ye_,ag_];exact ho5
 ·exact Fr.mono ((Fr.refl w _).grown hg5 (λ k hk _=>hk):Fr w w5 (λ g=>v.ownBlock=some g)) (λ g _ e=>hb.u8 e)
def vq_ (w0:World):Prop:=∀ (W:World) (B:Nat),w0.heap.size<=B->B<=W.heap.size->y1_ w0 W->∀ (u:Value) (b:BA) (n:Int),-9223372036854775808<=n->n<=9223372036854775807->BufV W B u b->b.size<=100000000->
 Calls prog 94 #[u,.int .i64 n,.int .i64 10] W (xi_ W B (b++decB n))
theorem zul {w0:World}(h:Lib.TabIs prog w0 "internal/strconv.uint64pow10" .u64 Lib.pow10Tab):vq_ w0:=by
 intro W B h0 hB hG u b n hn0 hn1 hb hs
 have hT:Lib.TabBelow prog B W "internal/strconv.uint64pow10" .u64 Lib.pow10Tab:=λ W' hW'=>(show y1_ w0 W' from λ g hg=>(hW'.block g (by omega)).trans (hG g hg)).var h
 refine(Tryz.strconv_AppendInt_10 B b.size n hn0 hn1 u (Lib.strCells b) W hb hB (by omega) hT).mono ?_;rintro e w' ⟨v',rfl,ho,hbl,hk⟩;refine⟨v',rfl,?_,hbl.os,hbl.tape,hbl.output,hbl.size,λ k hk1 hS=>?_⟩
 ·unfold BufV;rw[ye_,ag_]
  have e1:(decB n).size=(Lib.itoa n).length:=by unfold decB;show(Lib.itoa n).toArray.size=_;rw[List.size_toArray]
  rw[e1];exact ho
 ·by_cases hkB:k<B
  ·exact hbl.block k hkB
  ·have hex:W.heap[k]?=some W.heap[k]:=Array.getElem?_eq_getElem hk1;rw[hex];refine hk k _ hex (by simp) (λ c fz e=>hS ⟨by omega,c,fz,by rw[hex,e]⟩)
section
variable {w:World} {B:Nat} {u:Value} {b:BA}
theorem zzy {t:Bool}(hb:BufV w B u b) (hB:B<=w.heap.size) (hs:b.size<=100000000) :
 Calls prog 93 #[u,.bool t] w (xi_ w B (b++if t=true then bts [84] else bts [70])):=by
 refine hq_ λ POST Q_=>?_;replace hb:=q_ hb;cases t
 ·go_in
  go_wp2_with (at_builtin;refine zax rfl _ _ rfl 70 rfl (by decide) hb.o hs hB rfl rfl rfl ?_;intro v5 w5 hb5 hf5)
  try go_ret
  rw[Q_.o];exact⟨v5,rfl,hb5,hf5⟩
 ·go_in
  go_wp2_with (at_builtin;refine zax rfl _ _ rfl 84 rfl (by decide) hb.o hs hB rfl rfl rfl ?_;intro v5 w5 hb5 hf5)
  try go_ret
  rw[Q_.o];exact⟨v5,rfl,hb5,hf5⟩
theorem zsv {c:Nat}{y:Int}(hy:y=(c:Int)) (hc:c<256) (ht:tx.size<=4000) (hb:BufV w B u b) (hB:B<=w.heap.size) (hs:b.size<=90000000) :
 Calls prog 95 #[u,.int .u8 y,.string tx] w (xi_ w B (b++(bts [c]++(tx++bts [c])))):=by
 subst hy;refine hq_ λ POST Q_=>?_;replace hb:=q_ hb
 have hs1:(b++bts [c]).size<=90000001:=by rw[ag_,zi_];simp only[ai_];omega
 have hs2:(b++bts [c]++tx).size<=90004001:=by rw[ag_];omega
 go_in
 go_wp2_with (first
  |(at_builtin;refine zax rfl _ _ rfl c rfl hc hb.o (by omega) hB rfl rfl rfl ?_;intro v5 w5 hb5 hf5;have hB5:=hf5.size;replace hb5:=q_ hb5;replace hf5:=q_ hf5;clear hb)
  |(at_builtin;refine zxn rfl _ _ rfl hb5.o (by omega) ht (by omega) rfl rfl ?_;intro v6 w6 hb6 hf6;have hB6:=hf6.size;replace hb6:=q_ hb6;replace hf6:=q_ hf6;clear hb5)
  |(at_builtin;refine zax rfl _ _ rfl c rfl hc hb6.o (by omega) (by omega) rfl rfl rfl ?_;intro v7 w7 hb7 hf7))
 try go_ret
 rw[Q_.o];refine⟨v7,rfl,?_,(hf5.o.trans hf6.o).trans hf7⟩;rw[<- bb_,<- bb_];exact hb7
theorem zxb (hb:BufV w B u b) (hB:B<=w.heap.size) (hs:b.size<=100000000) :
 Calls prog 150 #[u,.int .i64 (n:Int)] w (xi_ w B (b++if n=0 then noB else bts [44])):=by
 refine hq_ λ POST Q_=>?_;replace hb:=q_ hb
 by_cases hn:n=0
 ·subst hn
  go_in
  go_wp2_with fail
  try go_ret
  rw[Q_.o];show xi_ w B (b++noB) _ _;rw[zdi];exact⟨u,rfl,hb.o,FrU.refl w⟩
 ·have hn':((n:Int)==0)=false:=by simp;omega
  rw[if_neg hn] at Q_
  go_in
  go_wp2_with (at_builtin;refine zax rfl _ _ rfl 44 rfl (by decide) hb.o hs hB rfl rfl rfl ?_;intro v5 w5 hb5 hf5)
  try go_ret
  rw[Q_.o];exact⟨v5,rfl,hb5,hf5⟩
end
open Go.RowKit
mutual
theorem zob (env:Nat->Option PB):∀ (d:DT) (t:PT),okD d->(txT env d t).size+4011<=8022*ndT d
 | .mk k n tx ks ds,t,h=>by
  unfold okD at h;have h1:=zlo h.1.1 h.1.2.1;have h2:=h.2.2.1;have h4:=zcn env t n.toNat ks ds 0 0 (k==123) h.2.2.2.1 h.2.2.2.2.2;have h5:=zcn env t n.toNat ks ds 0 0 false h.2.2.2.1 h.2.2.2.2.2;unfold ndT txT;split
  ·rw[zi_];simp only[ar_,ax_];omega
  split
  ·split<;>(rw[zi_];simp only[ar_,ax_];omega)
  split
  ·omega
  split
  ·simp only[ag_,zi_,ar_,ax_];omega
  split
  ·simp only[ag_,zi_,ar_,ax_];omega
  split
  ·rw[zi_];simp only[ar_,ax_];omega
  split
  ·simp only[ag_,zi_,ar_,ax_];omega
  ·unfold zgq;split
   ·simp only[ag_,zi_,ar_,ax_];omega
   split<;>(simp only[ag_,zi_,ar_,ax_];omega)
theorem zcn (env:Nat->Option PB) (t:PT) (n:Nat):∀ (ks:List BA) (ds:List DT) (i q:Nat) (keyed:Bool),(∀ x∈ks,x.size<=4000)->okDs ds->(jn q (txTs env t n i keyed ks ds)).size<=8022*ndTs ds
 | _,[],_,_,_,_,_=>by simp only[txTs,jn];show(0:Nat)<=_;omega
 | ks,d::r,i,q,keyed,hk,h=>by
  unfold okDs at h;have h1:=zob env d (yb_ env t n i) h.1;have h2:=zcn env t n ks.tail r (i+1) (q+1) keyed (λ x hx=>hk x (List.mem_of_mem_tail hx)) h.2
  have h3:(ks.headD noB).size<=4000:=by
   cases ks with
   | nil=>exact aj_ _
   | cons a l=>exact hk a (by simp)
  have e1:(if q=0 then noB else bts [44]).size<=1:=by
   split
   ·exact aj_ _
   ·rw[zi_];exact l_
  have e2:(if keyed=true then ks.headD noB++bts [58] else noB).size<=4001:=by
   split
   ·rw[ag_,zi_];simp only[ar_,ax_];omega
   ·exact aj_ _
  simp only[txTs,jn,ndTs];simp only[ag_];omega
end
theorem zjr (env:Nat->Option PB) (t:PT) (n:Nat) (keyed:Bool):∀ (ds:List DT) (i:Nat) (ks:List BA) (q:Nat),(txTs env t n i keyed ks ds).take q=txTs env t n i keyed ks (ds.take q)
 | [],i,ks,q=>by simp[txTs]
 | d::r,i,ks,0=>by simp[txTs]
 | d::r,i,ks,q+1=>by simp only[txTs,b8_];rw[zjr env t n keyed r (i+1) ks.tail q]
theorem ze2 (env:Nat->Option PB) (t:PT) (n:Nat) (keyed:Bool) (ks:List BA) (ds:List DT) (q:Nat) (hk:∀ x∈ks,x.size<=4000) (h:okDs ds):(upT env t n keyed ks ds q).size<=8022*ndTs (ds.take q):=by
 unfold upT;rw[zjr];exact zcn env t n ks (ds.take q) 0 0 keyed hk (zcw h q)
def NrOK (w0:World) (env:Nat->Option PB) (m:Nat):Prop:=∀ (d:DT),ndT d<=m->∀ (w:World) (P:Nat->Prop) (B:Nat) (t:PT) (v u:Value) (b:BA),DaV env w P d t v->(∀ g,P g->g<B)->w0.heap.size<=B->B<=w.heap.size->y1_ w0 w->BufV w B u b->b.size+8022*ndT d<=90000000->
 Calls prog 65 #[u,v] w (xi_ w B (b++txT env d t))
theorem y1_.fru {w0 w w':World}{B:Nat}(h:y1_ w0 w) (hf:FrU B w w') (h0:w0.heap.size<=B) (hB:B<=w.heap.size):y1_ w0 w':=h.fr hf.all (by omega) (λ g e=>by omega)
section
variable {w0 w:World} {env:Nat->Option PB} {m:Nat} {P:Nat->Prop} {B:Nat} {u:Value} {b:BA} {t:PT}
theorem nAll (ih:NrOK w0 env m){o c:Nat}{y z:Int}(hy:y=(o:Int)) (hz:z=(c:Int)) (ho256:o<256) (hc256:c<256) (hm:ndTs ds<=m) (hP:∀ g,P g->g<B) (h0:w0.heap.size<=B) (hB:B<=w.heap.size) (hG:y1_ w0 w) (hu:BufV w B u b) (hs:b.size+8022*(1+ndTs ds)<=90000000)
 (ho:w.ownsRow 0 94 1 (.slice la ds.length lc) ds.length ((List.range ds.length).flatMap λ i=>[Y i])) (hl:∀ g,(Value.slice la ds.length lc).ownBlock=some g->P g) (hd:∀ i d,ds[i]?=some d->DaV env w P d (yb_ env t 0 i) (Y i)) :
 Calls prog 96 #[u,.int .u8 y,.slice la ds.length lc,.int .u8 z] w (xi_ w B (b++(bts [o]++(jn 0 (txTs env t 0 0 false [] ds)++bts [c])))):=by
 subst hy;subst hz;refine hq_ λ POST Q_=>?_;have hok:okDs ds:=zcd (λ i d e=>(hd i d e).dat.ok);have hnl:=x3_ ds;obtain⟨b1,hb1⟩:∃ b1,b1=b++bts [o]:=⟨_,rfl⟩
 have hb1s:b1.size=b.size+1:=by rw[hb1,ag_,zi_];rfl
 have hbx:b++(bts [o]++(jn 0 (txTs env t 0 0 false [] ds)++bts [c]))=(b1++jn 0 (txTs env t 0 0 false [] ds))++bts [c]:=by rw[hb1];simp only[bb_]
 rw[hbx] at Q_;have start:H_ (∀ (v1:Value) (W:World),BufV W B v1 (b++bts [o])->FrU B w W->∃ q:Nat,Value.int .i64 0=.int .i64 (q:Int)/\q<=ds.length/\ds.length+1-q<=ds.length+1/\BufV W B v1 (b1++upT env t 0 false [] ds q)/\FrU B w W):=q_ λ v1 W h1 h2=>⟨0,rfl,aj_ _,by omega,by rw[zn7,zdi,hb1];exact h1,h2⟩;clear hb1 hbx;replace ho:=q_ ho;replace hd:=q_ hd;replace hl:=q_ hl;replace hP:=q_ hP;replace hok:=q_ hok;replace hu:=q_ hu;replace hG:=q_ hG
 go_in
 go_wp2_with (at_builtin;refine zax rfl _ _ rfl o rfl ho256 hu.o (by omega) hB rfl rfl rfl ?_;intro v5 w5 hb5 hf5;have st1:=q_ (start.o v5 w5 hb5 hf5);clear hb5 hf5)
 go_loopg [0,9,10,17] (ds.length+1) (λ m v0 v9 v10 v W=>∃ q:Nat,v=.int .i64 (q:Int)/\q<=ds.length/\ds.length+1-q<=m/\BufV W B v0 (b1++upT env t 0 false [] ds q)/\FrU B w W)
 case atStart=>exact st1.o
 case round=>
  clear start st1;obtain⟨q,rfl,hq,hmq,hBu,hFw⟩:=hrel;have hzr:=hFw.size
  by_cases hlt:q<ds.length
  ·have hlt':(q:Int)<(ds.length:Int):=by omega
   have hdq:ds[q]?=some ds[q]:=am_ hlt;generalize ds[q]=d at hdq;obtain⟨t1,t2⟩:=xm_ hdq;have hsz:=ze2 env t 0 false [] ds q (by simp) hok.o
   have hst:b1++upT env t 0 false [] ds (q+1)=(b1++upT env t 0 false [] ds q++if q=0 then noB else bts [44])++txT env d (yb_ env t 0 q):=by
    rw[zn8 hdq];simp only[itT,az_,if_false,ze7,bb_]
   have hcs:(if q=0 then noB else bts [44]).size<=1:=by
    split
    ·exact aj_ _
    ·rw[zi_];exact l_
   obtain⟨g,cap,hgc⟩:=zk_ ho.o (by omega);cases hgc;have hv:=hd.o q d hdq;obtain⟨T,x,hx⟩:=hv.iface;rw[hx] at hv
   have hkeep:∀ g,P g->¬ B<=g:=λ g h=>by have:=hP.o g h;omega
   have e0:wr.cell? ⟨g,q,none⟩=some (.iface T x):=by
    rw[<- hx];exact zbl (zb_ ho.o hFw.all (λ g e=>hkeep g (hl.o g e))) hlt
   have hC1:=q_ (zxb (n:=q) hBu (by omega) (by rw[ag_];omega))
   have hC2:H_ (∀ v1 w1,BufV w1 B v1 (b1++upT env t 0 false [] ds q++if q=0 then noB else bts [44])->FrU B wr w1->Calls prog 65 #[v1,.iface T x] w1 (xi_ w1 B (b1++upT env t 0 false [] ds (q+1)))):=q_ (λ v1 w1 h1 h2=>by
    rw[hst]
    have hz2:=h2.size
    have hF:=hFw.trans h2
    exact ih d (by omega) w1 P B _ _ _ _ (hv.fr hF.all hkeep) hP.o h0 (by omega) (hG.o.fru hF h0 hB) h1 (by simp only[ag_];omega))
   have hq5:q<=90000000:=by omega
   clear hsz t1 t2 hst hkeep hcs hv hx;replace hFw:=q_ hFw;replace hdq:=q_ hdq;replace hBu:=q_ hBu
   go_wp2_with (first
    |(go_at_call 150;refine hC1.o.mono ?_;rintro e w1 ⟨v1,rfl,hb1,hf1⟩;replace hf1:=q_ hf1;replace hb1:=q_ hb1)
    |(go_at_call 65;refine(hC2.o _ _ hb1.o hf1.o).mono ?_;rintro e w2 ⟨v2,rfl,hb2,hf2⟩;replace hf2:=q_ hf2;replace hb2:=q_ hb2))
   go_roundg (ds.length+1-(q+1))
   case measure=>omega
   case rel=>exact⟨q+1,by simp,hlt,l_,hb2.o,(hFw.o.trans hf1.o).trans hf2.o⟩
  ·have hlt':¬ ((q:Int)<(ds.length:Int)):=by omega
   have hsz:=ze2 env t 0 false [] ds q (by simp) hok.o;rw[a3_ (by omega)] at hsz;rw[zrm (by omega)] at hBu hsz
   have hs9:(b1++jn 0 (txTs env t 0 0 false [] ds)).size<=100000000:=by rw[ag_];omega
   clear hsz;replace hFw:=q_ hFw;replace hBu:=q_ hBu
   go_wp2_with (at_builtin;refine zax rfl _ _ rfl c rfl hc256 hBu.o hs9 (by omega) rfl rfl rfl ?_;intro v7 w7 hb7 hf7)
   try go_ret
   rw[Q_.o];exact⟨_,rfl,hb7,hFw.o.trans hf7⟩
end
open Go.RowKit
theorem zsl {a:Act}{K:Act->World->Prop}(s x:Operand) (ho:o.op=.call { callee:=.builtin .append,args:=#[s,x],argTypes:=#[111,111] })
 {B g:Nat} {w W:World} {v:Value} {b:BA} {y:Int} (c:Nat) (hy:y=(c:Int)) (hc:c<256) (hb:BufV w B v b) (hsz:b.size<=100000000) (hB:B<=w.heap.size) (hg:g=w.heap.size) (hs:a.eval s=v) (hx:a.eval x=.slice (some ⟨g,0,none⟩) 1 1) (hW:W=w.alloc (.cells #[.int .u8 y] 5))
 (h:∀ v' w',BufV w' B v' (b++bts [c])->FrU B w w'->K (a.put o.dst v') w'):o.wp prog a W K Q:=by
 subst hy;subst hW;obtain⟨ti,hi1,hi2,hi3,hi4⟩:=info_parts i_u8;obtain⟨v5,w5,hr,ho5,hg5,_,_⟩:=run_append_own_at (P:=prog) (w.alloc (.cells #[.int .u8 (c:Int)] 5)) B 111 o.type 5 ti _ 1 1 zfl hi1 hi2 hi3 hi4 rfl (by decide) _ b.size (Lib.strCells b) (World.ownsRow.alloc hb _) ⟨g,0,none⟩ 1 1 [.int .u8 (c:Int)] rfl (yh_ _ #[.int .u8 (c:Int)] _ _ hg) (by simp[Value.oneCell']) (by unfold maxLen;omega) (by omega) (by simp;omega);unfold Oper.wp execOp;simp only[ho,resolve,invoke,builtin,Sem.run_bind,Sem.run_pure,Result.andThen_ok,List.map_toArray,ap_,a1_,hs,hx,hr];refine h v5 w5 ?_ ?_
 ·unfold BufV;rw[ye_,v6_ hc,ag_,zi_];exact ho5
 ·exact Fr.mono (((Fr.refl w _).alloc _).grown hg5 (λ k hk _=>hk):Fr w w5 (λ g=>v.ownBlock=some g)) (λ g _ e=>hb.u8 e)
theorem zx2 {a:Act}{K:Act->World->Prop}(s x:Operand) (ho:o.op=.call { callee:=.builtin .append,args:=#[s,x],argTypes:=#[111,9] })
 {B:Nat} {w:World} {v:Value} {b t:BA} (hb:BufV w B v b) (hsz:b.size<=100000000) (ht:t.size<=4000) (hB:B<=w.heap.size) (hs:a.eval s=v) (hx:a.eval x=.string t)
 (h:∀ v' w',BufV w' B v' (b++t)->FrU B w w'->K (a.put o.dst v') w'):o.wp prog a w K Q:=by
 obtain⟨ti,hi1,hi2,hi3,hi4⟩:=info_parts i_u8;obtain⟨v5,w5,hr,ho5,hg5,_⟩:=Lib.run_append_own_string (P:=prog) w B 111 9 o.type 5 ti zfl ze3 hi1 hi2 hi3 hi4 _ b.size (Lib.strCells b) hb t (by unfold maxLen;omega) (by omega) hB;unfold Oper.wp execOp;simp only[ho,resolve,invoke,builtin,Sem.run_bind,Sem.run_pure,Result.andThen_ok,List.map_toArray,ap_,a1_,hs,hx,hr];refine h v5 w5 ?_ ?_
 ·unfold BufV;rw[ye_,ag_];exact ho5
 ·exact Fr.mono ((Fr.refl w _).grown hg5 (λ k hk _=>hk):Fr w w5 (λ g=>v.ownBlock=some g)) (λ g _ e=>hb.u8 e)
section
variable {w0 w:World} {env:Nat->Option PB} {m:Nat} {P:Nat->Prop} {B:Nat} {u:Value} {b:BA} {t:PT}
theorem nMap (ih:NrOK w0 env m){ks:List BA}(hm:ndTs ds<=m) (hP:∀ g,P g->g<B) (h0:w0.heap.size<=B) (hB:B<=w.heap.size) (hG:y1_ w0 w) (hu:BufV w B u b) (hs:b.size+8022*(1+ndTs ds)<=90000000) (hk:∀ k∈ks,k.size<=4000)
 (ho:w.ownsRow 0 173 2 (.slice la ds.length lc) ds.length ((List.range ds.length).flatMap λ i=>[.string (ks.getD i noB),Y i])) (hl:∀ g,(Value.slice la ds.length lc).ownBlock=some g->P g) (hd:∀ i d,ds[i]?=some d->DaV env w P d (yb_ env t 0 i) (Y i)) :
 Calls prog 97 #[u,.slice la ds.length lc] w (xi_ w B (b++(bts [123]++(jn 0 (txTs env t 0 0 true ks ds)++bts [125])))):=by
 refine hq_ λ POST Q_=>?_;have hok:okDs ds:=zcd (λ i d e=>(hd i d e).dat.ok);have hnl:=x3_ ds;obtain⟨b1,hb1⟩:∃ b1,b1=b++bts [123]:=⟨_,rfl⟩
 have hb1s:b1.size=b.size+1:=by rw[hb1,ag_,zi_];rfl
 have hbx:b++(bts [123]++(jn 0 (txTs env t 0 0 true ks ds)++bts [125]))=(b1++jn 0 (txTs env t 0 0 true ks ds))++bts [125]:=by rw[hb1];simp only[bb_]
 rw[hbx] at Q_;have start:H_ (∀ (v1:Value) (W:World),BufV W B v1 (b++bts [123])->FrU B w W->∃ q:Nat,Value.int .i64 0=.int .i64 (q:Int)/\q<=ds.length/\ds.length+1-q<=ds.length+1/\BufV W B v1 (b1++upT env t 0 true ks ds q)/\FrU B w W):=q_ λ v1 W h1 h2=>⟨0,rfl,aj_ _,by omega,by rw[zn7,zdi,hb1];exact h1,h2⟩;clear hb1 hbx;replace ho:=q_ ho;replace hd:=q_ hd;replace hl:=q_ hl;replace hP:=q_ hP;replace hok:=q_ hok;replace hu:=q_ hu;replace hG:=q_ hG;replace hk:=q_ hk
 go_in
 go_wp2_with (at_builtin;refine zax rfl _ _ rfl 123 rfl (by decide) hu.o (by omega) hB rfl rfl rfl ?_;intro v5 w5 hb5 hf5;have st1:=q_ (start.o v5 w5 hb5 hf5);clear hb5 hf5)
 go_loopg [0,5,6,12] (ds.length+1) (λ m v0 v5 v6 v W=>∃ q:Nat,v=.int .i64 (q:Int)/\q<=ds.length/\ds.length+1-q<=m/\BufV W B v0 (b1++upT env t 0 true ks ds q)/\FrU B w W)
 case atStart=>exact st1.o
 case round=>
  clear start st1;obtain⟨q,rfl,hq,hmq,hBu,hFw⟩:=hrel;have hzr:=hFw.size
  by_cases hlt:q<ds.length
  ·have hlt':(q:Int)<(ds.length:Int):=by omega
   have hdq:ds[q]?=some ds[q]:=am_ hlt;generalize ds[q]=d at hdq;obtain⟨t1,t2⟩:=xm_ hdq;have hsz:=ze2 env t 0 true ks ds q hk.o hok.o;obtain⟨K,hK0⟩:∃ K,ks.getD q noB=K:=⟨_,rfl⟩;obtain⟨C,hC0⟩:∃ C,C=b1++upT env t 0 true ks ds q++(if q=0 then noB else bts [44]):=⟨_,rfl⟩
   have hst:b1++upT env t 0 true ks ds (q+1)=((C++K)++bts [58])++txT env d (yb_ env t 0 q):=by
    rw[zn8 hdq,hC0];simp only[itT,if_true,hK0,bb_]
   have hcs:(if q=0 then noB else bts [44]).size<=1:=by
    split
    ·exact aj_ _
    ·rw[zi_];exact l_
   have hK4:K.size<=4000:=by
    rw[<- hK0,aq_]
    cases hkk:ks[q]? with
    | none=>exact aj_ _
    | some y=>exact hk.o y (ak_ hkk)
   have hCs:C.size<=b1.size+8022*ndTs (ds.take q)+1:=by rw[hC0];simp only[ag_];omega
   obtain⟨g,cap,hgc⟩:=zk_ ho.o (by omega);cases hgc;have hv:=hd.o q d hdq;obtain⟨T,x,hx⟩:=hv.iface;rw[hx] at hv
   have hkeep:∀ g,P g->¬ B<=g:=λ g h=>by have:=hP.o g h;omega
   obtain⟨m0,m1⟩:=ze9 (K:=λ i=>ks.getD i noB) (zb_ ho.o hFw.all (λ g e=>hkeep g (hl.o g e))) hlt;rw[hx] at m1;simp only[hK0] at m0;obtain⟨wz,hwz⟩:∃ wz,wz=wr.alloc (.cells #[.string K,.iface T x] 173):=⟨_,rfl⟩;have A0:Fr wr wz (λ _=>False):=hwz▸(Fr.refl wr _).alloc _;have B0:Blk wz wr.heap.size [.string K,.iface T x] 173:=hwz▸Blk.new wr #[.string K,.iface T x] 173;have hzz:=A0.size
   have hT:∀ W,Fr wz W (λ _=>False)->Calls prog 150 #[u0,.int .i64 (q:Int)] W (λ e w'=>∃ v1,e=.returned v1/\H_ (BufV w' B v1 C/\FrU B w w'/\Blk w' wr.heap.size [.string K,.iface T x] 173)/\w'.cell? ⟨wr.heap.size,0,none⟩=some (.string K)):=by
    intro W hW;have hz:=hW.size;have huW:BufV W B u0 (b1++upT env t 0 true ks ds q):=(BufV.fr (BufV.fr hBu A0 u_) hW u_);refine(zxb (n:=q) huW (by omega) (by rw[ag_];omega)).mono ?_;rintro e w1 ⟨v1,rfl,hb1,hF1⟩;have h2:=hF1.blk (hW.blk B0 (λ f=>f)) (by decide);refine⟨v1,rfl,q_ ⟨hC0▸hb1,hFw.trans (((FrU.of A0).trans (FrU.of hW)).trans hF1),h2⟩,?_⟩;rw[h2.cell 0]
    rfl
   have hD:∀ W v1,BufV W B v1 ((C++K)++bts [58])->FrU B w W->Calls prog 65 #[v1,.iface T x] W (xi_ W B (b1++upT env t 0 true ks ds (q+1))):=by
    intro W v1 hb1 hF1;have hz:=hF1.size;rw[hst];exact ih d (by omega) W P B _ _ v1 _ (hv.fr hF1.all hkeep) hP.o h0 (by omega) (hG.o.fru hF1 h0 hB) hb1 (by simp only[ag_,zi_,ar_,ax_];omega)
   have hq5:q<=90000000:=by omega
   have hC9:C.size<=90000000:=by omega
   have hC8:(C++K).size<=90004000:=by rw[ag_];omega
   clear hsz t1 t2 hst hkeep hC0 hCs hcs hv hx;replace hT:=q_ hT;replace hD:=q_ hD;replace hFw:=q_ hFw;replace hdq:=q_ hdq;replace hBu:=q_ hBu;replace A0:=q_ A0;replace B0:=q_ B0
   go_wp2_with fail
   rw[<- hwz];replace hwz:=q_ hwz;refine z8_ (λ W=>W.cell? ⟨wr.heap.size,0,none⟩=some (.string K)) (by kernel_rfl) ?_;refine tA_ 0 rfl (by kernel_rfl) (λ _ _ _ h=>h) (by intro W h1;go_simp<;>rfl) ?_;refine tA_ 1 rfl (by kernel_rfl) (λ _ _ _ h=>h) (by intro W h1;go_simp<;>rfl) ?_;refine tA_ 3 rfl (by kernel_rfl) (λ _ _ _ h=>h) (by intro W h1;go_simp<;>rfl) ?_;refine tA_ 4 rfl (by kernel_rfl) (λ _ _ _ h=>h) (by intro W h1;go_simp<;>rfl) ?_;refine zr_ 2 rfl (by kernel_rfl) (by have:=B0.o.cell 0;exact this) (λ K1 hK1=>?_);go_simp;refine(hT.o _ ((Fr.refl wz _).drew)).mono ?_;rintro e w1 ⟨v1,rfl,hb1,c1⟩;refine hK1 _ _ ?_;clear hK1 K1;refine zr_ 5 rfl (by kernel_rfl) c1 (λ K1 hK1=>?_);rw[if_pos (show Region.wanted _ _=true by kernel_rfl)];refine zx2 _ _ rfl hb1.o.1 (by omega) hK4 (ah_ hB hb1.o.2.1.size) rfl rfl ?_;intro v6 w6 hb6 hf6;refine hK1 _ _ ?_;clear hK1 K1;have B6:=hf6.blk hb1.o.2.2 (by decide);have c60:=B6.c0;have c61:=B6.c1;have F6:=q_ (hb1.o.2.1.trans hf6);replace hb6:=q_ hb6;replace B6:=q_ B6;clear hb1 hf6;refine tA_ 6 rfl (by kernel_rfl) (λ _ _ _ h=>h) (by intro W h1;go_simp<;>rfl) ?_;refine z5_ (by kernel_rfl) c60 ?_ _
   go_wp2_with fail
   refine z8_ (λ W=>W.cell? ⟨wr.heap.size,1,none⟩=some (.iface T x)) (by kernel_rfl) ?_;refine tA_ 0 rfl (by kernel_rfl) (λ _ _ _ h=>h) (by intro W h1;go_simp<;>rfl) ?_;refine tA_ 3 rfl (by kernel_rfl) (λ _ _ _ h=>h) (by intro W h1;go_simp<;>rfl) ?_;refine tA_ 4 rfl (by kernel_rfl) (λ _ _ _ h=>h) (by intro W h1;go_simp<;>rfl) ?_;refine zr_ 1 rfl (by kernel_rfl) c61 (λ K1 hK1=>?_);go_simp;refine hK1 _ _ ?_;clear hK1 K1;have hz6:=F6.o.size;have B7:=(B6.o.alloc (.cells #[.int .u8 58] 5));have c71:=B7.c1;refine zr_ 2 rfl (by kernel_rfl) c71 (λ K1 hK1=>?_);rw[if_pos (show Region.wanted _ _=true by kernel_rfl)];refine zsl _ _ rfl 58 rfl (by decide) (w:=w6.drew) (BufV.still hb6.o (ze_.drew _)) (by omega) (ah_ hB hz6) rfl rfl rfl rfl ?_;intro v8 w8 hb8 hf8;refine hK1 _ _ ?_;clear hK1 K1;have F8:=F6.o.drew.trans hf8;have B8:=hf8.blk ((((Fr.refl w6 (λ _=>False)).drew)).blk B6.o id) (by decide);have c81:=B8.c1;refine zr_ 5 rfl (by kernel_rfl) c81 (λ K1 hK1=>?_);go_simp;refine(hD.o _ _ hb8 F8).mono ?_;rintro e w9 ⟨v9,rfl,hb9,hf9⟩;refine hK1 _ _ ?_;clear hK1 K1;have c91:=(hf9.blk B8 (by decide)).c1;have F9:=q_ (F8.trans hf9);replace hb9:=q_ hb9;clear hf9 F8 B8 hb8 hf8 B7 F6;refine tA_ 6 rfl (by kernel_rfl) (λ _ _ _ h=>h) (by intro W h1;go_simp<;>rfl) ?_;refine z5_ (by kernel_rfl) c91 ?_ _
   go_wp2_with fail
   go_roundg (ds.length+1-(q+1))
   case measure=>omega
   case rel=>exact⟨q+1,by simp,hlt,l_,hb9.o,F9.o⟩
  ·have hlt':¬ ((q:Int)<(ds.length:Int)):=by omega
   have hsz:=ze2 env t 0 true ks ds q hk.o hok.o;rw[a3_ (by omega)] at hsz;rw[zrm (by omega)] at hBu hsz
   have hs9:(b1++jn 0 (txTs env t 0 0 true ks ds)).size<=100000000:=by rw[ag_];omega
   clear hsz;replace hFw:=q_ hFw;replace hBu:=q_ hBu
   go_wp2_with (at_builtin;refine zax rfl _ _ rfl 125 rfl (by decide) hBu.o hs9 (by omega) rfl rfl rfl ?_;intro v7 w7 hb7 hf7)
   try go_ret
   rw[Q_.o];exact⟨_,rfl,hb7,hFw.o.trans hf7⟩
end
open Go.RowKit
section
variable {w0 w:World} {env:Nat->Option PB} {m:Nat} {P:Nat->Prop} {B:Nat} {u:Value} {b:BA} {t:PT}
theorem zpf (env:Nat->Option PB) (n:Nat) (d:DT) (t:PT):txT env (.mk 40 (n:Int) noB [] [d]) t=bts [60]++(decB n++(bts [58]++(txT env d (yb_ env t n 0)++bts [62]))):=by
 conv=>lhs;unfold txT
 rw[if_neg (by decide),if_neg (by decide),if_neg (by decide),if_neg (by decide),if_neg (by decide),if_neg (by decide),if_pos rfl];simp only[txTs,jn,az_,if_false,if_true,ze7,zdi,bc_]
theorem zyb (ih:NrOK w0 env m) (hA:vq_ w0)(hn:n<=4000){v:Value}(hm:ndT d<=m) (hv:DaV env w P d (yb_ env t n 0) v) (hP:∀ g,P g->g<B) (h0:w0.heap.size<=B) (hB:B<=w.heap.size) (hG:y1_ w0 w) (hu:BufV w B u b) (hs:b.size+8022*(1+ndT d)<=90000000) :
 Calls prog 98 #[u,.agg #[.int .i64 (n:Int),v]] w (xi_ w B (b++txT env (.mk 40 (n:Int) noB [] [d]) t)):=by
 refine hq_ λ POST Q_=>?_;obtain⟨T,x,rfl⟩:=hv.iface;have hdz:=zlo (n:=(n:Int)) (by omega) (by omega);have htz:=zob env d (yb_ env t n 0) hv.dat.ok
 have hkeep:∀ g,P g->¬ B<=g:=λ g h=>by have:=hP g h;omega
 obtain⟨wz,hwz⟩:∃ wz,wz=w.alloc (.cells #[.int .i64 (n:Int),.iface T x] 175):=⟨_,rfl⟩;have A0:Fr w wz (λ _=>False):=hwz▸(Fr.refl w _).alloc _;have B0:Blk wz w.heap.size [.int .i64 (n:Int),.iface T x] 175:=hwz▸Blk.new w #[.int .i64 (n:Int),.iface T x] 175;have hzz:=A0.size;have huz:BufV wz B u b:=BufV.fr hu A0 u_
 have hb60:(b++bts [60]).size<=b.size+1:=by rw[ag_,zi_];exact l_
 have hI:∀ W v1,BufV W B v1 (b++bts [60])->FrU B w W->Calls prog 94 #[v1,.int .i64 (n:Int),.int .i64 10] W (xi_ W B ((b++bts [60])++decB n)):=λ W v1 h1 h2=>hA W B h0 (by have:=h2.size;omega) (hG.fru h2 h0 hB) v1 _ (n:Int) (by omega) (by omega) h1 (by omega);have hD:∀ W v1,BufV W B v1 (((b++bts [60])++decB n)++bts [58])->FrU B w W->Calls prog 65 #[v1,.iface T x] W (xi_ W B ((((b++bts [60])++decB n)++bts [58])++txT env d (yb_ env t n 0))):=λ W v1 h1 h2=>ih d hm W P B _ _ v1 _ (hv.fr h2.all hkeep) hP h0 (by have:=h2.size;omega) (hG.fru h2 h0 hB) h1 (by simp only[ag_,zi_,ar_,ax_];omega)
 have hfin:b++txT env (.mk 40 (n:Int) noB [] [d]) t=((((b++bts [60])++decB n)++bts [58])++txT env d (yb_ env t n 0))++bts [62]:=by rw[zpf];simp only[bb_]
 rw[hfin] at Q_
 have hs1:((b++bts [60])++decB n).size<=90000000:=by rw[ag_];omega
 have hs2:((((b++bts [60])++decB n)++bts [58])++txT env d (yb_ env t n 0)).size<=100000000:=by simp only[ag_,zi_,ar_,ax_];omega
 replace hI:=q_ hI;replace hD:=q_ hD;clear hv ih hm hkeep hP hu hfin hG hA hdz htz;have Fz:=q_ (FrU.of (B:=B) A0);replace A0:=q_ A0;have c0:=B0.c0;replace B0:=q_ B0;replace huz:=q_ huz;replace hwz:=q_ hwz
 go_in
 go_wp2_with fail
 rw[<- hwz.o];refine z8_ (λ W=>W.cell? ⟨w.heap.size,0,none⟩=some (.int .i64 (n:Int))) (by kernel_rfl) ?_;refine tA_ 0 rfl (by kernel_rfl) (λ _ _ _ h=>h) (by intro W h1;go_simp<;>rfl) ?_;refine tA_ 3 rfl (by kernel_rfl) (λ _ _ _ h=>h) (by intro W h1;go_simp<;>rfl) ?_;refine tA_ 4 rfl (by kernel_rfl) (λ _ _ _ h=>h) (by intro W h1;go_simp<;>rfl) ?_;refine zr_ 1 rfl (by kernel_rfl) c0 (λ K1 hK1=>?_);go_simp;refine hK1 _ _ ?_;clear hK1 K1;have c10:=(B0.o.alloc (.cells #[.int .u8 60] 5)).c0;refine zr_ 2 rfl (by kernel_rfl) c10 (λ K1 hK1=>?_);rw[if_pos (show Region.wanted _ _=true by kernel_rfl)];refine zsl _ _ rfl 60 rfl (by decide) (w:=wz.drew) (BufV.still huz.o (ze_.drew _)) (by omega) (ah_ hB hzz) rfl rfl rfl rfl ?_;intro v2 w2 hb2 hf2;refine hK1 _ _ ?_;clear hK1 K1;have F2:=Fz.o.drew.trans hf2;have B2:=hf2.blk ((((Fr.refl wz (λ _=>False)).drew)).blk B0.o id) (by decide);have c20:=B2.c0;refine zr_ 5 rfl (by kernel_rfl) c20 (λ K1 hK1=>?_);go_simp;refine(hI.o _ _ hb2 F2).mono ?_;rintro e w3 ⟨v3,rfl,hb3,hf3⟩;refine hK1 _ _ ?_;clear hK1 K1;have B3:=hf3.blk B2 (by decide);have c30:=B3.c0;have c31:=B3.c1;have F3:=q_ (F2.trans hf3);replace hb3:=q_ hb3;replace B3:=q_ B3;clear hf3 F2 B2 hb2 hf2;refine tA_ 6 rfl (by kernel_rfl) (λ _ _ _ h=>h) (by intro W h1;go_simp<;>rfl) ?_;refine z5_ (by kernel_rfl) c30 ?_ _
 go_wp2_with fail
 refine z8_ (λ W=>W.cell? ⟨w.heap.size,1,none⟩=some (.iface T x)) (by kernel_rfl) ?_;refine tA_ 0 rfl (by kernel_rfl) (λ _ _ _ h=>h) (by intro W h1;go_simp<;>rfl) ?_;refine tA_ 3 rfl (by kernel_rfl) (λ _ _ _ h=>h) (by intro W h1;go_simp<;>rfl) ?_;refine tA_ 4 rfl (by kernel_rfl) (λ _ _ _ h=>h) (by intro W h1;go_simp<;>rfl) ?_;refine zr_ 1 rfl (by kernel_rfl) c31 (λ K1 hK1=>?_);go_simp;refine hK1 _ _ ?_;clear hK1 K1;have hz3:=F3.o.size;have c71:=(B3.o.alloc (.cells #[.int .u8 58] 5)).c1;refine zr_ 2 rfl (by kernel_rfl) c71 (λ K1 hK1=>?_);rw[if_pos (show Region.wanted _ _=true by kernel_rfl)];refine zsl _ _ rfl 58 rfl (by decide) (w:=w3.drew) (BufV.still hb3.o (ze_.drew _)) (by omega) (ah_ hB hz3) rfl rfl rfl rfl ?_;intro v8 w8 hb8 hf8;refine hK1 _ _ ?_;clear hK1 K1;have F8:=F3.o.drew.trans hf8;have B8:=hf8.blk ((((Fr.refl w3 (λ _=>False)).drew)).blk B3.o id) (by decide);have c81:=B8.c1;refine zr_ 5 rfl (by kernel_rfl) c81 (λ K1 hK1=>?_);go_simp;refine(hD.o _ _ hb8 F8).mono ?_;rintro e w9 ⟨v9,rfl,hb9,hf9⟩;refine hK1 _ _ ?_;clear hK1 K1;have c91:=(hf9.blk B8 (by decide)).c1;have F9:=F8.trans hf9;have hz9:=F9.size;replace F9:=q_ F9;replace hb9:=q_ hb9;clear hf9 F8 B8 hb8 hf8 F3;refine tA_ 6 rfl (by kernel_rfl) (λ _ _ _ h=>h) (by intro W h1;go_simp<;>rfl) ?_;refine z5_ (by kernel_rfl) c91 ?_ _
 go_wp2_with (at_builtin;refine zax rfl _ _ rfl 62 rfl (by decide) hb9.o hs2 (by omega) rfl rfl rfl ?_;intro v10 w10 hb10 hf10)
 try go_ret
 rw[Q_.o];exact⟨_,rfl,hb10,F9.o.trans hf10⟩
end
open Go.RowKit
theorem zlq (v:Value) (w:World):(Instr.typeAssert (.iface 178 v) 94 178 true).run prog w=.ok (.tuple #[v,.bool true]) w:=by kernel_rfl
theorem xr_ (u:TypeId) (h:u≠178) (v:Value) (w:World):(Instr.typeAssert (.iface u v) 94 178 true).run prog w=.ok (.tuple #[.agg #[],.bool false]) w:=by
 have e:(Instr.typeAssert (.iface u v) 94 178 true).run prog w=(if u=178 then (pure (Value.tuple #[v,.bool true]):Sem Value) else (do pure (Value.tuple #[<- zeroValue 178,.bool false]))).run prog w:=by kernel_rfl
 have e2:(do pure (Value.tuple #[<- zeroValue 178,.bool false]):Sem Value).run prog w=.ok (.tuple #[.agg #[],.bool false]) w:=by kernel_rfl
 rw[e,if_neg h];exact e2
section
variable {w0 w:World} {env:Nat->Option PB} {m:Nat} {P:Nat->Prop} {B:Nat} {u:Value} {b:BA} {t:PT}
theorem zp1 (hB:B<=w.heap.size) (hu:BufV w B u b) (hs:b.size+8022<=90000000) :
 Calls prog 65 #[u,.iface 178 (.agg #[])] w (xi_ w B (b++txT env (.mk 110 0 noB [] []) t)):=by
 refine hq_ λ POST Q_=>?_
 have hby:txT env (.mk 110 0 noB [] []) t=bts [78]:=by
  conv=>lhs;unfold txT
  rw[if_pos rfl]
 have a0:=zlq;have A:Fr w (w.alloc (.cells #[] 178)) (λ _=>False):=(Fr.refl w _).alloc _;have hu2:=q_ (BufV.fr hu A u_);have hz:=A.size;replace A:=q_ A;clear hu
 go_in
 go_wp2_with (at_builtin;refine zax rfl _ _ rfl 78 rfl (by decide) hu2.o (by omega) (by omega) (by simp) rfl rfl ?_;intro v5 w5 hb5 hf5)
 try go_ret
 rw[Q_.o,hby];exact⟨_,rfl,hb5,(FrU.of A.o).trans hf5⟩
theorem zvx {c:Bool}(hB:B<=w.heap.size) (hu:BufV w B u b) (hs:b.size+8022<=90000000) :
 Calls prog 65 #[u,.iface 179 (.bool c)] w (xi_ w B (b++txT env (.mk 116 (if c=true then 1 else 0) noB [] []) t)):=by
 refine hq_ λ POST Q_=>?_
 have hby:txT env (.mk 116 (if c=true then 1 else 0) noB [] []) t=(if c=true then bts [84] else bts [70]):=by
  conv=>lhs;unfold txT
  rw[if_neg (by decide),if_pos rfl];cases c<;>rfl
 have a0:=xr_ 179 (by decide);have a1:=zhq;have hC:=q_ (zzy (t:=c) hu hB (by omega));clear hu
 go_in
 go_wp2_with (go_at_call 93;refine hC.o.mono ?_;rintro e w1 h1;replace h1:=q_ h1;obtain⟨v1,rfl,_⟩:=h1.o)
 try go_ret
 rw[Q_.o,hby];exact h1.o
theorem zzu (hA:vq_ w0){c:Nat}{n:Int}(hc:c=105\/c=108) (i0 : -9223372036854775808<=n) (i1:n<=9223372036854775807) (h0:w0.heap.size<=B) (hB:B<=w.heap.size) (hG:y1_ w0 w) (hu:BufV w B u b) (hs:b.size+8022<=90000000) :
 Calls prog 65 #[u,.iface 181 (.int .i64 n)] w (xi_ w B (b++txT env (.mk c n noB [] []) t)):=by
 refine hq_ λ POST Q_=>?_
 have hby:txT env (.mk c n noB [] []) t=decB n:=by
  conv=>lhs;unfold txT
  rw[if_neg (by omega),if_neg (by omega),if_pos (by omega)]
 have a0:=xr_ 181 (by decide);have a1:=yz_ 181 (by decide);have a2:=zgf;have hC:=q_ (hA w B h0 hB hG u b n i0 i1 hu (by omega));clear hu hG hA
 go_in
 go_wp2_with (go_at_call 94;refine hC.o.mono ?_;rintro e w1 h1;replace h1:=q_ h1;obtain⟨v1,rfl,_⟩:=h1.o)
 try go_ret
 rw[Q_.o,hby];exact h1.o
theorem zx3 (ht:tx.size<=4000) (hB:B<=w.heap.size) (hu:BufV w B u b) (hs:b.size+8022<=90000000) :
 Calls prog 65 #[u,.iface 183 (.string tx)] w (xi_ w B (b++txT env (.mk 115 0 tx [] []) t)):=by
 refine hq_ λ POST Q_=>?_
 have hby:txT env (.mk 115 0 tx [] []) t=bts [34]++(tx++bts [34]):=by
  conv=>lhs;unfold txT
  rw[if_neg (by decide),if_neg (by decide),if_neg (by decide),if_pos rfl]
 have a0:=xr_ 183 (by decide);have a1:=yz_ 183 (by decide);have a2:=yv_ 183 (by decide);have a3:=zlp;have hC:=q_ (zsv (c:=34) (y:=34) rfl (by decide) ht hu hB (by omega));clear hu
 go_in
 go_wp2_with (go_at_call 95;refine hC.o.mono ?_;rintro e w1 h1;replace h1:=q_ h1;obtain⟨v1,rfl,_⟩:=h1.o)
 try go_ret
 rw[Q_.o,hby];exact h1.o
theorem zvy (ht:tx.size<=4000) (hB:B<=w.heap.size) (hu:BufV w B u b) (hs:b.size+8022<=90000000) :
 Calls prog 65 #[u,.iface 190 (.string tx)] w (xi_ w B (b++txT env (.mk 102 0 tx [] []) t)):=by
 refine hq_ λ POST Q_=>?_
 have hby:txT env (.mk 102 0 tx [] []) t=bts [39]++(tx++bts [39]):=by
  conv=>lhs;unfold txT
  rw[if_neg (by decide),if_neg (by decide),if_neg (by decide),if_neg (by decide),if_pos rfl]
 have a0:=xr_ 190 (by decide);have a1:=yz_ 190 (by decide);have a2:=yv_ 190 (by decide);have a3:=x4_ 190 (by decide);have a4:=xk_ 190 (by decide);have a5:=je_ 190 (by decide);have a6:=x5_ 190 (by decide);have a7:=jr_ 190 (by decide);have a8:=zdy 190 (by decide);have a9:=zhr;have hC:=q_ (zsv (c:=39) (y:=39) rfl (by decide) ht hu hB (by omega));clear hu
 go_in
 go_wp2_with (go_at_call 95;refine hC.o.mono ?_;rintro e w1 h1;replace h1:=q_ h1;obtain⟨v1,rfl,_⟩:=h1.o)
 try go_ret
 rw[Q_.o,hby];exact h1.o
theorem zzt {l:Nat}(hl:symL env t n=l) (hl2:l<256) (hB:B<=w.heap.size) (hu:BufV w B u b) (hs:b.size+8022<=90000000) :
 Calls prog 65 #[u,.iface 189 (.agg #[.int .u8 (l:Int),.int .i64 (n:Int)])] w (xi_ w B (b++txT env (.mk 101 (n:Int) noB [] []) t)):=by
 refine hq_ λ POST Q_=>?_
 have hby:txT env (.mk 101 (n:Int) noB [] []) t=bts [l]:=by
  conv=>lhs;unfold txT
  rw[if_neg (by decide),if_neg (by decide),if_neg (by decide),if_neg (by decide),if_neg (by decide),if_pos rfl,bc_,hl]
 have a0:=xr_ 189 (by decide);have a1:=yz_ 189 (by decide);have a2:=yv_ 189 (by decide);have a3:=x4_ 189 (by decide);have a4:=xk_ 189 (by decide);have a5:=je_ 189 (by decide);have a6:=x5_ 189 (by decide);have a7:=jr_ 189 (by decide);have a8:=zcl;have A:Fr w (w.alloc (.cells #[.int .u8 (l:Int),.int .i64 (n:Int)] 189)) (λ _=>False):=(Fr.refl w _).alloc _;have hu2:=q_ (BufV.fr hu A u_);have hz:=A.size;replace A:=q_ A;clear hu hl
 go_in
 go_wp2_with (at_builtin;refine zax rfl _ _ rfl l rfl hl2 hu2.o (by omega) (by omega) (by simp) rfl rfl ?_;intro v5 w5 hb5 hf5)
 try go_ret
 rw[Q_.o,hby];exact⟨_,rfl,hb5,(FrU.of A.o).trans hf5⟩
theorem zx5 (ih:NrOK w0 env m)(hm:ndTs ds<=m) (hP:∀ g,P g->g<B) (h0:w0.heap.size<=B) (hB:B<=w.heap.size) (hG:y1_ w0 w) (hu:BufV w B u b) (hs:b.size+8022*(1+ndTs ds)<=90000000) (ho:w.ownsRow 0 94 1 (.slice la ds.length lc) ds.length ((List.range ds.length).flatMap λ i=>[Y i])) (hl:∀ g,(Value.slice la ds.length lc).ownBlock=some g->P g) (hd:∀ i d,ds[i]?=some d->DaV env w P d (yb_ env t 0 i) (Y i)) :
 Calls prog 65 #[u,.iface 169 (.slice la ds.length lc)] w (xi_ w B (b++txT env (.mk 91 0 noB [] ds) t)):=by
 refine hq_ λ POST Q_=>?_
 have hby:txT env (.mk 91 0 noB [] ds) t=bts [91]++(jn 0 (txTs env t 0 0 false [] ds)++bts [93]):=by
  conv=>lhs;unfold txT
  rw[if_neg (by decide),if_neg (by decide),if_neg (by decide),if_neg (by decide),if_neg (by decide),if_neg (by decide),if_neg (by decide)]
  rfl
 have a0:=xr_ 169 (by decide);have a1:=yz_ 169 (by decide);have a2:=yv_ 169 (by decide);have a3:=x4_ 169 (by decide);have a4:=zdc;have hC:=q_ (nAll ih (t:=t) (o:=91) (c:=93) (y:=91) (z:=93) rfl rfl (by decide) (by decide) hm hP h0 hB hG hu hs ho hl hd);clear ih hP hu ho hl hd hG
 go_in
 go_wp2_with (go_at_call 96;refine hC.o.mono ?_;rintro e w1 h1;replace h1:=q_ h1;obtain⟨v1,rfl,_⟩:=h1.o)
 try go_ret
 rw[Q_.o,hby];exact h1.o
theorem zx4 (ih:NrOK w0 env m)(hm:ndTs ds<=m) (hP:∀ g,P g->g<B) (h0:w0.heap.size<=B) (hB:B<=w.heap.size) (hG:y1_ w0 w) (hu:BufV w B u b) (hs:b.size+8022*(1+ndTs ds)<=90000000) (ho:w.ownsRow 0 94 1 (.slice la ds.length lc) ds.length ((List.range ds.length).flatMap λ i=>[Y i])) (hl:∀ g,(Value.slice la ds.length lc).ownBlock=some g->P g) (hd:∀ i d,ds[i]?=some d->DaV env w P d (yb_ env t 0 i) (Y i)) :
 Calls prog 65 #[u,.iface 176 (.slice la ds.length lc)] w (xi_ w B (b++txT env (.mk 114 0 noB [] ds) t)):=by
 refine hq_ λ POST Q_=>?_
 have hby:txT env (.mk 114 0 noB [] ds) t=bts [40]++(jn 0 (txTs env t 0 0 false [] ds)++bts [41]):=by
  conv=>lhs;unfold txT
  rw[if_neg (by decide),if_neg (by decide),if_neg (by decide),if_neg (by decide),if_neg (by decide),if_neg (by decide),if_neg (by decide)]
  rfl
 have a0:=xr_ 176 (by decide);have a1:=yz_ 176 (by decide);have a2:=yv_ 176 (by decide);have a3:=x4_ 176 (by decide);have a4:=xk_ 176 (by decide);have a5:=je_ 176 (by decide);have a6:=x5_ 176 (by decide);have a7:=zar;have hC:=q_ (nAll ih (t:=t) (o:=40) (c:=41) (y:=40) (z:=41) rfl rfl (by decide) (by decide) hm hP h0 hB hG hu hs ho hl hd);clear ih hP hu ho hl hd hG
 go_in
 go_wp2_with (go_at_call 96;refine hC.o.mono ?_;rintro e w1 h1;replace h1:=q_ h1;obtain⟨v1,rfl,_⟩:=h1.o)
 try go_ret
 rw[Q_.o,hby];exact h1.o
theorem zzv (ih:NrOK w0 env m){ks:List BA}(hm:ndTs ds<=m) (hP:∀ g,P g->g<B) (h0:w0.heap.size<=B) (hB:B<=w.heap.size) (hG:y1_ w0 w) (hu:BufV w B u b) (hs:b.size+8022*(1+ndTs ds)<=90000000) (hk:∀ k∈ks,k.size<=4000) (ho:w.ownsRow 0 173 2 (.slice la ds.length lc) ds.length ((List.range ds.length).flatMap λ i=>[.string (ks.getD i noB),Y i])) (hl:∀ g,(Value.slice la ds.length lc).ownBlock=some g->P g) (hd:∀ i d,ds[i]?=some d->DaV env w P d (yb_ env t 0 i) (Y i)) :
 Calls prog 65 #[u,.iface 171 (.slice la ds.length lc)] w (xi_ w B (b++txT env (.mk 123 0 noB ks ds) t)):=by
 refine hq_ λ POST Q_=>?_
 have hby:txT env (.mk 123 0 noB ks ds) t=bts [123]++(jn 0 (txTs env t 0 0 true ks ds)++bts [125]):=by
  conv=>lhs;unfold txT
  rw[if_neg (by decide),if_neg (by decide),if_neg (by decide),if_neg (by decide),if_neg (by decide),if_neg (by decide),if_neg (by decide)]
  rfl
 have a0:=xr_ 171 (by decide);have a1:=yz_ 171 (by decide);have a2:=yv_ 171 (by decide);have a3:=x4_ 171 (by decide);have a4:=xk_ 171 (by decide);have a5:=zff;have hC:=q_ (nMap ih (t:=t) hm hP h0 hB hG hu hs hk ho hl hd);clear ih hP hu ho hl hd hG hk
 go_in
 go_wp2_with (go_at_call 97;refine hC.o.mono ?_;rintro e w1 h1;replace h1:=q_ h1;obtain⟨v1,rfl,_⟩:=h1.o)
 try go_ret
 rw[Q_.o,hby];exact h1.o
theorem zsp (ih:NrOK w0 env m) (hA:vq_ w0)(hn:n<=4000){v:Value}(hm:ndT d<=m) (hv:DaV env w P d (yb_ env t n 0) v) (hP:∀ g,P g->g<B) (h0:w0.heap.size<=B) (hB:B<=w.heap.size) (hG:y1_ w0 w) (hu:BufV w B u b) (hs:b.size+8022*(1+ndT d)<=90000000) :
 Calls prog 65 #[u,.iface 175 (.agg #[.int .i64 (n:Int),v])] w (xi_ w B (b++txT env (.mk 40 (n:Int) noB [] [d]) t)):=by
 refine hq_ λ POST Q_=>?_;have hby:True:=trivial;obtain⟨T,x,rfl⟩:=hv.iface;have a0:=xr_ 175 (by decide);have a1:=yz_ 175 (by decide);have a2:=yv_ 175 (by decide);have a3:=x4_ 175 (by decide);have a4:=xk_ 175 (by decide);have a5:=je_ 175 (by decide);have a6:=zas;have A:Fr w (w.alloc (.cells #[.int .i64 (n:Int),.iface T x] 175)) (λ _=>False):=(Fr.refl w _).alloc _;have hz:=A.size;have hC:=q_ (zyb ih hA hn hm (hv.fr A u_) hP h0 (by omega) (hG.fr A (by omega) (λ g f=>f.elim)) (BufV.fr hu A u_) hs);replace A:=q_ A
 clear ih hP hu hG hA hv hby
 go_in
 go_wp2_with (go_at_call 98;refine hC.o.mono ?_;rintro e w1 h1;replace h1:=q_ h1;obtain⟨v1,rfl,_⟩:=h1.o)
 try go_ret
 rw[Q_.o];exact h1.o.pre (FrU.of A.o)
theorem zzw (hA:vq_ w0):∀ m,NrOK w0 env m:=by
 intro m
 induction m with
 | zero=>intro d h;obtain⟨_,_,_,_,_⟩:=d;unfold ndT at h;omega
 | succ m ih=>
  intro d hm w P B t v u b hv hP h0 hB hG hu hs
  cases hv with
  | flat h hsy=>
   have hge:1<=ndT d:=by obtain⟨_,_,_,_,_⟩:=d;unfold ndT;omega
   cases h with
   | nothing=>exact zp1 hB hu (by omega)
   | truth b=>exact zvx hB hu (by omega)
   | num c n hc i0 i1=>exact zzu hA hc i0 i1 h0 hB hG hu (by omega)
   | text tx h=>exact zx3 h hB hu (by omega)
   | bytes tx h=>exact zvy h hB hu (by omega)
   | sym n l h=>exact zzt (hsy n l rfl).1 (hsy n l rfl).2 hB hu (by omega)
  | branch n h hd=>
   unfold ndT at hm hs;simp only[ndTs,a7_] at hm hs;exact zsp ih hA h (by omega) hd hP h0 hB hG hu hs
  | row Y hc ho hl hd=>
   unfold ndT at hm hs;obtain⟨la,lc,rfl⟩:=zf_ ho
   rcases hc with⟨rfl,rfl⟩|⟨rfl,rfl⟩
   ·exact zx5 ih (by omega) hP h0 hB hG hu hs ho hl hd
   ·exact zx4 ih (by omega) hP h0 hB hG hu hs ho hl hd
  | map Y hl hk ho hl2 hd=>
   unfold ndT at hm hs;obtain⟨la,lc,rfl⟩:=zf_ ho;exact zzv ih (by omega) hP h0 hB hG hu hs hk ho hl2 hd
theorem zhh (hA:vq_ w0){v:Value}(hv:DaV env w P d t v) (hk:w0.heap.size<=w.heap.size) (hG:y1_ w0 w) (hs:8022*ndT d<=90000000) :
 Calls prog 40 #[v] w λ e w'=>e=.returned (.string (txT env d t))/\Fr w w' (λ _=>False):=by
 refine hq_ λ POST Q_=>?_;obtain⟨T,x,rfl⟩:=hv.iface;have hC:=zzw hA (ndT d) d l_ w (λ g=>P g/\g<w.heap.size) w.heap.size t _ (.slice none 0 0) noB (hv.mono (λ g h1 h2=>⟨h2,h1⟩)) (λ g h=>h.2) hk l_ hG (World.ownsRow_nil _ _ _ _) (by show 0+_<=_;omega);rw[ze7] at hC;replace hC:=q_ hC;clear hv hG hA
 go_in
 go_wp2_with (go_at_call 65;refine hC.o.mono ?_;rintro e w1 ⟨v1,rfl,h1,hF1⟩;have hcv:=zox h1;replace hF1:=q_ hF1;replace h1:=q_ h1)
 try go_ret
 rw[Q_.o];exact⟨rfl,hF1.o.all.mono (λ g hg e=>by omega)⟩
end
end Go.Proofs.YthmjjpkjgjklmaaGreatDoor
