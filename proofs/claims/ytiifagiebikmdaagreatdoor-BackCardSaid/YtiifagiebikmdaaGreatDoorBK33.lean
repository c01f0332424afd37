import Derived.Test.YtiifagiebikmdaaGreatDoorBK12
import Derived.Test.YtiifagiebikmdaaGreatDoorBK23
import Derived.Test.YtiifagiebikmdaaGreatDoorBK11
import Derived.Test.YtiifagiebikmdaaGreatDoorBK32
import Derived.Test.YtiifagiebikmdaaGreatDoorBK25
import Derived.Deep.RegionWith
namespace Go.Proofs.YtiifagiebikmdaaGreatDoor
open Go.RowKit
inductive DaV (env:Nat→Option PB) (w:World) (P:Nat→Prop):DT→PT→Value→Prop
 | flat {d:DT} {t:PT} {v:Value} (h:FlatV d v) (hs:∀ n l:Nat,v=.iface 173 (.agg #[.int .u8 (l:Int),.int .i64 (n:Int)])→symL env t n=l∧l<256):DaV env w P d t v
 | branch (n:Nat) (h:n≤4000) {d:DT} {t:PT} {v:Value} (hd:DaV env w P d (subTy env t n 0) v):DaV env w P (.mk 40 (n:Int) noB [] [d]) t (.iface 162 (.agg #[.int .i64 (n:Int),v]))
 | row {c:Nat} {T:TypeId} {ds:List DT} {t:PT} {lv:Value} (Y:Nat→Value) (hc:(c=91∧T=156)∨(c=114∧T=163)) (ho:w.ownsRow 0 89 1 lv ds.length ((List.range ds.length).flatMap fun i=>[Y i])) (hP:∀ g,lv.ownBlock=some g→P g)
  (hd:∀ i d,ds[i]?=some d→DaV env w P d (subTy env t 0 i) (Y i)):DaV env w P (.mk c 0 noB [] ds) t (.iface T lv)
 | map {ks:List ByteArray} {ds:List DT} {t:PT} {lv:Value} (Y:Nat→Value) (hl:ks.length=ds.length) (hk:∀ k∈ks,k.size≤4000) (ho:w.ownsRow 0 160 2 lv ds.length ((List.range ds.length).flatMap fun i=>[.string (ks.getD i noB),Y i])) (hP:∀ g,lv.ownBlock=some g→P g)
  (hd:∀ i d,ds[i]?=some d→DaV env w P d (subTy env t 0 i) (Y i)):DaV env w P (.mk 123 0 noB ks ds) t (.iface 158 lv)
section
variable {env:Nat→Option PB} {w w':World} {P Q S:Nat→Prop} {d:DT} {t:PT} {v:Value}
theorem DaV.mono (h:DaV env w P d t v) (hQ:∀ g,g<w.heap.size→P g→Q g):DaV env w Q d t v:=by
 induction h with
 | flat h hs=>exact .flat h hs
 | branch n h hd ih=>exact .branch n h ih
 | row Y hc ho hP hd ih=>exact .row Y hc ho (fun g e=>hQ g (ho.lt g e).2 (hP g e)) ih
 | map Y hl hk ho hP hd ih=>exact .map Y hl hk ho (fun g e=>hQ g (ho.lt g e).2 (hP g e)) ih
theorem DaV.fr (h:DaV env w P d t v) (hf:Fr w w' S) (hS:∀ g,P g→¬ S g):DaV env w' P d t v:=by
 induction h with
 | flat h hs=>exact .flat h hs
 | branch n h hd ih=>exact .branch n h ih
 | row Y hc ho hP hd ih=>exact .row Y hc (ownsRow_fr ho hf (fun g e=>hS g (hP g e))) hP ih
 | map Y hl hk ho hP hd ih=>exact .map Y hl hk (ownsRow_fr ho hf (fun g e=>hS g (hP g e))) hP ih
theorem DaV.dat (h:DaV env w P d t v):DatV w P d v:=by
 induction h with
 | flat h hs=>exact .flat h
 | branch n h hd ih=>exact .branch n h ih
 | row Y hc ho hP hd ih=>exact .row Y hc ho hP ih
 | map Y hl hk ho hP hd ih=>exact .map Y hl hk ho hP ih
theorem DaV.iface (h:DaV env w P d t v):∃ T x,v=.iface T x:=h.dat.iface
theorem DaV.plain {T:TypeId}{x:Value}(h:FlatV d (.iface T x)) (hT:T≠173):DaV env w P d t (.iface T x):=.flat h (fun n l e=>by cases e;exact absurd rfl hT)
end
def RowT (env:Nat→Option PB) (w:World) (B:Nat) (P:Nat→Prop) (t:PT) (lv:Value) (ds:List DT):Prop:=
 ∃ Y:Nat→Value,w.ownsRow B 89 1 lv ds.length ((List.range ds.length).flatMap fun i=>[Y i])∧∀ i d,ds[i]?=some d→DaV env w P d (subTy env t 0 i) (Y i)
theorem get_snoc {α:Type}{l:List α}{a x:α}{i:Nat}(h:(l++[a])[i]?=some x):(i<l.length∧l[i]?=some x)∨(i=l.length∧x=a):=by
 by_cases hi:i<l.length
 ·rw[List.getElem?_append_left hi] at h
  exact .inl ⟨hi,h⟩
 ·rw[List.getElem?_append_right (by omega)] at h
  have h0:i-l.length=0:=by
   rcases Nat.eq_zero_or_pos (i-l.length) with e|e
   ·exact e
   ·rw[List.getElem?_eq_none (by simp;omega)] at h;cases h
  rw[h0] at h
  simp only[List.getElem?_cons_zero,Option.some.injEq] at h
  exact .inr ⟨by omega,h.symm⟩
section
variable {env:Nat→Option PB} {w w':World} {B:Nat} {P Q S:Nat→Prop} {t:PT} {lv:Value} {ds:List DT}
theorem RowT.nil (env:Nat→Option PB) (w:World) (B:Nat) (P:Nat→Prop) (t:PT):RowT env w B P t (.slice none 0 0) []:=⟨fun _=>.nilIface,World.ownsRow_nil _ _ _ _,fun i d h=>by simp at h⟩
theorem RowT.fr (h:RowT env w B P t lv ds) (hf:Fr w w' S) (hS:∀ g,P g→¬ S g) (hv:∀ g,lv.ownBlock=some g→¬ S g):RowT env w' B P t lv ds:=by
 obtain⟨Y,a,b⟩:=h
 exact⟨Y,ownsRow_fr a hf hv,fun i d e=>(b i d e).fr hf hS⟩
theorem RowT.grow {w1 w6:World}{lv v5 v:Value}{d:DT}{Y:Nat→Value}{c:Nat}(hY:∀ i d,ds[i]?=some d→DaV env w1 (fun g=>B≤g∧lv.ownBlock≠some g) d (subTy env t 0 i) (Y i)) (hd:DaV env w1 (fun g=>B≤g∧lv.ownBlock≠some g) d (subTy env t 0 ds.length) v) (hf:Fr w1 w6 (fun g=>lv.ownBlock=some g∨g=c)) (hc:c<B)
 (hl:v5.ownBlock=lv.ownBlock∨∃ h,v5.ownBlock=some h∧w1.heap.size≤h) (ho:w6.ownsRow B 89 1 v5 (ds.length+1) (((List.range ds.length).flatMap fun i=>[Y i])++[v])):RowT env w6 B (fun g=>B≤g∧v5.ownBlock≠some g) t v5 (ds++[d]):=by
 have up:∀ {d u v},DaV env w1 (fun g=>B≤g∧lv.ownBlock≠some g) d u v→DaV env w6 (fun g=>B≤g∧v5.ownBlock≠some g) d u v:=fun h=>by
  have h1:DaV env w1 (fun g=>(B≤g∧lv.ownBlock≠some g)∧g<w1.heap.size) _ _ _:=h.mono (fun g h1 h2=>⟨h2,h1⟩)
  refine(h1.fr hf (fun g hg e=>?_)).mono (fun g _ hg=>⟨hg.1.1,fun e=>?_⟩)
  ·rcases e with e|e
   ·exact hg.1.2 e
   ·have:=hg.1.1;omega
  ·rcases hl with h|⟨q,h,hq⟩
   ·exact hg.1.2 (h▸e)
   ·rw[h] at e
    have:=hg.2
    simp only[Option.some.injEq] at e
    omega
 refine⟨fun i=>if i<ds.length then Y i else v,?_,fun i e he=>?_⟩
 ·rw[List.length_append,List.length_singleton,List.range_succ,List.flatMap_append,flatMap_congr_range ds.length _ (fun i=>[Y i]) (fun i hi=>by simp[hi])]
  simpa using ho
 ·rcases get_snoc he with⟨hi,he⟩|⟨rfl,rfl⟩
  ·simp only[hi,if_true]
   exact up (hY i e he)
  ·simp only[Nat.lt_irrefl,if_false]
   exact up hd
theorem RowT.dat (h:RowT env w B P t lv ds) (hP:∀ g,g<w.heap.size→P g→Q g) (h2:∀ g,lv.ownBlock=some g→Q g){c:Nat}{T:TypeId}(hc:(c=91∧T=156)∨(c=114∧T=163)):DaV env w Q (.mk c 0 noB [] ds) t (.iface T lv):=by
 obtain⟨Y,a,b⟩:=h
 exact .row Y hc (own_zero a) h2 (fun i d e=>(b i d e).mono hP)
end
def RowE (env:Nat→Option PB) (w:World) (P:Nat→Prop) (t:PT) (es:List (ByteArray×DT)) (ys:List Value):Prop:=
 ∃ Y:Nat→Value,(ys=(List.range es.length).flatMap fun i=>[.string ((es.map Prod.fst).getD i noB),Y i])∧(∀ i e,es[i]?=some e→DaV env w P e.2 (subTy env t 0 i) (Y i))∧∀ e∈es,e.1.size≤4000
section
variable {env:Nat→Option PB} {w w':World} {B:Nat} {P Q S:Nat→Prop} {t:PT} {es:List (ByteArray×DT)} {ys:List Value}
theorem RowE.nil (env:Nat→Option PB) (w:World) (P:Nat→Prop) (t:PT):RowE env w P t [] []:=⟨fun _=>.nilIface,rfl,fun i d h=>by simp at h,fun e h=>by simp at h⟩
theorem RowE.fr (h:RowE env w P t es ys) (hf:Fr w w' S) (hS:∀ g,P g→¬ S g):RowE env w' P t es ys:=by
 obtain⟨Y,a,b,c⟩:=h
 exact⟨Y,a,fun i d e=>(b i d e).fr hf hS,c⟩
theorem RowE.grow {w1 w6:World}{lv v5 v:Value}{key:ByteArray}{d:DT}{c:Nat}(h:RowE env w1 (fun g=>B≤g∧lv.ownBlock≠some g) t es ys) (hd:DaV env w1 (fun g=>B≤g∧lv.ownBlock≠some g) d (subTy env t 0 es.length) v) (hk:key.size≤4000) (hf:Fr w1 w6 (fun g=>lv.ownBlock=some g∨g=c)) (hc:c<B)
 (hl:v5.ownBlock=lv.ownBlock∨∃ h,v5.ownBlock=some h∧w1.heap.size≤h):RowE env w6 (fun g=>B≤g∧v5.ownBlock≠some g) t (es++[(key,d)]) (ys++[.string key,v]):=by
 obtain⟨Y,a,b,k⟩:=h
 have up:∀ {d u v},DaV env w1 (fun g=>B≤g∧lv.ownBlock≠some g) d u v→DaV env w6 (fun g=>B≤g∧v5.ownBlock≠some g) d u v:=fun h=>by
  have h1:DaV env w1 (fun g=>(B≤g∧lv.ownBlock≠some g)∧g<w1.heap.size) _ _ _:=h.mono (fun g h1 h2=>⟨h2,h1⟩)
  refine(h1.fr hf (fun g hg e=>?_)).mono (fun g _ hg=>⟨hg.1.1,fun e=>?_⟩)
  ·rcases e with e|e
   ·exact hg.1.2 e
   ·have:=hg.1.1;omega
  ·rcases hl with h|⟨q,h,hq⟩
   ·exact hg.1.2 (h▸e)
   ·rw[h] at e
    have:=hg.2
    simp only[Option.some.injEq] at e
    omega
 refine⟨fun i=>if i<es.length then Y i else v,?_,fun i e he=>?_,fun e he=>?_⟩
 ·have hc2:=flatMap_congr_range es.length (fun i=>[Value.string (((es++[(key,d)]).map Prod.fst).getD i noB),if i<es.length then Y i else v]) (fun i=>[Value.string ((es.map Prod.fst).getD i noB),Y i]) (fun i hi=>by
   simp only[List.map_append,List.getD_eq_getElem?_getD]
   rw[List.getElem?_append_left (by simpa using hi),if_pos hi])
  rw[a,List.length_append,List.length_singleton,List.range_succ,List.flatMap_append,hc2]
  simp[List.getD_eq_getElem?_getD]
 ·rcases get_snoc he with⟨hi,he⟩|⟨rfl,rfl⟩
  ·simp only[hi,if_true]
   exact up (b i e he)
  ·simp only[Nat.lt_irrefl,if_false]
   exact up hd
 ·rcases List.mem_append.1 he with h|h
  ·exact k e h
  ·simp only[List.mem_singleton] at h
   subst h
   exact hk
theorem RowE.dat {lv:Value}(h:RowE env w P t es ys) (ho:w.ownsRow B 160 2 lv es.length ys) (hP:∀ g,g<w.heap.size→P g→Q g) (h2:∀ g,lv.ownBlock=some g→Q g):DaV env w Q (.mk 123 0 noB (es.map Prod.fst) (es.map Prod.snd)) t (.iface 158 lv):=by
 obtain⟨Y,a,b,k⟩:=h
 subst a
 refine .map Y (by simp) (fun x hx=>?_) (by rw[List.length_map];exact own_zero ho) h2 (fun i d e=>?_)
 ·obtain⟨e,he,rfl⟩:=List.mem_map.1 hx
  exact k e he
 ·rw[List.getElem?_map] at e
  obtain⟨q,hq,rfl⟩:=Option.map_eq_some_iff.1 e
  exact(b i q hq).mono hP
end
open Go.RowKit
def U8 (w:World) (B g:Nat):Prop:=B≤g∧∃ c fz,w.heap[g]?=some (.cells c 5 fz)
def FrU (B:Nat) (w w':World):Prop:=Fr w w' (U8 w B)
section
variable {a b c w w':World} {B:Nat} {v:Value} {x:ByteArray}
theorem FrU.refl (w:World):FrU B w w:=Fr.refl _ _
theorem FrU.trans (h:FrU B a b) (k:FrU B b c):FrU B a c:=Fr.trans h k (fun x hx ⟨h1,c,fz,h2⟩=>by
 by_cases hS:U8 a B x
 ·exact hS
 ·exact⟨h1,c,fz,by rw[← h.block x hx hS];exact h2⟩)
theorem FrU.all (h:FrU B w w'):Fr w w' (fun g=>B≤g):=Fr.mono h (fun _ _ e=>e.1)
theorem FrU.of (h:Fr w w' (fun _=>False)):FrU B w w':=Fr.mono h (fun _ _ f=>f.elim)
theorem FrU.size (h:FrU B w w'):w.heap.size≤w'.heap.size:=Fr.size h
theorem FrU.drew (h:FrU B w w'):FrU B w w'.drew:=Fr.drew h
theorem BufV.u8 (h:BufV w B v x){g:Nat}(e:v.ownBlock=some g):U8 w B g:=by
 refine⟨(h.own e).1,?_⟩
 rcases h.2 with⟨hn,_⟩|⟨g',cap,cur,hv,hb,hg,_⟩
 ·rw[hn] at e;simp[Value.ownBlock] at e
 ·rw[hv] at e
  simp[Value.ownBlock] at e
  subst e
  exact⟨_,_,hg⟩
theorem BufV.frx {S:Nat→Prop}(h:BufV w B v x) (hf:Fr w w' S) (hS:∀ g,v.ownBlock=some g→¬ S g):BufV w' B v x:=ownsRow_fr h hf hS
theorem BufV.still (h:BufV w B v x) (hs:Still w w'):BufV w' B v x:=h.frx ((Fr.refl w (fun _=>False)).still hs) (fun _ _ f=>f)
theorem FrU.blk (h:FrU B w w'){k:Nat}{cs:List Value}{t:TypeId}(hb:Blk w k cs t) (ht:t≠5):Blk w' k cs t:=Fr.blk h hb (fun ⟨_,c,fz,e⟩=>by
 unfold Blk at hb
 rw[hb] at e
 simp at e
 exact ht e.2.1)
end
def UPost (w:World) (B:Nat) (b:ByteArray) (e:Ending) (w':World):Prop:=∃ v',e=.returned v'∧BufV w' B v' b∧FrU B w w'
theorem UPost.pre {w0 w w':World}{B:Nat}{b:ByteArray}{e:Ending}(h:UPost w B b e w') (hf:FrU B w0 w):UPost w0 B b e w':=by
 obtain⟨v,h1,h2,h3⟩:=h
 exact⟨v,h1,h2,hf.trans h3⟩
theorem wp_put {ops:Array Oper}{rest:List Oper}{o:Oper}{a:Act}{Q:Exit→Act→World→Prop}(hgd:o.guard=none) (s x:Operand) (ho:o.op=.call { callee:=.builtin .append,args:=#[s,x],argTypes:=#[99,99] })
 {B g:Nat} {w:World} {v:Value} {b:ByteArray} {y:Int} (c:Nat) (hy:y=(c:Int)) (hc:c<256) (hb:BufV w B v b) (hsz:b.size≤100000000) (hB:B≤w.heap.size) (hg:g=w.heap.size) (hs:a.eval s=v) (hx:a.eval x=.slice (some ⟨g,0,none⟩) 1 1)
 (h:∀ v' w',BufV w' B v' (b++bts [c])→FrU B w w'→wpList Tryz.prog ops Q rest (a.put o.dst v') w'):wpList Tryz.prog ops Q (o::rest) a (w.alloc (.cells #[.int .u8 y] 5)):=by
 subst hy
 obtain⟨ti,hi1,hi2,hi3,hi4⟩:=info_parts i_u8
 refine wpList_append_own_at _ hgd _ _ 99 ho B 5 ti _ 1 1 u_u8s hi1 hi2 hi3 hi4 rfl (by decide) _ b.size (Lib.strCells b) hs (World.ownsRow.alloc hb _) ⟨g,0,none⟩ 1 1 [.int .u8 (c:Int)] hx rfl (news_new _ #[.int .u8 (c:Int)] _ _ hg) (by simp[Value.oneCell']) (by unfold maxLen;omega) (by omega) (by simp;omega) ?_
 intro v5 w5 ho5 hg5 _ _
 refine h v5 w5 ?_ ?_
 ·unfold BufV
  rw[strCells_append,strCells_one hc,ByteArray.size_append,bts_size]
  exact ho5
 ·exact Fr.mono (((Fr.refl w _).alloc _).grown hg5 (fun k hk _=>hk):Fr w w5 (fun g=>v.ownBlock=some g)) (fun g _ e=>hb.u8 e)
theorem wp_puts {ops:Array Oper}{rest:List Oper}{o:Oper}{a:Act}{Q:Exit→Act→World→Prop}(hgd:o.guard=none) (s x:Operand) (ho:o.op=.call { callee:=.builtin .append,args:=#[s,x],argTypes:=#[99,9] })
 {B:Nat} {w:World} {v:Value} {b t:ByteArray} (hb:BufV w B v b) (hsz:b.size≤100000000) (ht:t.size≤4000) (hB:B≤w.heap.size) (hs:a.eval s=v) (hx:a.eval x=.string t)
 (h:∀ v' w',BufV w' B v' (b++t)→FrU B w w'→wpList Tryz.prog ops Q rest (a.put o.dst v') w'):wpList Tryz.prog ops Q (o::rest) a w:=by
 obtain⟨ti,hi1,hi2,hi3,hi4⟩:=info_parts i_u8
 refine Lib.wpList_append_own_string _ hgd _ _ 99 9 ho B 5 ti u_u8s u_string hi1 hi2 hi3 hi4 _ b.size (Lib.strCells b) hs hb t hx (by unfold maxLen;omega) (by omega) hB ?_
 intro v5 w5 ho5 hg5 _
 refine h v5 w5 ?_ ?_
 ·unfold BufV
  rw[strCells_append,ByteArray.size_append]
  exact ho5
 ·exact Fr.mono ((Fr.refl w _).grown hg5 (fun k hk _=>hk):Fr w w5 (fun g=>v.ownBlock=some g)) (fun g _ e=>hb.u8 e)
def AppIntOK (w0:World):Prop:=∀ (W:World) (B:Nat),w0.heap.size≤B→B≤W.heap.size→SameG w0 W→∀ (u:Value) (b:ByteArray) (n:Int),-9223372036854775808≤n→n≤9223372036854775807→BufV W B u b→b.size≤100000000→
 Calls Tryz.prog 93 #[u,.int .i64 n,.int .i64 10] W (UPost W B (b++decB n))
theorem appInt_ok {w0:World}(h:Lib.TabIs Tryz.prog w0 "internal/strconv.uint64pow10" .u64 Lib.pow10Tab):AppIntOK w0:=by
 intro W B h0 hB hG u b n hn0 hn1 hb hs
 have hT:Lib.TabBelow Tryz.prog B W "internal/strconv.uint64pow10" .u64 Lib.pow10Tab:=fun W' hW'=>(show SameG w0 W' from fun g hg=>(hW'.block g (by omega)).trans (hG g hg)).var h
 refine(Tryz.strconv_AppendInt_10 B b.size n hn0 hn1 u (Lib.strCells b) W hb hB (by omega) hT).mono ?_
 rintro e w' ⟨v',rfl,ho,hbl,hk⟩
 refine⟨v',rfl,?_,hbl.os,hbl.tape,hbl.output,hbl.size,fun k hk1 hS=>?_⟩
 ·unfold BufV
  rw[strCells_append,ByteArray.size_append]
  have e1:(decB n).size=(Lib.itoa n).length:=by unfold decB;show(Lib.itoa n).toArray.size=_;rw[List.size_toArray]
  rw[e1]
  exact ho
 ·by_cases hkB:k<B
  ·exact hbl.block k hkB
  ·have hex:W.heap[k]?=some W.heap[k]:=Array.getElem?_eq_getElem hk1
   rw[hex]
   refine hk k _ hex (by simp) (fun c fz e=>hS ⟨by omega,c,fz,by rw[hex,e]⟩)
section
variable {w:World} {B:Nat} {u:Value} {b:ByteArray}
set_option maxHeartbeats 4000000 in
set_option maxRecDepth 100000 in
theorem nTruth {t:Bool}(hb:BufV w B u b) (hB:B≤w.heap.size) (hs:b.size≤100000000) :
 Calls Tryz.prog 92 #[u,.bool t] w (UPost w B (b++if t=true then bts [84] else bts [70])):=by
 obtain⟨POST,hPOST⟩:∃ Q,Hid (Q=UPost w B (b++if t=true then bts [84] else bts [70])):=⟨_,rfl⟩
 rw[← hPOST.out]
 replace hb:=hide hb
 cases t
 ·go_enter Tryz.func92,Tryz.ntmps92
  go_wp2_with (at_builtin;refine wp_put rfl _ _ rfl 70 rfl (by decide) hb.out hs hB rfl rfl rfl ?_;intro v5 w5 hb5 hf5)
  try go_ret
  rw[hPOST.out]
  exact⟨v5,rfl,hb5,hf5⟩
 ·go_enter Tryz.func92,Tryz.ntmps92
  go_wp2_with (at_builtin;refine wp_put rfl _ _ rfl 84 rfl (by decide) hb.out hs hB rfl rfl rfl ?_;intro v5 w5 hb5 hf5)
  try go_ret
  rw[hPOST.out]
  exact⟨v5,rfl,hb5,hf5⟩
set_option maxHeartbeats 4000000 in
set_option maxRecDepth 100000 in
theorem nMarked {c:Nat}{y:Int}{tx:ByteArray}(hy:y=(c:Int)) (hc:c<256) (ht:tx.size≤4000) (hb:BufV w B u b) (hB:B≤w.heap.size) (hs:b.size≤90000000) :
 Calls Tryz.prog 94 #[u,.int .u8 y,.string tx] w (UPost w B (b++(bts [c]++(tx++bts [c])))):=by
 subst hy
 obtain⟨POST,hPOST⟩:∃ Q,Hid (Q=UPost w B (b++(bts [c]++(tx++bts [c])))):=⟨_,rfl⟩
 rw[← hPOST.out]
 replace hb:=hide hb
 have hs1:(b++bts [c]).size≤90000001:=by rw[ByteArray.size_append,bts_size];simp only[List.length_singleton];omega
 have hs2:(b++bts [c]++tx).size≤90004001:=by rw[ByteArray.size_append];omega
 go_enter Tryz.func94,Tryz.ntmps94
 go_wp2_with (first
  |(at_builtin;refine wp_put rfl _ _ rfl c rfl hc hb.out (by omega) hB rfl rfl rfl ?_;intro v5 w5 hb5 hf5;have hB5:=hf5.size;replace hb5:=hide hb5;replace hf5:=hide hf5;clear hb)
  |(at_builtin;refine wp_puts rfl _ _ rfl hb5.out (by omega) ht (by omega) rfl rfl ?_;intro v6 w6 hb6 hf6;have hB6:=hf6.size;replace hb6:=hide hb6;replace hf6:=hide hf6;clear hb5)
  |(at_builtin;refine wp_put rfl _ _ rfl c rfl hc hb6.out (by omega) (by omega) rfl rfl rfl ?_;intro v7 w7 hb7 hf7))
 try go_ret
 rw[hPOST.out]
 refine⟨v7,rfl,?_,(hf5.out.trans hf6.out).trans hf7⟩
 rw[← ByteArray.append_assoc,← ByteArray.append_assoc]
 exact hb7
set_option maxHeartbeats 4000000 in
set_option maxRecDepth 100000 in
theorem nComma {n:Nat}(hb:BufV w B u b) (hB:B≤w.heap.size) (hs:b.size≤100000000) :
 Calls Tryz.prog 135 #[u,.int .i64 (n:Int)] w (UPost w B (b++if n=0 then noB else bts [44])):=by
 obtain⟨POST,hPOST⟩:∃ Q,Hid (Q=UPost w B (b++if n=0 then noB else bts [44])):=⟨_,rfl⟩
 rw[← hPOST.out]
 replace hb:=hide hb
 by_cases hn:n=0
 ·subst hn
  go_enter Tryz.func135,Tryz.ntmps135
  go_wp2_with fail
  try go_ret
  rw[hPOST.out]
  show UPost w B (b++noB) _ _
  rw[app_noB0]
  exact⟨u,rfl,hb.out,FrU.refl w⟩
 ·have hn':((n:Int)==0)=false:=by simp;omega
  rw[if_neg hn] at hPOST
  go_enter Tryz.func135,Tryz.ntmps135
  go_wp2_with (at_builtin;refine wp_put rfl _ _ rfl 44 rfl (by decide) hb.out hs hB rfl rfl rfl ?_;intro v5 w5 hb5 hf5)
  try go_ret
  rw[hPOST.out]
  exact⟨v5,rfl,hb5,hf5⟩
end
open Go.RowKit
mutual
theorem txT_size (env:Nat→Option PB):∀ (d:DT) (t:PT),okD d→(txT env d t).size+4011≤8022*ndT d
 | .mk k n tx ks ds,t,h=>by
  unfold okD at h
  have h1:=decB_size h.1.1 h.1.2.1
  have h2:=h.2.2.1
  have h4:=txTs_size env t n.toNat ks ds 0 0 (k==123) h.2.2.2.1 h.2.2.2.2.2
  have h5:=txTs_size env t n.toNat ks ds 0 0 false h.2.2.2.1 h.2.2.2.2.2
  unfold ndT txT
  split
  ·rw[bts_size];simp only[List.length_cons,List.length_nil];omega
  split
  ·split <;> (rw[bts_size];simp only[List.length_cons,List.length_nil];omega)
  split
  ·omega
  split
  ·simp only[ByteArray.size_append,bts_size,List.length_cons,List.length_nil];omega
  split
  ·simp only[ByteArray.size_append,bts_size,List.length_cons,List.length_nil];omega
  split
  ·rw[bts_size];simp only[List.length_cons,List.length_nil];omega
  split
  ·simp only[ByteArray.size_append,bts_size,List.length_cons,List.length_nil];omega
  ·unfold aroundB
   split
   ·simp only[ByteArray.size_append,bts_size,List.length_cons,List.length_nil];omega
   split <;> (simp only[ByteArray.size_append,bts_size,List.length_cons,List.length_nil];omega)
theorem txTs_size (env:Nat→Option PB) (t:PT) (n:Nat):∀ (ks:List ByteArray) (ds:List DT) (i q:Nat) (keyed:Bool),(∀ x∈ks,x.size≤4000)→okDs ds→(jn q (txTs env t n i keyed ks ds)).size≤8022*ndTs ds
 | _,[],_,_,_,_,_=>by simp only[txTs,jn];show(0:Nat)≤_;omega
 | ks,d::r,i,q,keyed,hk,h=>by
  unfold okDs at h
  have h1:=txT_size env d (subTy env t n i) h.1
  have h2:=txTs_size env t n ks.tail r (i+1) (q+1) keyed (fun x hx=>hk x (List.mem_of_mem_tail hx)) h.2
  have h3:(ks.headD noB).size≤4000:=by
   cases ks with
   | nil=>exact Nat.zero_le _
   | cons a l=>exact hk a (by simp)
  have e1:(if q=0 then noB else bts [44]).size≤1:=by
   split
   ·exact Nat.zero_le _
   ·rw[bts_size];exact Nat.le_refl _
  have e2:(if keyed=true then ks.headD noB++bts [58] else noB).size≤4001:=by
   split
   ·rw[ByteArray.size_append,bts_size];simp only[List.length_cons,List.length_nil];omega
   ·exact Nat.zero_le _
  simp only[txTs,jn,ndTs]
  simp only[ByteArray.size_append]
  omega
end
theorem txTs_take (env:Nat→Option PB) (t:PT) (n:Nat) (keyed:Bool):∀ (ds:List DT) (i:Nat) (ks:List ByteArray) (q:Nat),(txTs env t n i keyed ks ds).take q=txTs env t n i keyed ks (ds.take q)
 | [],i,ks,q=>by simp[txTs]
 | d::r,i,ks,0=>by simp[txTs]
 | d::r,i,ks,q+1=>by simp only[txTs,List.take_succ_cons];rw[txTs_take env t n keyed r (i+1) ks.tail q]
theorem upT_size (env:Nat→Option PB) (t:PT) (n:Nat) (keyed:Bool) (ks:List ByteArray) (ds:List DT) (q:Nat) (hk:∀ x∈ks,x.size≤4000) (h:okDs ds):(upT env t n keyed ks ds q).size≤8022*ndTs (ds.take q):=by
 unfold upT
 rw[txTs_take]
 exact txTs_size env t n ks (ds.take q) 0 0 keyed hk (okDs_take h q)
def NrOK (w0:World) (env:Nat→Option PB) (m:Nat):Prop:=∀ (d:DT),ndT d≤m→∀ (w:World) (P:Nat→Prop) (B:Nat) (t:PT) (v u:Value) (b:ByteArray),DaV env w P d t v→(∀ g,P g→g<B)→w0.heap.size≤B→B≤w.heap.size→SameG w0 w→BufV w B u b→b.size+8022*ndT d≤90000000→
 Calls Tryz.prog 67 #[u,v] w (UPost w B (b++txT env d t))
theorem SameG.fru {w0 w w':World}{B:Nat}(h:SameG w0 w) (hf:FrU B w w') (h0:w0.heap.size≤B) (hB:B≤w.heap.size):SameG w0 w':=h.fr hf.all (by omega) (fun g e=>by omega)
section
variable {w0 w:World} {env:Nat→Option PB} {m:Nat} {P:Nat→Prop} {B:Nat} {u:Value} {b:ByteArray} {t:PT}
set_option maxHeartbeats 8000000 in
set_option maxRecDepth 100000 in
theorem nAll (ih:NrOK w0 env m){ds:List DT}{la:Option Addr}{lc:Nat}{Y:Nat→Value}{o c:Nat}{y z:Int}(hy:y=(o:Int)) (hz:z=(c:Int)) (ho256:o<256) (hc256:c<256) (hm:ndTs ds≤m) (hP:∀ g,P g→g<B) (h0:w0.heap.size≤B) (hB:B≤w.heap.size) (hG:SameG w0 w) (hu:BufV w B u b) (hs:b.size+8022*(1+ndTs ds)≤90000000)
 (ho:w.ownsRow 0 89 1 (.slice la ds.length lc) ds.length ((List.range ds.length).flatMap fun i=>[Y i])) (hl:∀ g,(Value.slice la ds.length lc).ownBlock=some g→P g) (hd:∀ i d,ds[i]?=some d→DaV env w P d (subTy env t 0 i) (Y i)) :
 Calls Tryz.prog 95 #[u,.int .u8 y,.slice la ds.length lc,.int .u8 z] w (UPost w B (b++(bts [o]++(jn 0 (txTs env t 0 0 false [] ds)++bts [c])))):=by
 subst hy
 subst hz
 obtain⟨POST,hPOST⟩:∃ Q,Hid (Q=UPost w B (b++(bts [o]++(jn 0 (txTs env t 0 0 false [] ds)++bts [c])))):=⟨_,rfl⟩
 rw[← hPOST.out]
 have hok:okDs ds:=okDs_of (fun i d e=>(hd i d e).dat.ok)
 have hnl:=ndTs_len ds
 obtain⟨b1,hb1⟩:∃ b1,b1=b++bts [o]:=⟨_,rfl⟩
 have hb1s:b1.size=b.size+1:=by rw[hb1,ByteArray.size_append,bts_size];rfl
 have hbx:b++(bts [o]++(jn 0 (txTs env t 0 0 false [] ds)++bts [c]))=(b1++jn 0 (txTs env t 0 0 false [] ds))++bts [c]:=by rw[hb1];simp only[ByteArray.append_assoc]
 rw[hbx] at hPOST
 have start:Hid (∀ (v1:Value) (W:World),BufV W B v1 (b++bts [o])→FrU B w W→∃ q:Nat,Value.int .i64 0=.int .i64 (q:Int)∧q≤ds.length∧ds.length+1-q≤ds.length+1∧BufV W B v1 (b1++upT env t 0 false [] ds q)∧FrU B w W):=hide fun v1 W h1 h2=>⟨0,rfl,Nat.zero_le _,by omega,by rw[upT_zero,app_noB0,hb1];exact h1,h2⟩
 clear hb1 hbx
 replace ho:=hide ho
 replace hd:=hide hd
 replace hl:=hide hl
 replace hP:=hide hP
 replace hok:=hide hok
 replace hu:=hide hu
 replace hG:=hide hG
 go_enter Tryz.func95,Tryz.ntmps95
 go_wp2_with (at_builtin;refine wp_put rfl _ _ rfl o rfl ho256 hu.out (by omega) hB rfl rfl rfl ?_;intro v5 w5 hb5 hf5;have st1:=hide (start.out v5 w5 hb5 hf5);clear hb5 hf5)
 go_loopg [0,9,10,17] (ds.length+1) (fun m v0 v9 v10 v W=>∃ q:Nat,v=.int .i64 (q:Int)∧q≤ds.length∧ds.length+1-q≤m∧BufV W B v0 (b1++upT env t 0 false [] ds q)∧FrU B w W)
 case atStart=>exact st1.out
 case round=>
  clear start st1
  obtain⟨q,rfl,hq,hmq,hBu,hFw⟩:=hrel
  have hzr:=hFw.size
  by_cases hlt:q<ds.length
  ·have hlt':(q:Int)<(ds.length:Int):=by omega
   have hdq:ds[q]?=some ds[q]:=List.getElem?_eq_getElem hlt
   generalize ds[q]=d at hdq
   obtain⟨t1,t2⟩:=ndTs_take hdq
   have hsz:=upT_size env t 0 false [] ds q (by simp) hok.out
   have hst:b1++upT env t 0 false [] ds (q+1)=(b1++upT env t 0 false [] ds q++if q=0 then noB else bts [44])++txT env d (subTy env t 0 q):=by
    rw[upT_step hdq]
    simp only[itT,Bool.false_eq_true,if_false,noB_app0,ByteArray.append_assoc]
   have hcs:(if q=0 then noB else bts [44]).size≤1:=by
    split
    ·exact Nat.zero_le _
    ·rw[bts_size];exact Nat.le_refl _
   obtain⟨g,cap,hgc⟩:=own_form ho.out (by omega)
   cases hgc
   have hv:=hd.out q d hdq
   obtain⟨T,x,hx⟩:=hv.iface
   rw[hx] at hv
   have hkeep:∀ g,P g→¬ B≤g:=fun g h=>by have:=hP.out g h;omega
   have e0:wr.cell? ⟨g,q,none⟩=some (.iface T x):=by
    rw[← hx]
    exact row_item (ownsRow_fr ho.out hFw.all (fun g e=>hkeep g (hl.out g e))) hlt
   have hC1:=hide (nComma (n:=q) hBu (by omega) (by rw[ByteArray.size_append];omega))
   have hC2:Hid (∀ v1 w1,BufV w1 B v1 (b1++upT env t 0 false [] ds q++if q=0 then noB else bts [44])→FrU B wr w1→Calls Tryz.prog 67 #[v1,.iface T x] w1 (UPost w1 B (b1++upT env t 0 false [] ds (q+1)))):=hide (fun v1 w1 h1 h2=>by
    rw[hst]
    have hz2:=h2.size
    have hF:=hFw.trans h2
    exact ih d (by omega) w1 P B _ _ _ _ (hv.fr hF.all hkeep) hP.out h0 (by omega) (hG.out.fru hF h0 hB) h1 (by simp only[ByteArray.size_append];omega))
   have hq5:q≤90000000:=by omega
   clear hsz t1 t2 hst hkeep hcs hv hx
   replace hFw:=hide hFw
   replace hdq:=hide hdq
   replace hBu:=hide hBu
   go_wp2_with (first
    |(go_at_call 135;refine hC1.out.mono ?_;rintro e w1 ⟨v1,rfl,hb1,hf1⟩;replace hf1:=hide hf1;replace hb1:=hide hb1)
    |(go_at_call 67;refine(hC2.out _ _ hb1.out hf1.out).mono ?_;rintro e w2 ⟨v2,rfl,hb2,hf2⟩;replace hf2:=hide hf2;replace hb2:=hide hb2))
   go_roundg (ds.length+1-(q+1))
   case measure=>omega
   case rel=>exact⟨q+1,by simp,hlt,Nat.le_refl _,hb2.out,(hFw.out.trans hf1.out).trans hf2.out⟩
  ·have hlt':¬ ((q:Int)<(ds.length:Int)):=by omega
   have hsz:=upT_size env t 0 false [] ds q (by simp) hok.out
   rw[List.take_of_length_le (by omega)] at hsz
   rw[upT_all (by omega)] at hBu hsz
   have hs9:(b1++jn 0 (txTs env t 0 0 false [] ds)).size≤100000000:=by rw[ByteArray.size_append];omega
   clear hsz
   replace hFw:=hide hFw
   replace hBu:=hide hBu
   go_wp2_with (at_builtin;refine wp_put rfl _ _ rfl c rfl hc256 hBu.out hs9 (by omega) rfl rfl rfl ?_;intro v7 w7 hb7 hf7)
   try go_ret
   rw[hPOST.out]
   exact⟨_,rfl,hb7,hFw.out.trans hf7⟩
end
open Go.RowKit
theorem op_put {o:Oper}{a:Act}{K:Act→World→Prop}{Q:Exit→Act→World→Prop}(s x:Operand) (ho:o.op=.call { callee:=.builtin .append,args:=#[s,x],argTypes:=#[99,99] })
 {B g:Nat} {w W:World} {v:Value} {b:ByteArray} {y:Int} (c:Nat) (hy:y=(c:Int)) (hc:c<256) (hb:BufV w B v b) (hsz:b.size≤100000000) (hB:B≤w.heap.size) (hg:g=w.heap.size) (hs:a.eval s=v) (hx:a.eval x=.slice (some ⟨g,0,none⟩) 1 1) (hW:W=w.alloc (.cells #[.int .u8 y] 5))
 (h:∀ v' w',BufV w' B v' (b++bts [c])→FrU B w w'→K (a.put o.dst v') w'):o.wp Tryz.prog a W K Q:=by
 subst hy
 subst hW
 obtain⟨ti,hi1,hi2,hi3,hi4⟩:=info_parts i_u8
 obtain⟨v5,w5,hr,ho5,hg5,_,_⟩:=run_append_own_at (P:=Tryz.prog) (w.alloc (.cells #[.int .u8 (c:Int)] 5)) B 99 o.type 5 ti _ 1 1 u_u8s hi1 hi2 hi3 hi4 rfl (by decide) _ b.size (Lib.strCells b) (World.ownsRow.alloc hb _) ⟨g,0,none⟩ 1 1 [.int .u8 (c:Int)] rfl (news_new _ #[.int .u8 (c:Int)] _ _ hg) (by simp[Value.oneCell']) (by unfold maxLen;omega) (by omega) (by simp;omega)
 unfold Oper.wp execOp
 simp only[ho,resolve,invoke,builtin,Sem.run_bind,Sem.run_pure,Result.andThen_ok,List.map_toArray,List.map_cons,List.map_nil,hs,hx,hr]
 refine h v5 w5 ?_ ?_
 ·unfold BufV
  rw[strCells_append,strCells_one hc,ByteArray.size_append,bts_size]
  exact ho5
 ·exact Fr.mono (((Fr.refl w _).alloc _).grown hg5 (fun k hk _=>hk):Fr w w5 (fun g=>v.ownBlock=some g)) (fun g _ e=>hb.u8 e)
theorem op_puts {o:Oper}{a:Act}{K:Act→World→Prop}{Q:Exit→Act→World→Prop}(s x:Operand) (ho:o.op=.call { callee:=.builtin .append,args:=#[s,x],argTypes:=#[99,9] })
 {B:Nat} {w:World} {v:Value} {b t:ByteArray} (hb:BufV w B v b) (hsz:b.size≤100000000) (ht:t.size≤4000) (hB:B≤w.heap.size) (hs:a.eval s=v) (hx:a.eval x=.string t)
 (h:∀ v' w',BufV w' B v' (b++t)→FrU B w w'→K (a.put o.dst v') w'):o.wp Tryz.prog a w K Q:=by
 obtain⟨ti,hi1,hi2,hi3,hi4⟩:=info_parts i_u8
 obtain⟨v5,w5,hr,ho5,hg5,_⟩:=Lib.run_append_own_string (P:=Tryz.prog) w B 99 9 o.type 5 ti u_u8s u_string hi1 hi2 hi3 hi4 _ b.size (Lib.strCells b) hb t (by unfold maxLen;omega) (by omega) hB
 unfold Oper.wp execOp
 simp only[ho,resolve,invoke,builtin,Sem.run_bind,Sem.run_pure,Result.andThen_ok,List.map_toArray,List.map_cons,List.map_nil,hs,hx,hr]
 refine h v5 w5 ?_ ?_
 ·unfold BufV
  rw[strCells_append,ByteArray.size_append]
  exact ho5
 ·exact Fr.mono ((Fr.refl w _).grown hg5 (fun k hk _=>hk):Fr w w5 (fun g=>v.ownBlock=some g)) (fun g _ e=>hb.u8 e)
section
variable {w0 w:World} {env:Nat→Option PB} {m:Nat} {P:Nat→Prop} {B:Nat} {u:Value} {b:ByteArray} {t:PT}
set_option maxHeartbeats 8000000 in
set_option maxRecDepth 100000 in
theorem nMap (ih:NrOK w0 env m){ks:List ByteArray}{ds:List DT}{la:Option Addr}{lc:Nat}{Y:Nat→Value}(hm:ndTs ds≤m) (hP:∀ g,P g→g<B) (h0:w0.heap.size≤B) (hB:B≤w.heap.size) (hG:SameG w0 w) (hu:BufV w B u b) (hs:b.size+8022*(1+ndTs ds)≤90000000) (hk:∀ k∈ks,k.size≤4000)
 (ho:w.ownsRow 0 160 2 (.slice la ds.length lc) ds.length ((List.range ds.length).flatMap fun i=>[.string (ks.getD i noB),Y i])) (hl:∀ g,(Value.slice la ds.length lc).ownBlock=some g→P g) (hd:∀ i d,ds[i]?=some d→DaV env w P d (subTy env t 0 i) (Y i)) :
 Calls Tryz.prog 96 #[u,.slice la ds.length lc] w (UPost w B (b++(bts [123]++(jn 0 (txTs env t 0 0 true ks ds)++bts [125])))):=by
 obtain⟨POST,hPOST⟩:∃ Q,Hid (Q=UPost w B (b++(bts [123]++(jn 0 (txTs env t 0 0 true ks ds)++bts [125])))):=⟨_,rfl⟩
 rw[← hPOST.out]
 have hok:okDs ds:=okDs_of (fun i d e=>(hd i d e).dat.ok)
 have hnl:=ndTs_len ds
 obtain⟨b1,hb1⟩:∃ b1,b1=b++bts [123]:=⟨_,rfl⟩
 have hb1s:b1.size=b.size+1:=by rw[hb1,ByteArray.size_append,bts_size];rfl
 have hbx:b++(bts [123]++(jn 0 (txTs env t 0 0 true ks ds)++bts [125]))=(b1++jn 0 (txTs env t 0 0 true ks ds))++bts [125]:=by rw[hb1];simp only[ByteArray.append_assoc]
 rw[hbx] at hPOST
 have start:Hid (∀ (v1:Value) (W:World),BufV W B v1 (b++bts [123])→FrU B w W→∃ q:Nat,Value.int .i64 0=.int .i64 (q:Int)∧q≤ds.length∧ds.length+1-q≤ds.length+1∧BufV W B v1 (b1++upT env t 0 true ks ds q)∧FrU B w W):=hide fun v1 W h1 h2=>⟨0,rfl,Nat.zero_le _,by omega,by rw[upT_zero,app_noB0,hb1];exact h1,h2⟩
 clear hb1 hbx
 replace ho:=hide ho
 replace hd:=hide hd
 replace hl:=hide hl
 replace hP:=hide hP
 replace hok:=hide hok
 replace hu:=hide hu
 replace hG:=hide hG
 replace hk:=hide hk
 go_enter Tryz.func96,Tryz.ntmps96
 go_wp2_with (at_builtin;refine wp_put rfl _ _ rfl 123 rfl (by decide) hu.out (by omega) hB rfl rfl rfl ?_;intro v5 w5 hb5 hf5;have st1:=hide (start.out v5 w5 hb5 hf5);clear hb5 hf5)
 go_loopg [0,5,6,12] (ds.length+1) (fun m v0 v5 v6 v W=>∃ q:Nat,v=.int .i64 (q:Int)∧q≤ds.length∧ds.length+1-q≤m∧BufV W B v0 (b1++upT env t 0 true ks ds q)∧FrU B w W)
 case atStart=>exact st1.out
 case round=>
  clear start st1
  obtain⟨q,rfl,hq,hmq,hBu,hFw⟩:=hrel
  have hzr:=hFw.size
  by_cases hlt:q<ds.length
  ·have hlt':(q:Int)<(ds.length:Int):=by omega
   have hdq:ds[q]?=some ds[q]:=List.getElem?_eq_getElem hlt
   generalize ds[q]=d at hdq
   obtain⟨t1,t2⟩:=ndTs_take hdq
   have hsz:=upT_size env t 0 true ks ds q hk.out hok.out
   obtain⟨K,hK0⟩:∃ K,ks.getD q noB=K:=⟨_,rfl⟩
   obtain⟨C,hC0⟩:∃ C,C=b1++upT env t 0 true ks ds q++(if q=0 then noB else bts [44]):=⟨_,rfl⟩
   have hst:b1++upT env t 0 true ks ds (q+1)=((C++K)++bts [58])++txT env d (subTy env t 0 q):=by
    rw[upT_step hdq,hC0]
    simp only[itT,if_true,hK0,ByteArray.append_assoc]
   have hcs:(if q=0 then noB else bts [44]).size≤1:=by
    split
    ·exact Nat.zero_le _
    ·rw[bts_size];exact Nat.le_refl _
   have hK4:K.size≤4000:=by
    rw[← hK0,List.getD_eq_getElem?_getD]
    cases hkk:ks[q]? with
    | none=>exact Nat.zero_le _
    | some y=>exact hk.out y (List.mem_of_getElem? hkk)
   have hCs:C.size≤b1.size+8022*ndTs (ds.take q)+1:=by rw[hC0];simp only[ByteArray.size_append];omega
   obtain⟨g,cap,hgc⟩:=own_form ho.out (by omega)
   cases hgc
   have hv:=hd.out q d hdq
   obtain⟨T,x,hx⟩:=hv.iface
   rw[hx] at hv
   have hkeep:∀ g,P g→¬ B≤g:=fun g h=>by have:=hP.out g h;omega
   obtain⟨m0,m1⟩:=map_item (K:=fun i=>ks.getD i noB) (ownsRow_fr ho.out hFw.all (fun g e=>hkeep g (hl.out g e))) hlt
   rw[hx] at m1
   simp only[hK0] at m0
   obtain⟨wz,hwz⟩:∃ wz,wz=wr.alloc (.cells #[.string K,.iface T x] 160):=⟨_,rfl⟩
   have A0:Fr wr wz (fun _=>False):=hwz▸(Fr.refl wr _).alloc _
   have B0:Blk wz wr.heap.size [.string K,.iface T x] 160:=hwz▸Blk.new wr #[.string K,.iface T x] 160
   have hzz:=A0.size
   have hT:∀ W,Fr wz W (fun _=>False)→Calls Tryz.prog 135 #[u0,.int .i64 (q:Int)] W (fun e w'=>∃ v1,e=.returned v1∧Hid (BufV w' B v1 C∧FrU B w w'∧Blk w' wr.heap.size [.string K,.iface T x] 160)∧w'.cell? ⟨wr.heap.size,0,none⟩=some (.string K)):=by
    intro W hW
    have hz:=hW.size
    have huW:BufV W B u0 (b1++upT env t 0 true ks ds q):=(BufV.fr (BufV.fr hBu A0 (fun _ _ f=>f)) hW (fun _ _ f=>f))
    refine(nComma (n:=q) huW (by omega) (by rw[ByteArray.size_append];omega)).mono ?_
    rintro e w1 ⟨v1,rfl,hb1,hF1⟩
    have h2:=hF1.blk (hW.blk B0 (fun f=>f)) (by decide)
    refine⟨v1,rfl,hide ⟨hC0▸hb1,hFw.trans (((FrU.of A0).trans (FrU.of hW)).trans hF1),h2⟩,?_⟩
    rw[h2.cell 0]
    rfl
   have hD:∀ W v1,BufV W B v1 ((C++K)++bts [58])→FrU B w W→Calls Tryz.prog 67 #[v1,.iface T x] W (UPost W B (b1++upT env t 0 true ks ds (q+1))):=by
    intro W v1 hb1 hF1
    have hz:=hF1.size
    rw[hst]
    exact ih d (by omega) W P B _ _ v1 _ (hv.fr hF1.all hkeep) hP.out h0 (by omega) (hG.out.fru hF1 h0 hB) hb1 (by simp only[ByteArray.size_append,bts_size,List.length_cons,List.length_nil];omega)
   have hq5:q≤90000000:=by omega
   have hC9:C.size≤90000000:=by omega
   have hC8:(C++K).size≤90004000:=by rw[ByteArray.size_append];omega
   clear hsz t1 t2 hst hkeep hC0 hCs hcs hv hx
   replace hT:=hide hT
   replace hD:=hide hD
   replace hFw:=hide hFw
   replace hdq:=hide hdq
   replace hBu:=hide hBu
   replace A0:=hide A0
   replace B0:=hide B0
   go_wp2_with fail
   rw[← hwz]
   replace hwz:=hide hwz
   refine wp_regionAll (fun W=>W.cell? ⟨wr.heap.size,0,none⟩=some (.string K)) (by kernel_rfl) ?_
   refine wpAllC_take 0 ?v0 rfl (by kernel_rfl) (fun _ _ _ h=>h) (by kernel_rfl) ?y0 ?_
   case y0=>(rintro W h1;go_simp <;> rfl)
   refine wpAllC_take 1 ?v1 rfl (by kernel_rfl) (fun _ _ _ h=>h) (by kernel_rfl) ?y1 ?_
   case y1=>(rintro W h1;go_simp <;> rfl)
   refine wpAllC_take 3 ?v3 rfl (by kernel_rfl) (fun _ _ _ h=>h) (by kernel_rfl) ?y3 ?_
   case y3=>(rintro W h1;go_simp <;> rfl)
   refine wpAllC_take 4 ?v4 rfl (by kernel_rfl) (fun _ _ _ h=>h) (by kernel_rfl) ?y4 ?_
   case y4=>(rintro W h1;go_simp <;> rfl)
   refine wpAllC_one 2 rfl (by kernel_rfl) (by have:=B0.out.cell 0;exact this) (fun K1 hK1=>?_)
   go_simp
   refine(hT.out _ ((Fr.refl wz _).drew)).mono ?_
   rintro e w1 ⟨v1,rfl,hb1,c1⟩
   refine hK1 _ _ ?_
   clear hK1 K1
   refine wpAllC_one 5 rfl (by kernel_rfl) c1 (fun K1 hK1=>?_)
   rw[if_pos (show Region.wanted _ _=true by kernel_rfl)]
   refine op_puts _ _ rfl hb1.out.1 (by omega) hK4 (Nat.le_trans hB hb1.out.2.1.size) rfl rfl ?_
   intro v6 w6 hb6 hf6
   refine hK1 _ _ ?_
   clear hK1 K1
   have B6:=hf6.blk hb1.out.2.2 (by decide)
   have c60:=B6.cell 0
   have c61:=B6.cell 1
   simp only[List.getElem?_cons_zero,List.getElem?_cons_succ] at c60 c61
   have F6:=hide (hb1.out.2.1.trans hf6)
   replace hb6:=hide hb6
   replace B6:=hide B6
   clear hb1 hf6
   refine wpAllC_take 6 ?v6 rfl (by kernel_rfl) (fun _ _ _ h=>h) (by kernel_rfl) ?y6 ?_
   case y6=>(rintro W h1;go_simp <;> rfl)
   refine wpAllC_done (by kernel_rfl) c60 ?_ _
   go_wp2_with fail
   refine wp_regionAll (fun W=>W.cell? ⟨wr.heap.size,1,none⟩=some (.iface T x)) (by kernel_rfl) ?_
   refine wpAllC_take 0 ?vb0 rfl (by kernel_rfl) (fun _ _ _ h=>h) (by kernel_rfl) ?yb0 ?_
   case yb0=>(rintro W h1;go_simp <;> rfl)
   refine wpAllC_take 3 ?vb3 rfl (by kernel_rfl) (fun _ _ _ h=>h) (by kernel_rfl) ?yb3 ?_
   case yb3=>(rintro W h1;go_simp <;> rfl)
   refine wpAllC_take 4 ?vb4 rfl (by kernel_rfl) (fun _ _ _ h=>h) (by kernel_rfl) ?yb4 ?_
   case yb4=>(rintro W h1;go_simp <;> rfl)
   refine wpAllC_one 1 rfl (by kernel_rfl) c61 (fun K1 hK1=>?_)
   go_simp
   refine hK1 _ _ ?_
   clear hK1 K1
   have hz6:=F6.out.size
   have B7:=(B6.out.alloc (.cells #[.int .u8 58] 5))
   have c71:=B7.cell 1
   simp only[List.getElem?_cons_zero,List.getElem?_cons_succ] at c71
   refine wpAllC_one 2 rfl (by kernel_rfl) c71 (fun K1 hK1=>?_)
   rw[if_pos (show Region.wanted _ _=true by kernel_rfl)]
   refine op_put _ _ rfl 58 rfl (by decide) (w:=w6.drew) (BufV.still hb6.out (Still.drew _)) (by omega) (Nat.le_trans hB hz6) rfl rfl rfl rfl ?_
   intro v8 w8 hb8 hf8
   refine hK1 _ _ ?_
   clear hK1 K1
   have F8:=F6.out.drew.trans hf8
   have B8:=hf8.blk ((((Fr.refl w6 (fun _=>False)).drew)).blk B6.out id) (by decide)
   have c81:=B8.cell 1
   simp only[List.getElem?_cons_zero,List.getElem?_cons_succ] at c81
   refine wpAllC_one 5 rfl (by kernel_rfl) c81 (fun K1 hK1=>?_)
   go_simp
   refine(hD.out _ _ hb8 F8).mono ?_
   rintro e w9 ⟨v9,rfl,hb9,hf9⟩
   refine hK1 _ _ ?_
   clear hK1 K1
   have c91:=(hf9.blk B8 (by decide)).cell 1
   simp only[List.getElem?_cons_zero,List.getElem?_cons_succ] at c91
   have F9:=hide (F8.trans hf9)
   replace hb9:=hide hb9
   clear hf9 F8 B8 hb8 hf8 B7 F6
   refine wpAllC_take 6 ?vb6 rfl (by kernel_rfl) (fun _ _ _ h=>h) (by kernel_rfl) ?yb6 ?_
   case yb6=>(rintro W h1;go_simp <;> rfl)
   refine wpAllC_done (by kernel_rfl) c91 ?_ _
   go_wp2_with fail
   go_roundg (ds.length+1-(q+1))
   case measure=>omega
   case rel=>exact⟨q+1,by simp,hlt,Nat.le_refl _,hb9.out,F9.out⟩
  ·have hlt':¬ ((q:Int)<(ds.length:Int)):=by omega
   have hsz:=upT_size env t 0 true ks ds q hk.out hok.out
   rw[List.take_of_length_le (by omega)] at hsz
   rw[upT_all (by omega)] at hBu hsz
   have hs9:(b1++jn 0 (txTs env t 0 0 true ks ds)).size≤100000000:=by rw[ByteArray.size_append];omega
   clear hsz
   replace hFw:=hide hFw
   replace hBu:=hide hBu
   go_wp2_with (at_builtin;refine wp_put rfl _ _ rfl 125 rfl (by decide) hBu.out hs9 (by omega) rfl rfl rfl ?_;intro v7 w7 hb7 hf7)
   try go_ret
   rw[hPOST.out]
   exact⟨_,rfl,hb7,hFw.out.trans hf7⟩
end
open Go.RowKit
section
variable {w0 w:World} {env:Nat→Option PB} {m:Nat} {P:Nat→Prop} {B:Nat} {u:Value} {b:ByteArray} {t:PT}
theorem txT_branch (env:Nat→Option PB) (n:Nat) (d:DT) (t:PT):txT env (.mk 40 (n:Int) noB [] [d]) t=bts [60]++(decB n++(bts [58]++(txT env d (subTy env t n 0)++bts [62]))):=by
 conv=>lhs;unfold txT
 rw[if_neg (by decide),if_neg (by decide),if_neg (by decide),if_neg (by decide),if_neg (by decide),if_neg (by decide),if_pos rfl]
 simp only[txTs,jn,Bool.false_eq_true,if_false,if_true,noB_app0,app_noB0,Int.toNat_natCast]
set_option maxHeartbeats 8000000 in
set_option maxRecDepth 100000 in
theorem nBranch (ih:NrOK w0 env m) (hA:AppIntOK w0){n:Nat}(hn:n≤4000){d:DT}{v:Value}(hm:ndT d≤m) (hv:DaV env w P d (subTy env t n 0) v) (hP:∀ g,P g→g<B) (h0:w0.heap.size≤B) (hB:B≤w.heap.size) (hG:SameG w0 w) (hu:BufV w B u b) (hs:b.size+8022*(1+ndT d)≤90000000) :
 Calls Tryz.prog 97 #[u,.agg #[.int .i64 (n:Int),v]] w (UPost w B (b++txT env (.mk 40 (n:Int) noB [] [d]) t)):=by
 obtain⟨POST,hPOST⟩:∃ Q,Hid (Q=UPost w B (b++txT env (.mk 40 (n:Int) noB [] [d]) t)):=⟨_,rfl⟩
 rw[← hPOST.out]
 obtain⟨T,x,rfl⟩:=hv.iface
 have hdz:=decB_size (n:=(n:Int)) (by omega) (by omega)
 have htz:=txT_size env d (subTy env t n 0) hv.dat.ok
 have hkeep:∀ g,P g→¬ B≤g:=fun g h=>by have:=hP g h;omega
 obtain⟨wz,hwz⟩:∃ wz,wz=w.alloc (.cells #[.int .i64 (n:Int),.iface T x] 162):=⟨_,rfl⟩
 have A0:Fr w wz (fun _=>False):=hwz▸(Fr.refl w _).alloc _
 have B0:Blk wz w.heap.size [.int .i64 (n:Int),.iface T x] 162:=hwz▸Blk.new w #[.int .i64 (n:Int),.iface T x] 162
 have hzz:=A0.size
 have huz:BufV wz B u b:=BufV.fr hu A0 (fun _ _ f=>f)
 have hb60:(b++bts [60]).size≤b.size+1:=by rw[ByteArray.size_append,bts_size];exact Nat.le_refl _
 have hI:∀ W v1,BufV W B v1 (b++bts [60])→FrU B w W→Calls Tryz.prog 93 #[v1,.int .i64 (n:Int),.int .i64 10] W (UPost W B ((b++bts [60])++decB n)):=fun W v1 h1 h2=>hA W B h0 (by have:=h2.size;omega) (hG.fru h2 h0 hB) v1 _ (n:Int) (by omega) (by omega) h1 (by omega)
 have hD:∀ W v1,BufV W B v1 (((b++bts [60])++decB n)++bts [58])→FrU B w W→Calls Tryz.prog 67 #[v1,.iface T x] W (UPost W B ((((b++bts [60])++decB n)++bts [58])++txT env d (subTy env t n 0))):=fun W v1 h1 h2=>ih d hm W P B _ _ v1 _ (hv.fr h2.all hkeep) hP h0 (by have:=h2.size;omega) (hG.fru h2 h0 hB) h1 (by simp only[ByteArray.size_append,bts_size,List.length_cons,List.length_nil];omega)
 have hfin:b++txT env (.mk 40 (n:Int) noB [] [d]) t=((((b++bts [60])++decB n)++bts [58])++txT env d (subTy env t n 0))++bts [62]:=by rw[txT_branch];simp only[ByteArray.append_assoc]
 rw[hfin] at hPOST
 have hs1:((b++bts [60])++decB n).size≤90000000:=by rw[ByteArray.size_append];omega
 have hs2:((((b++bts [60])++decB n)++bts [58])++txT env d (subTy env t n 0)).size≤100000000:=by simp only[ByteArray.size_append,bts_size,List.length_cons,List.length_nil];omega
 replace hI:=hide hI
 replace hD:=hide hD
 clear hv ih hm hkeep hP hu hfin hG hA hdz htz
 have Fz:=hide (FrU.of (B:=B) A0)
 replace A0:=hide A0
 have c0:=B0.cell 0
 simp only[List.getElem?_cons_zero] at c0
 replace B0:=hide B0
 replace huz:=hide huz
 replace hwz:=hide hwz
 go_enter Tryz.func97,Tryz.ntmps97
 go_wp2_with fail
 rw[← hwz.out]
 refine wp_regionAll (fun W=>W.cell? ⟨w.heap.size,0,none⟩=some (.int .i64 (n:Int))) (by kernel_rfl) ?_
 refine wpAllC_take 0 ?v0 rfl (by kernel_rfl) (fun _ _ _ h=>h) (by kernel_rfl) ?y0 ?_
 case y0=>(rintro W h1;go_simp <;> rfl)
 refine wpAllC_take 3 ?v3 rfl (by kernel_rfl) (fun _ _ _ h=>h) (by kernel_rfl) ?y3 ?_
 case y3=>(rintro W h1;go_simp <;> rfl)
 refine wpAllC_take 4 ?v4 rfl (by kernel_rfl) (fun _ _ _ h=>h) (by kernel_rfl) ?y4 ?_
 case y4=>(rintro W h1;go_simp <;> rfl)
 refine wpAllC_one 1 rfl (by kernel_rfl) c0 (fun K1 hK1=>?_)
 go_simp
 refine hK1 _ _ ?_
 clear hK1 K1
 have c10:=(B0.out.alloc (.cells #[.int .u8 60] 5)).cell 0
 simp only[List.getElem?_cons_zero] at c10
 refine wpAllC_one 2 rfl (by kernel_rfl) c10 (fun K1 hK1=>?_)
 rw[if_pos (show Region.wanted _ _=true by kernel_rfl)]
 refine op_put _ _ rfl 60 rfl (by decide) (w:=wz.drew) (BufV.still huz.out (Still.drew _)) (by omega) (Nat.le_trans hB hzz) rfl rfl rfl rfl ?_
 intro v2 w2 hb2 hf2
 refine hK1 _ _ ?_
 clear hK1 K1
 have F2:=Fz.out.drew.trans hf2
 have B2:=hf2.blk ((((Fr.refl wz (fun _=>False)).drew)).blk B0.out id) (by decide)
 have c20:=B2.cell 0
 simp only[List.getElem?_cons_zero] at c20
 refine wpAllC_one 5 rfl (by kernel_rfl) c20 (fun K1 hK1=>?_)
 go_simp
 refine(hI.out _ _ hb2 F2).mono ?_
 rintro e w3 ⟨v3,rfl,hb3,hf3⟩
 refine hK1 _ _ ?_
 clear hK1 K1
 have B3:=hf3.blk B2 (by decide)
 have c30:=B3.cell 0
 have c31:=B3.cell 1
 simp only[List.getElem?_cons_zero,List.getElem?_cons_succ] at c30 c31
 have F3:=hide (F2.trans hf3)
 replace hb3:=hide hb3
 replace B3:=hide B3
 clear hf3 F2 B2 hb2 hf2
 refine wpAllC_take 6 ?v6 rfl (by kernel_rfl) (fun _ _ _ h=>h) (by kernel_rfl) ?y6 ?_
 case y6=>(rintro W h1;go_simp <;> rfl)
 refine wpAllC_done (by kernel_rfl) c30 ?_ _
 go_wp2_with fail
 refine wp_regionAll (fun W=>W.cell? ⟨w.heap.size,1,none⟩=some (.iface T x)) (by kernel_rfl) ?_
 refine wpAllC_take 0 ?vb0 rfl (by kernel_rfl) (fun _ _ _ h=>h) (by kernel_rfl) ?yb0 ?_
 case yb0=>(rintro W h1;go_simp <;> rfl)
 refine wpAllC_take 3 ?vb3 rfl (by kernel_rfl) (fun _ _ _ h=>h) (by kernel_rfl) ?yb3 ?_
 case yb3=>(rintro W h1;go_simp <;> rfl)
 refine wpAllC_take 4 ?vb4 rfl (by kernel_rfl) (fun _ _ _ h=>h) (by kernel_rfl) ?yb4 ?_
 case yb4=>(rintro W h1;go_simp <;> rfl)
 refine wpAllC_one 1 rfl (by kernel_rfl) c31 (fun K1 hK1=>?_)
 go_simp
 refine hK1 _ _ ?_
 clear hK1 K1
 have hz3:=F3.out.size
 have c71:=(B3.out.alloc (.cells #[.int .u8 58] 5)).cell 1
 simp only[List.getElem?_cons_zero,List.getElem?_cons_succ] at c71
 refine wpAllC_one 2 rfl (by kernel_rfl) c71 (fun K1 hK1=>?_)
 rw[if_pos (show Region.wanted _ _=true by kernel_rfl)]
 refine op_put _ _ rfl 58 rfl (by decide) (w:=w3.drew) (BufV.still hb3.out (Still.drew _)) (by omega) (Nat.le_trans hB hz3) rfl rfl rfl rfl ?_
 intro v8 w8 hb8 hf8
 refine hK1 _ _ ?_
 clear hK1 K1
 have F8:=F3.out.drew.trans hf8
 have B8:=hf8.blk ((((Fr.refl w3 (fun _=>False)).drew)).blk B3.out id) (by decide)
 have c81:=B8.cell 1
 simp only[List.getElem?_cons_zero,List.getElem?_cons_succ] at c81
 refine wpAllC_one 5 rfl (by kernel_rfl) c81 (fun K1 hK1=>?_)
 go_simp
 refine(hD.out _ _ hb8 F8).mono ?_
 rintro e w9 ⟨v9,rfl,hb9,hf9⟩
 refine hK1 _ _ ?_
 clear hK1 K1
 have c91:=(hf9.blk B8 (by decide)).cell 1
 simp only[List.getElem?_cons_zero,List.getElem?_cons_succ] at c91
 have F9:=F8.trans hf9
 have hz9:=F9.size
 replace F9:=hide F9
 replace hb9:=hide hb9
 clear hf9 F8 B8 hb8 hf8 F3
 refine wpAllC_take 6 ?vb6 rfl (by kernel_rfl) (fun _ _ _ h=>h) (by kernel_rfl) ?yb6 ?_
 case yb6=>(rintro W h1;go_simp <;> rfl)
 refine wpAllC_done (by kernel_rfl) c91 ?_ _
 go_wp2_with (at_builtin;refine wp_put rfl _ _ rfl 62 rfl (by decide) hb9.out hs2 (by omega) rfl rfl rfl ?_;intro v10 w10 hb10 hf10)
 try go_ret
 rw[hPOST.out]
 exact⟨_,rfl,hb10,F9.out.trans hf10⟩
end
end Go.Proofs.YtiifagiebikmdaaGreatDoor
