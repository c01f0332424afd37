import Derived.Test.YtiifagiebikmdaaGreatDoorW15
import Derived.Test.YtiifagiebikmdaaGreatDoorW25
import Derived.Test.YtiifagiebikmdaaGreatDoorW14
import Derived.Test.YtiifagiebikmdaaGreatDoorW33
import Derived.Test.YtiifagiebikmdaaGreatDoorW27
import Derived.Deep.RegionWith
import Derived.Test.YtiifagiebikmdaaGreatDoorA00
set_option maxHeartbeats 16000000
set_option maxRecDepth 100000
set_option linter.unusedSimpArgs false
open Go.Proofs.Tryz
namespace Go.Proofs.YtiifagiebikmdaaGreatDoor
open Go.RowKit
inductive DaV (env:Nat->Option PB) (w:World) (P:Nat->Prop):DT->PT->Value->Prop
 | flat {d:DT} {t:PT} {v:Value} (h:ziz d v) (hs:∀ n l:Nat,v=.iface 173 (.agg #[.int .u8 (l:Int),.int .i64 (n:Int)])->symL env t n=l/\l<256):DaV env w P d t v
 | branch (n:Nat) (h:n<=4000) {d:DT} {t:PT} {v:Value} (hd:DaV env w P d (xl_ env t n 0) v):DaV env w P (.mk 40 (n:Int) noB [] [d]) t (.iface 162 (.agg #[.int .i64 (n:Int),v]))
 | row {c:Nat} {T:TypeId} {ds:List DT} {t:PT} {lv:Value} (Y:Nat->Value) (hc:(c=91/\T=156)\/(c=114/\T=163)) (ho:w.ownsRow 0 89 1 lv ds.length ((List.range ds.length).flatMap λ i=>[Y i])) (hP:∀ g,lv.ownBlock=some g->P g)
  (hd:∀ i d,ds[i]?=some d->DaV env w P d (xl_ env t 0 i) (Y i)):DaV env w P (.mk c 0 noB [] ds) t (.iface T lv)
 | map {ks:List BA} {ds:List DT} {t:PT} {lv:Value} (Y:Nat->Value) (hl:ks.length=ds.length) (hk:∀ k∈ks,k.size<=4000) (ho:w.ownsRow 0 160 2 lv ds.length ((List.range ds.length).flatMap λ i=>[.string (ks.getD i noB),Y i])) (hP:∀ g,lv.ownBlock=some g->P g)
  (hd:∀ i d,ds[i]?=some d->DaV env w P d (xl_ env t 0 i) (Y i)):DaV env w P (.mk 123 0 noB ks ds) t (.iface 158 lv)
section
variable {env:Nat->Option PB} {w w':World} {P Q S:Nat->Prop} {d:DT} {t:PT} {v:Value}
theorem DaV.mono (h:DaV env w P d t v) (f:∀ g,g<w.heap.size->P g->Q g):DaV env w Q d t v:=by
 induction h with
 | flat h hs=>exact .flat h hs
 | branch n h hd ih=>exact .branch n h ih
 | row Y hc ho hP hd ih=>exact .row Y hc ho (λ g e=>f g (ho.lt g e).2 (hP g e)) ih
 | map Y hl hk ho hP hd ih=>exact .map Y hl hk ho (λ g e=>f g (ho.lt g e).2 (hP g e)) ih
theorem DaV.fr (h:DaV env w P d t v) (i:Fr w w' S) (f:∀ g,P g->¬ S g):DaV env w' P d t v:=by
 induction h with
 | flat h hs=>exact .flat h hs
 | branch n h hd ih=>exact .branch n h ih
 | row Y hc ho hP hd ih=>exact .row Y hc (za_ ho i (λ g e=>f g (hP g e))) hP ih
 | map Y hl hk ho hP hd ih=>exact .map Y hl hk (za_ ho i (λ g e=>f g (hP g e))) hP ih
theorem DaV.dat (h:DaV env w P d t v):DatV w P d v:=by
 induction h with
 | flat h hs=>exact .flat h
 | branch n h hd ih=>exact .branch n h ih
 | row Y hc ho hP hd ih=>exact .row Y hc ho hP ih
 | map Y hl hk ho hP hd ih=>exact .map Y hl hk ho hP ih
theorem DaV.iface (h:DaV env w P d t v):∃ T x,v=.iface T x:=h.dat.iface
theorem DaV.plain {T:TypeId}{x:Value}(h:ziz d (.iface T x)) (f:T≠173):DaV env w P d t (.iface T x):=.flat h (λ n l e=>by cases e;exact absurd rfl f)
end
def RowT (env:Nat->Option PB) (w:World) (B:Nat) (P:Nat->Prop) (t:PT) (lv:Value) (ds:List DT):Prop:=
 ∃ Y:Nat->Value,w.ownsRow B 89 1 lv ds.length ((List.range ds.length).flatMap λ i=>[Y i])/\∀ i d,ds[i]?=some d->DaV env w P d (xl_ env t 0 i) (Y i)
theorem znm {α:Type}{l:List α}{a x:α}{i:Nat}(h:(l++[a])[i]?=some x):(i<l.length/\l[i]?=some x)\/(i=l.length/\x=a):=by
 by_cases f:i<l.length
 ·rw[au_ f] at h;exact .inl ⟨f,h⟩
 ·rw[ar_ (by omega)] at h
  have h0:i-l.length=0:=by
   rcases bx_ (i-l.length) with e|e
   ·exact e
   ·rw[bn_ (by simp;omega)] at h;cases h
  rw[h0] at h;simp only[aa_,ag_] at h;exact .inr ⟨by omega,h.symm⟩
section
variable {env:Nat->Option PB} {w w':World} {B:Nat} {P Q S:Nat->Prop} {t:PT} {lv:Value} {ds:List DT}
theorem RowT.nil (env:Nat->Option PB) (w:World) (B:Nat) (P:Nat->Prop) (t:PT):RowT env w B P t (.slice none 0 0) []:=⟨λ _=>.nilIface,World.ownsRow_nil _ _ _ _,λ i d h=>by simp at h⟩
theorem RowT.fr (h:RowT env w B P t lv ds) (f:Fr w w' S) (j:∀ g,P g->¬ S g) (k:∀ g,lv.ownBlock=some g->¬ S g):RowT env w' B P t lv ds:=by
 obtain⟨Y,a,b⟩:=h;exact⟨Y,za_ a f k,λ i d e=>(b i d e).fr f j⟩
theorem RowT.grow {w1 j:World}{lv f v:Value}{d:DT}{Y:Nat->Value}{c:Nat}(n:∀ i d,ds[i]?=some d->DaV env w1 (λ g=>B<=g/\lv.ownBlock≠some g) d (xl_ env t 0 i) (Y i)) (hd:DaV env w1 (λ g=>B<=g/\lv.ownBlock≠some g) d (xl_ env t 0 ds.length) v) (o:Fr w1 j (λ g=>lv.ownBlock=some g\/g=c)) (hc:c<B)
 (hl:f.ownBlock=lv.ownBlock\/∃ h,f.ownBlock=some h/\w1.heap.size<=h) (ho:j.ownsRow B 89 1 f (ds.length+1) (((List.range ds.length).flatMap λ i=>[Y i])++[v])):RowT env j B (λ g=>B<=g/\f.ownBlock≠some g) t f (ds++[d]):=by
 have up:∀ {d u v},DaV env w1 (λ g=>B<=g/\lv.ownBlock≠some g) d u v->DaV env j (λ g=>B<=g/\f.ownBlock≠some g) d u v:=λ h=>by
  have h1:DaV env w1 (λ g=>(B<=g/\lv.ownBlock≠some g)/\g<w1.heap.size) _ _ _:=h.mono (λ g h1 l=>⟨l,h1⟩);refine(h1.fr o (λ g hg e=>?_)).mono (λ g _ hg=>⟨hg.1.1,λ e=>?_⟩)
  ·rcases e with e|e
   ·exact hg.1.2 e
   ·have:=hg.1.1;omega
  ·rcases hl with h|⟨q,h,p⟩
   ·exact hg.1.2 (h▸e)
   ·rw[h] at e;have:=hg.2;simp only[ag_] at e;omega
 refine⟨λ i=>if i<ds.length then Y i else v,?_,λ i e he=>?_⟩
 ·rw[ah_,am_,bh_,a8_,yi_ ds.length _ (λ i=>[Y i]) (λ i k=>by simp[k])]
  simpa using ho
 ·rcases znm he with⟨k,he⟩|⟨rfl,rfl⟩
  ·simp only[k,if_true];exact up (n i e he)
  ·simp only[Nat.lt_irrefl,if_false];exact up hd
theorem RowT.dat (h:RowT env w B P t lv ds) (hP:∀ g,g<w.heap.size->P g->Q g) (f:∀ g,lv.ownBlock=some g->Q g){c:Nat}{T:TypeId}(hc:(c=91/\T=156)\/(c=114/\T=163)):DaV env w Q (.mk c 0 noB [] ds) t (.iface T lv):=by
 obtain⟨Y,a,b⟩:=h;exact .row Y hc (yq_ a) f (λ i d e=>(b i d e).mono hP)
end
def RowE (env:Nat->Option PB) (w:World) (P:Nat->Prop) (t:PT) (es:List (BA×DT)) (ys:List Value):Prop:=
 ∃ Y:Nat->Value,(ys=(List.range es.length).flatMap λ i=>[.string ((es.map Prod.fst).getD i noB),Y i])/\(∀ i e,es[i]?=some e->DaV env w P e.2 (xl_ env t 0 i) (Y i))/\∀ e∈es,e.1.size<=4000
section
variable {env:Nat->Option PB} {w w':World} {B:Nat} {P Q S:Nat->Prop} {t:PT} {es:List (BA×DT)} {ys:List Value}
theorem RowE.nil (env:Nat->Option PB) (w:World) (P:Nat->Prop) (t:PT):RowE env w P t [] []:=⟨λ _=>.nilIface,rfl,λ i d h=>by simp at h,λ e h=>by simp at h⟩
theorem RowE.fr (h:RowE env w P t es ys) (j:Fr w w' S) (f:∀ g,P g->¬ S g):RowE env w' P t es ys:=by
 obtain⟨Y,a,b,c⟩:=h;exact⟨Y,a,λ i d e=>(b i d e).fr j f,c⟩
theorem RowE.grow {w1 l:World}{lv j v:Value}{key:BA}{d:DT}{c:Nat}(h:RowE env w1 (λ g=>B<=g/\lv.ownBlock≠some g) t es ys) (hd:DaV env w1 (λ g=>B<=g/\lv.ownBlock≠some g) d (xl_ env t 0 es.length) v) (hk:key.size<=4000) (p:Fr w1 l (λ g=>lv.ownBlock=some g\/g=c)) (hc:c<B)
 (hl:j.ownBlock=lv.ownBlock\/∃ h,j.ownBlock=some h/\w1.heap.size<=h):RowE env l (λ g=>B<=g/\j.ownBlock≠some g) t (es++[(key,d)]) (ys++[.string key,v]):=by
 obtain⟨Y,a,b,k⟩:=h
 have up:∀ {d u v},DaV env w1 (λ g=>B<=g/\lv.ownBlock≠some g) d u v->DaV env l (λ g=>B<=g/\j.ownBlock≠some g) d u v:=λ h=>by
  have h1:DaV env w1 (λ g=>(B<=g/\lv.ownBlock≠some g)/\g<w1.heap.size) _ _ _:=h.mono (λ g h1 n=>⟨n,h1⟩);refine(h1.fr p (λ g hg e=>?_)).mono (λ g _ hg=>⟨hg.1.1,λ e=>?_⟩)
  ·rcases e with e|e
   ·exact hg.1.2 e
   ·have:=hg.1.1;omega
  ·rcases hl with h|⟨q,h,r⟩
   ·exact hg.1.2 (h▸e)
   ·rw[h] at e;have:=hg.2;simp only[ag_] at e;omega
 refine⟨λ i=>if i<es.length then Y i else v,?_,λ i e he=>?_,λ e he=>?_⟩
 ·have o:=yi_ es.length (λ i=>[Value.string (((es++[(key,d)]).map Prod.fst).getD i noB),if i<es.length then Y i else v]) (λ i=>[Value.string ((es.map Prod.fst).getD i noB),Y i]) (λ i f=>by
   simp only[be_,bd_]
   rw[au_ (by simpa using f),if_pos f])
  rw[a,ah_,am_,bh_,a8_,o]
  simp[bd_]
 ·rcases znm he with⟨f,he⟩|⟨rfl,rfl⟩
  ·simp only[f,if_true];exact up (b i e he)
  ·simp only[Nat.lt_irrefl,if_false];exact up hd
 ·rcases bg_.1 he with h|h
  ·exact k e h
  ·simp only[bj_] at h;subst h;exact hk
theorem RowE.dat {lv:Value}(h:RowE env w P t es ys) (ho:w.ownsRow B 160 2 lv es.length ys) (hP:∀ g,g<w.heap.size->P g->Q g) (f:∀ g,lv.ownBlock=some g->Q g):DaV env w Q (.mk 123 0 noB (es.map Prod.fst) (es.map Prod.snd)) t (.iface 158 lv):=by
 obtain⟨Y,a,b,k⟩:=h;subst a;refine .map Y (by simp) (λ x l=>?_) (by rw[bf_];exact yq_ ho) f (λ i d e=>?_)
 ·obtain⟨e,he,rfl⟩:=bs_.1 l;exact k e he
 ·rw[bk_] at e;obtain⟨q,j,rfl⟩:=b4_.1 e;exact(b i q j).mono hP
end
open Go.RowKit
def U8 (w:World) (B g:Nat):Prop:=B<=g/\∃ c fz,w.heap[g]?=some (.cells c 5 fz)
def FrU (B:Nat) (w w':World):Prop:=Fr w w' (U8 w B)
section
variable {a b c w w':World} {B:Nat} {v:Value} {x:BA}
theorem FrU.refl (w:World):FrU B w w:=Fr.refl _ _
theorem FrU.trans (h:FrU B a b) (k:FrU B b c):FrU B a c:=Fr.trans h k (λ x hx ⟨h1,c,fz,h2⟩=>by
 by_cases e:U8 a B x
 ·exact e
 ·exact⟨h1,c,fz,by rw[<- h.block x hx e];exact h2⟩)
theorem FrU.all (h:FrU B w w'):Fr w w' (λ g=>B<=g):=Fr.mono h (λ _ _ e=>e.1)
theorem FrU.of (h:Fr w w' (λ _=>False)):FrU B w w':=Fr.mono h v_
theorem FrU.size (h:FrU B w w'):w.heap.size<=w'.heap.size:=Fr.size h
theorem FrU.drew (h:FrU B w w'):FrU B w w'.drew:=Fr.drew h
theorem BufV.u8 (h:BufV w B v x){g:Nat}(e:v.ownBlock=some g):U8 w B g:=by
 refine⟨(h.own e).1,?_⟩
 rcases h.2 with⟨hn,_⟩|⟨g',i,j,f,hb,hg,_⟩
 ·rw[hn] at e;simp[Value.ownBlock] at e
 ·rw[f] at e
  simp[Value.ownBlock] at e
  subst e;exact⟨_,_,hg⟩
theorem BufV.frx {S:Nat->Prop}(h:BufV w B v x) (f:Fr w w' S) (e:∀ g,v.ownBlock=some g->¬ S g):BufV w' B v x:=za_ h f e
theorem BufV.still (h:BufV w B v x) (hs:zd_ w w'):BufV w' B v x:=h.frx ((Fr.refl w (λ _=>False)).still hs) u_
theorem FrU.blk (h:FrU B w w'){k:Nat}{cs:List Value}{t:TypeId}(hb:Blk w k cs t) (f:t≠5):Blk w' k cs t:=Fr.blk h hb (λ ⟨_,c,fz,e⟩=>by
 unfold Blk at hb
 rw[hb] at e
 simp at e
 exact f e.2.1)
end
def xf_ (w:World) (B:Nat) (b:BA) (e:Ending) (w':World):Prop:=∃ v',e=.returned v'/\BufV w' B v' b/\FrU B w w'
theorem xf_.pre {w0 w w':World}{B:Nat}{b:BA}{e:Ending}(h:xf_ w B b e w') (i:FrU B w0 w):xf_ w0 B b e w':=by
 obtain⟨v,h1,f,g⟩:=h;exact⟨v,h1,f,i.trans g⟩
theorem zaz {f:Array Oper}{i:List Oper}{o:Oper}{a:Act}{Q:Exit->Act->World->Prop}(p:o.guard=none) (s x:Operand) (ho:o.op=.call { callee:=.builtin .append,args:=#[s,x],argTypes:=#[99,99] })
 {B g:Nat} {w:World} {v:Value} {b:BA} {y:Int} (c:Nat) (E:y=(c:Int)) (hc:c<256) (hb:BufV w B v b) (G:b.size<=100000000) (hB:B<=w.heap.size) (hg:g=w.heap.size) (hs:a.eval s=v) (D:a.eval x=.slice (some ⟨g,0,none⟩) 1 1)
 (h:∀ j w',BufV w' B j (b++bts [c])->FrU B w w'->wpList prog f Q i (a.put o.dst j) w'):wpList prog f Q (o::i) a (w.alloc (.cells #[.int .u8 y] 5)):=by
 subst E;obtain⟨ti,q,r,z,A⟩:=info_parts i_u8;refine wpList_append_own_at _ p _ _ 99 ho B 5 ti _ 1 1 zqc q r z A rfl (by decide) _ b.size (Lib.strCells b) hs (World.ownsRow.alloc hb _) ⟨g,0,none⟩ 1 1 [.int .u8 (c:Int)] D rfl (z7_ _ #[.int .u8 (c:Int)] _ _ hg) (by simp[Value.oneCell']) (by unfold maxLen;omega) (by omega) (by simp;omega) ?_;intro F l C n _ _;refine h F l ?_ ?_
 ·unfold BufV;rw[y7_,jy_ hc,av_,yh_];exact C
 ·exact Fr.mono (((Fr.refl w _).alloc _).grown n (λ k hk _=>hk):Fr w l (λ g=>v.ownBlock=some g)) (λ g _ e=>hb.u8 e)
theorem zvw {f:Array Oper}{i:List Oper}{o:Oper}{a:Act}{Q:Exit->Act->World->Prop}(p:o.guard=none) (s x:Operand) (ho:o.op=.call { callee:=.builtin .append,args:=#[s,x],argTypes:=#[99,9] })
 {B:Nat} {w:World} {v:Value} {b t:BA} (hb:BufV w B v b) (E:b.size<=100000000) (F:t.size<=4000) (hB:B<=w.heap.size) (hs:a.eval s=v) (C:a.eval x=.string t)
 (h:∀ j w',BufV w' B j (b++t)->FrU B w w'->wpList prog f Q i (a.put o.dst j) w'):wpList prog f Q (o::i) a w:=by
 obtain⟨ti,q,r,y,z⟩:=info_parts i_u8;refine Lib.wpList_append_own_string _ p _ _ 99 9 ho B 5 ti zqc zer q r y z _ b.size (Lib.strCells b) hs hb t C (by unfold maxLen;omega) (by omega) hB ?_;intro D l A n _;refine h D l ?_ ?_
 ·unfold BufV;rw[y7_,av_];exact A
 ·exact Fr.mono ((Fr.refl w _).grown n (λ k hk _=>hk):Fr w l (λ g=>v.ownBlock=some g)) (λ g _ e=>hb.u8 e)
def je_ (w0:World):Prop:=∀ (W:World) (B:Nat),w0.heap.size<=B->B<=W.heap.size->xd_ w0 W->∀ (u:Value) (b:BA) (n:Int),-9223372036854775808<=n->n<=9223372036854775807->BufV W B u b->b.size<=100000000->
 Calls prog 93 #[u,.int .i64 n,.int .i64 10] W (xf_ W B (b++decB n))
theorem zsv {w0:World}(h:Lib.TabIs prog w0 "internal/strconv.uint64pow10" .u64 Lib.pow10Tab):je_ w0:=by
 intro W B h0 hB o u b n z A hb hs
 have q:Lib.TabBelow prog B W "internal/strconv.uint64pow10" .u64 Lib.pow10Tab:=λ W' r=>(show xd_ w0 W' from λ g hg=>(r.block g (by omega)).trans (o g hg)).var h
 refine(Tryz.strconv_AppendInt_10 B b.size n z A u (Lib.strCells b) W hb hB (by omega) q).mono ?_;rintro e w' ⟨C,rfl,ho,f,hk⟩;refine⟨C,rfl,?_,f.os,f.tape,f.output,f.size,λ k s p=>?_⟩
 ·unfold BufV;rw[y7_,av_]
  have j:(decB n).size=(Lib.itoa n).length:=by unfold decB;show(Lib.itoa n).toArray.size=_;rw[List.size_toArray]
  rw[j];exact ho
 ·by_cases y:k<B
  ·exact f.block k y
  ·have i:W.heap[k]?=some W.heap[k]:=Array.getElem?_eq_getElem s;rw[i];refine hk k _ i (by simp) (λ c l e=>p ⟨by omega,c,l,by rw[i,e]⟩)
section
variable {w:World} {B:Nat} {u:Value} {b:BA}
theorem zyr {t:Bool}(hb:BufV w B u b) (hB:B<=w.heap.size) (hs:b.size<=100000000) :
 Calls prog 92 #[u,.bool t] w (xf_ w B (b++if t=true then bts [84] else bts [70])):=by
 refine hq_ λ j h=>?_;replace hb:=q_ hb;cases t
 ·go_in
  go_wp2_with (at_builtin;refine zaz rfl _ _ rfl 70 rfl (by decide) hb.o hs hB rfl rfl rfl ?_;intro g i e f)
  try go_ret
  rw[h.o];exact⟨g,rfl,e,f⟩
 ·go_in
  go_wp2_with (at_builtin;refine zaz rfl _ _ rfl 84 rfl (by decide) hb.o hs hB rfl rfl rfl ?_;intro g i e f)
  try go_ret
  rw[h.o];exact⟨g,rfl,e,f⟩
theorem zrj {c:Nat}{y:Int}{tx:BA}(n:y=(c:Int)) (hc:c<256) (l:tx.size<=4000) (hb:BufV w B u b) (hB:B<=w.heap.size) (hs:b.size<=90000000) :
 Calls prog 94 #[u,.int .u8 y,.string tx] w (xf_ w B (b++(bts [c]++(tx++bts [c])))):=by
 subst n;refine hq_ λ q i=>?_;replace hb:=q_ hb
 have z:(b++bts [c]).size<=90000001:=by rw[av_,yh_];simp only[am_];omega
 have A:(b++bts [c]++tx).size<=90004001:=by rw[av_];omega
 go_in
 go_wp2_with (first
  |(at_builtin;refine zaz rfl _ _ rfl c rfl hc hb.o (by omega) hB rfl rfl rfl ?_;intro C E e f;have r:=f.size;replace e:=q_ e;replace f:=q_ f;clear hb)
  |(at_builtin;refine zvw rfl _ _ rfl e.o (by omega) l (by omega) rfl rfl ?_;intro D F h g;have s:=g.size;replace h:=q_ h;replace g:=q_ g;clear e)
  |(at_builtin;refine zaz rfl _ _ rfl c rfl hc h.o (by omega) (by omega) rfl rfl rfl ?_;intro p G j k))
 try go_ret
 rw[i.o];refine⟨p,rfl,?_,(f.o.trans g.o).trans k⟩;rw[<- az_,<- az_];exact j
theorem zvi {n:Nat}(hb:BufV w B u b) (hB:B<=w.heap.size) (hs:b.size<=100000000) :
 Calls prog 135 #[u,.int .i64 (n:Int)] w (xf_ w B (b++if n=0 then noB else bts [44])):=by
 refine hq_ λ i e=>?_;replace hb:=q_ hb
 by_cases hn:n=0
 ·subst hn
  go_in
  go_wp2_with fail
  try go_ret
  rw[e.o];show xf_ w B (b++noB) _ _;rw[zdb];exact⟨u,rfl,hb.o,FrU.refl w⟩
 ·have j:((n:Int)==0)=false:=by simp;omega
  rw[if_neg hn] at e
  go_in
  go_wp2_with (at_builtin;refine zaz rfl _ _ rfl 44 rfl (by decide) hb.o hs hB rfl rfl rfl ?_;intro h k f g)
  try go_ret
  rw[e.o];exact⟨h,rfl,f,g⟩
end
open Go.RowKit
mutual
theorem zbp (env:Nat->Option PB):∀ (d:DT) (t:PT),okD d->(txT env d t).size+4011<=8022*ndT d
 | .mk k n tx ks ds,t,h=>by
  unfold okD at h;have h1:=zbi h.1.1 h.1.2.1;have e:=h.2.2.1;have f:=zcl env t n.toNat ks ds 0 0 (k==123) h.2.2.2.1 h.2.2.2.2.2;have g:=zcl env t n.toNat ks ds 0 0 false h.2.2.2.1 h.2.2.2.2.2;unfold ndT txT;split
  ·rw[yh_];simp only[aq_,ao_];omega
  split
  ·split<;>(rw[yh_];simp only[aq_,ao_];omega)
  split
  ·omega
  split
  ·simp only[av_,yh_,aq_,ao_];omega
  split
  ·simp only[av_,yh_,aq_,ao_];omega
  split
  ·rw[yh_];simp only[aq_,ao_];omega
  split
  ·simp only[av_,yh_,aq_,ao_];omega
  ·unfold zsu;split
   ·simp only[av_,yh_,aq_,ao_];omega
   split<;>(simp only[av_,yh_,aq_,ao_];omega)
theorem zcl (env:Nat->Option PB) (t:PT) (n:Nat):∀ (ks:List BA) (ds:List DT) (i q:Nat) (e:Bool),(∀ x∈ks,x.size<=4000)->okDs ds->(jn q (txTs env t n i e ks ds)).size<=8022*ndTs ds
 | _,[],_,_,_,_,_=>by simp only[txTs,jn];show(0:Nat)<=_;omega
 | ks,d::r,i,q,e,hk,h=>by
  unfold okDs at h;have h1:=zbp env d (xl_ env t n i) h.1;have k:=zcl env t n ks.tail r (i+1) (q+1) e (λ x f=>hk x (List.mem_of_mem_tail f)) h.2
  have o:(ks.headD noB).size<=4000:=by
   cases ks with
   | nil=>exact ak_ _
   | cons a l=>exact hk a (by simp)
  have g:(if q=0 then noB else bts [44]).size<=1:=by
   split
   ·exact ak_ _
   ·rw[yh_];exact l_
  have j:(if e=true then ks.headD noB++bts [58] else noB).size<=4001:=by
   split
   ·rw[av_,yh_];simp only[aq_,ao_];omega
   ·exact ak_ _
  simp only[txTs,jn,ndTs];simp only[av_];omega
end
theorem zjb (env:Nat->Option PB) (t:PT) (n:Nat) (keyed:Bool):∀ (ds:List DT) (i:Nat) (ks:List BA) (q:Nat),(txTs env t n i keyed ks ds).take q=txTs env t n i keyed ks (ds.take q)
 | [],i,ks,q=>by simp[txTs]
 | d::r,i,ks,0=>by simp[txTs]
 | d::r,i,ks,q+1=>by simp only[txTs,List.take_succ_cons];rw[zjb env t n keyed r (i+1) ks.tail q]
theorem vv_ (env:Nat->Option PB) (t:PT) (n:Nat) (keyed:Bool) (ks:List BA) (ds:List DT) (q:Nat) (hk:∀ x∈ks,x.size<=4000) (h:okDs ds):(upT env t n keyed ks ds q).size<=8022*ndTs (ds.take q):=by
 unfold upT;rw[zjb];exact zcl env t n ks (ds.take q) 0 0 keyed hk (zjz h q)
def NrOK (w0:World) (env:Nat->Option PB) (m:Nat):Prop:=∀ (d:DT),ndT d<=m->∀ (w:World) (P:Nat->Prop) (B:Nat) (t:PT) (v u:Value) (b:BA),DaV env w P d t v->(∀ g,P g->g<B)->w0.heap.size<=B->B<=w.heap.size->xd_ w0 w->BufV w B u b->b.size+8022*ndT d<=90000000->
 Calls prog 67 #[u,v] w (xf_ w B (b++txT env d t))
theorem xd_.fru {w0 w w':World}{B:Nat}(h:xd_ w0 w) (f:FrU B w w') (h0:w0.heap.size<=B) (hB:B<=w.heap.size):xd_ w0 w':=h.fr f.all (by omega) (λ g e=>by omega)
section
variable {w0 w:World} {env:Nat->Option PB} {m:Nat} {P:Nat->Prop} {B:Nat} {u:Value} {b:BA} {t:PT}
theorem nAll (ih:NrOK w0 env m){ds:List DT}{K:Option Addr}{L:Nat}{Y:Nat->Value}{o c:Nat}{y z:Int}(hy:y=(o:Int)) (hz:z=(c:Int)) (a8:o<256) (a3:c<256) (hm:ndTs ds<=m) (hP:∀ g,P g->g<B) (h0:w0.heap.size<=B) (hB:B<=w.heap.size) (E:xd_ w0 w) (hu:BufV w B u b) (hs:b.size+8022*(1+ndTs ds)<=90000000)
 (ho:w.ownsRow 0 89 1 (.slice K ds.length L) ds.length ((List.range ds.length).flatMap λ i=>[Y i])) (hl:∀ g,(Value.slice K ds.length L).ownBlock=some g->P g) (hd:∀ i d,ds[i]?=some d->DaV env w P d (xl_ env t 0 i) (Y i)) :
 Calls prog 95 #[u,.int .u8 y,.slice K ds.length L,.int .u8 z] w (xf_ w B (b++(bts [o]++(jn 0 (txTs env t 0 0 false [] ds)++bts [c])))):=by
 subst hy;subst hz;refine hq_ λ b4 M=>?_;have C:okDs ds:=zfp (λ i d e=>(hd i d e).dat.ok);have b8:=zbt ds;obtain⟨b1,j⟩:∃ b1,b1=b++bts [o]:=⟨_,rfl⟩
 have b6:b1.size=b.size+1:=by rw[j,av_,yh_];rfl
 have R:b++(bts [o]++(jn 0 (txTs env t 0 0 false [] ds)++bts [c]))=(b1++jn 0 (txTs env t 0 0 false [] ds))++bts [c]:=by rw[j];simp only[az_]
 rw[R] at M;have Z:H_ (∀ (k:Value) (W:World),BufV W B k (b++bts [o])->FrU B w W->∃ q:Nat,Value.int .i64 0=.int .i64 (q:Int)/\q<=ds.length/\ds.length+1-q<=ds.length+1/\BufV W B k (b1++upT env t 0 false [] ds q)/\FrU B w W):=q_ λ k W h1 s=>⟨0,rfl,ak_ _,by omega,by rw[zcj,zdb,j];exact h1,s⟩;clear j R;replace ho:=q_ ho;replace hd:=q_ hd;replace hl:=q_ hl;replace hP:=q_ hP;replace C:=q_ C;replace hu:=q_ hu;replace E:=q_ E
 go_in
 go_wp2_with (at_builtin;refine zaz rfl _ _ rfl o rfl a8 hu.o (by omega) hB rfl rfl rfl ?_;intro v5 w5 O U;have X:=q_ (Z.o v5 w5 O U);clear O U)
 go_loopg [0,9,10,17] (ds.length+1) (λ m v0 v9 d2 v W=>∃ q:Nat,v=.int .i64 (q:Int)/\q<=ds.length/\ds.length+1-q<=m/\BufV W B v0 (b1++upT env t 0 false [] ds q)/\FrU B w W)
 case atStart=>exact X.o
 case round=>
  clear Z X;obtain⟨q,rfl,hq,b7,l,f⟩:=hrel;have d1:=f.size
  by_cases I:q<ds.length
  ·have a7:(q:Int)<(ds.length:Int):=by omega
   have p:ds[q]?=some ds[q]:=an_ I;generalize ds[q]=d at p;obtain⟨t1,t2⟩:=zbe p;have r:=vv_ env t 0 false [] ds q (by simp) C.o
   have V:b1++upT env t 0 false [] ds (q+1)=(b1++upT env t 0 false [] ds q++if q=0 then noB else bts [44])++txT env d (xl_ env t 0 q):=by
    rw[zck p];simp only[itT,a3_,if_false,ja_,az_]
   have a4:(if q=0 then noB else bts [44]).size<=1:=by
    split
    ·exact ak_ _
    ·rw[yh_];exact l_
   obtain⟨g,b5,a6⟩:=zh_ ho.o (by omega);cases a6;have D:=hd.o q d p;obtain⟨T,x,J⟩:=D.iface;rw[J] at D
   have H:∀ g,P g->¬ B<=g:=λ g h=>by have:=hP.o g h;omega
   have e0:wr.cell? ⟨g,q,none⟩=some (.iface T x):=by
    rw[<- J];exact ztl (za_ ho.o f.all (λ g e=>H g (hl.o g e))) I
   have a0:=q_ (zvi (n:=q) l (by omega) (by rw[av_];omega))
   have a1:H_ (∀ k w1,BufV w1 B k (b1++upT env t 0 false [] ds q++if q=0 then noB else bts [44])->FrU B wr w1->Calls prog 67 #[k,.iface T x] w1 (xf_ w1 B (b1++upT env t 0 false [] ds (q+1)))):=q_ (λ k w1 h1 s=>by
    rw[V]
    have d0:=s.size
    have N:=f.trans s
    exact ih d (by omega) w1 P B _ _ _ _ (D.fr N.all H) hP.o h0 (by omega) (E.o.fru N h0 hB) h1 (by simp only[av_];omega))
   have b9:q<=90000000:=by omega
   clear r t1 t2 V H a4 D J;replace f:=q_ f;replace p:=q_ p;replace l:=q_ l
   go_wp2_with (first
    |(go_at_call 135;refine a0.o.mono ?_;rintro e w1 ⟨k,rfl,j,A⟩;replace A:=q_ A;replace j:=q_ j)
    |(go_at_call 67;refine(a1.o _ _ j.o A.o).mono ?_;rintro e w2 ⟨v2,rfl,F,G⟩;replace G:=q_ G;replace F:=q_ F))
   go_roundg (ds.length+1-(q+1))
   case measure=>omega
   case rel=>exact⟨q+1,by simp,I,l_,F.o,(f.o.trans A.o).trans G.o⟩
  ·have a7:¬ ((q:Int)<(ds.length:Int)):=by omega
   have r:=vv_ env t 0 false [] ds q (by simp) C.o;rw[bu_ (by omega)] at r;rw[ze9 (by omega)] at l r
   have a9:(b1++jn 0 (txTs env t 0 0 false [] ds)).size<=100000000:=by rw[av_];omega
   clear r;replace f:=q_ f;replace l:=q_ l
   go_wp2_with (at_builtin;refine zaz rfl _ _ rfl c rfl a3 l.o a9 (by omega) rfl rfl rfl ?_;intro v7 w7 a2 a5)
   try go_ret
   rw[M.o];exact⟨_,rfl,a2,f.o.trans a5⟩
end
end Go.Proofs.YtiifagiebikmdaaGreatDoor
