import Derived.Test.YthmjjpkjgjklmaaGreatDoorW04
import Derived.Test.YthmjjpkjgjklmaaGreatDoorW00
import Derived.Test.YthmjjpkjgjklmaaGreatDoorW03
import Derived.Deep.DeepCutAuto
import Derived.Test.YthmjjpkjgjklmaaGreatDoorW01
import Derived.Test.YthmjjpkjgjklmaaGreatDoorA00
set_option maxHeartbeats 16000000
set_option maxRecDepth 100000
set_option linter.unusedSimpArgs false
namespace Go.Proofs.YthmjjpkjgjklmaaGreatDoor
open Go.RowKit
variable {v:List Value}{w' w5:World}{S:Nat->Prop}{base size:Nat}{e:TypeId}{o:Obj}
def jk_ (k:Nat) (n:Int) (tx:BA) (vk vs:Value):List Value:=[.int .u8 (k:Int),.int .i64 n,.string tx,vk,vs]
inductive DVal (w:World) (P:Nat->Prop):DT->List Value->Prop
 | mk {k:Nat} {n:Int} {tx:BA} {ks:List BA} {ds:List DT} {vk vs:Value} (X:Nat->List Value)
  (hk:w.ownsRow 0 9 1 vk ks.length (ks.map Value.string)) (hkP:∀ g,vk.ownBlock=some g->P g)
  (hs:w.ownsRow 0 32 5 vs ds.length ((List.range ds.length).flatMap X)) (hsP:∀ g,vs.ownBlock=some g->P g)
  (hd:∀ i d,ds[i]?=some d->DVal w P d (X i)):DVal w P (.mk k n tx ks ds) (jk_ k n tx vk vs)
theorem DVal.mono {w:World}{P Q:Nat->Prop}{d:DT}(h:DVal w P d v) (hQ:∀ g,g<w.heap.size->P g->Q g):DVal w Q d v:=by
 induction h with
 | mk X hk hkP hs hsP hd ih=>exact .mk X hk (λ g e=>hQ g (hk.lt g e).2 (hkP g e)) hs (λ g e=>hQ g (hs.lt g e).2 (hsP g e)) ih
theorem DVal.fr {w:World}{P:Nat->Prop}{d:DT}(h:DVal w P d v) (hf:Fr w w' S) (hS:∀ g,P g->¬ S g):DVal w' P d v:=by
 induction h with
 | mk X hk hkP hs hsP hd ih=>exact .mk X (zb_ hk hf (λ g e=>hS g (hkP g e))) hkP (zb_ hs hf (λ g e=>hS g (hsP g e))) hsP ih
theorem DVal.len {w:World}{P:Nat->Prop}{d:DT}(h:DVal w P d v):v.length=5:=by cases h;rfl
theorem DVal.kind {w:World}{P:Nat->Prop}{k:Nat}{n:Int}{tx:BA}{ks:List BA}{ds:List DT}{vk vs:Value}(h:DVal w P (.mk k n tx ks ds) (jk_ k n tx vk vs)) (c:Nat):DVal w P (.mk c n tx ks ds) (jk_ c n tx vk vs):=by
 generalize hv:jk_ k n tx vk vs=v at h
 cases h with
 | mk X hk hkP hs hsP hd=>
  simp only[jk_,List.cons.injEq,and_true] at hv;obtain⟨_,_,_,rfl,rfl⟩:=hv;exact .mk X hk hkP hs hsP hd
theorem vm_ {w:World}{v:Value}{n:Nat}{xs:List Value}(h:w.ownsRow base e size v n xs):w.ownsRow 0 e size v n xs:=by
 refine⟨h.1,?_⟩
 rcases h.2 with h0|⟨g,cap,cur,a,b,c⟩
 ·exact .inl h0
 ·exact .inr ⟨g,cap,cur,a,aj_ _,c⟩
def zb6 (w:World) (B:Nat) (P:Nat->Prop) (vs:Value) (ds:List DT):Prop:=
 ∃ X:Nat->List Value,w.ownsRow B 32 5 vs ds.length ((List.range ds.length).flatMap X)/\∀ i d,ds[i]?=some d->DVal w P d (X i)
theorem zb6.nil (w:World) (B:Nat) (P:Nat->Prop):zb6 w B P (.slice none 0 0) []:=⟨λ _=>[],World.ownsRow_nil _ _ _ _,λ i d h=>by simp at h⟩
theorem zb6.mono {w:World}{B:Nat}{P Q:Nat->Prop}{vs:Value}{ds:List DT}(h:zb6 w B P vs ds) (hQ:∀ g,g<w.heap.size->P g->Q g):zb6 w B Q vs ds:=by
 obtain⟨X,a,b⟩:=h;exact⟨X,a,λ i d e=>(b i d e).mono hQ⟩
theorem zb6.fr {w:World}{B:Nat}{P:Nat->Prop}{vs:Value}{ds:List DT}(h:zb6 w B P vs ds) (hf:Fr w w' S) (hS:∀ g,P g->¬ S g) (hv:∀ g,vs.ownBlock=some g->¬ S g):zb6 w' B P vs ds:=by
 obtain⟨X,a,b⟩:=h;exact⟨X,zb_ a hf hv,λ i d e=>(b i d e).fr hf hS⟩
theorem z2_ (n:Nat) (X Y:Nat->List Value) (h:∀ i,i<n->X i=Y i):(List.range n).flatMap X=(List.range n).flatMap Y:=by
 induction n with
 | zero=>rfl
 | succ n ih=>rw[bi_,a5_,a5_,ih (λ i hi=>h i (by omega))];simp[h n (by omega)]
theorem zb6.snoc {w:World}{B:Nat}{P:Nat->Prop}{vs':Value}{ds:List DT}{d:DT}{X:Nat->List Value}(hX:∀ i d,ds[i]?=some d->DVal w P d (X i)) (hd:DVal w P d v)
 (hf:Fr w w' S) (hS:∀ g,P g->¬ S g) (ho:w'.ownsRow B 32 5 vs' (ds.length+1) ((List.range ds.length).flatMap X++v)):zb6 w' B P vs' (ds++[d]):=by
 refine⟨λ i=>if i<ds.length then X i else v,?_,λ i e he=>?_⟩
 ·rw[al_,ai_,bi_,a5_,z2_ ds.length _ X (λ i hi=>by simp[hi])]
  simpa using ho
 ·by_cases hi:i<ds.length
  ·rw[av_ hi] at he;simp only[hi,if_true];exact(hX i e he).fr hf hS
  ·rw[aw_ (by omega)] at he
   have h0:i-ds.length=0:=by
    rcases bw_ (i-ds.length) with h|h
    ·exact h
    ·rw[bm_ (by simp;omega)] at he;cases he
   rw[h0] at he;simp only[aa_,ad_] at he;subst he;simp only[hi,if_false];exact hd.fr hf hS
mutual
def isT (ts:List TR) (k:Nat):PT->Prop
 | .leaf c _=>ts[k]?=some ⟨c,[]⟩
 | .wrap c _ t=>∃ j,ts[k]?=some ⟨c,[j]⟩/\isT ts j t
 | .alts _ l=>∃ js,ts[k]?=some ⟨40,js⟩/\isTs ts js l
def isTs (ts:List TR) (js:List Nat):List PT->Prop
 | []=>js=[]
 | t::r=>∃ j q,js=j::q/\isT ts j t/\isTs ts q r
end
def PT.isAlts:PT->Bool
 | .alts _ _=>true
 | _=>false
mutual
def okT (env:Nat->Option PB):PT->Prop
 | .leaf c _=>zu_ c=true\/(z0_ c=true/\∃ pb,env c=some pb)
 | .wrap c _ t=>(c=91\/c=123)/\okT env t
 | .alts _ l=>l≠[]/\okTs env l
def okTs (env:Nat->Option PB):List PT->Prop
 | []=>True
 | t::r=>t.isAlts=false/\okT env t/\okTs env r
end
def okB (env:Nat->Option PB):PB->Prop
 | .recd fs=>∀ f∈fs,okT env f.ty
 | .enum l _=>(∀ c∈l.map Prod.fst,0<c)/\l.length<=300
 | .bytes n=>n<=9
def zes (env:Nat->Option PB):Prop:=∀ c pb,env c=some pb->okB env pb
def zl3 (w:World) (P:Nat->Prop) (tv:Value) (ts:List TR):Prop:=
 ∃ xs,w.ownsRow 0 66 2 tv ts.length xs/\(∀ g,tv.ownBlock=some g->P g)/\
  ∀ k t,ts[k]?=some t->∃ sv,xs[2*k]?=some (.int .u8 (t.kind:Int))/\xs[2*k+1]?=some sv/\w.ownsRow 0 3 1 sv t.subs.length (t.subs.map λ (n:Nat)=>Value.int .i64 (n:Int))/\∀ g,sv.ownBlock=some g->P g
def zjf (w:World) (P:Nat->Prop) (ts:List TR) (pb:PB) (so:Int) (fv:Value) (sb:BA) (n:Int):Prop:=
 (∃ a m c,fv=.slice a m c)/\(∀ g,fv.ownBlock=some g->P g)/\
 match pb with
 | .recd fs=>so=114/\∃ xs,w.ownsRow 0 69 10 fv fs.length xs/\∀ q f,fs[q]?=some f->∃ num:Nat,xs[10*q+1]?=some (.int .i64 (num:Int))/\isT ts num f.ty
 | .enum l _=>so=101/\sb.data.toList.map UInt8.toNat=l.map Prod.fst
 | .bytes k=>so=102/\n=(k:Int)
structure ZAt (w:World) (P:Nat->Prop) (bz:Nat) (ts:List TR) (env:Nat->Option PB):Prop where
 zP:P bz
 z:∃ tv zs,Blk w bz (tv::zs) 42/\zl3 w P tv ts/\
  ∀ k,k<6->∀ pb,env (65+k)=some pb->∃ (so:Int) (fv:Value) (sb:BA) (o n:Int),(∀ p,p<5->zs[5*k+p]?=[Value.int .u8 so,fv,Value.string sb,Value.int .i64 o,Value.int .i64 n][p]?)/\zjf w P ts pb so fv sb n
theorem zl3.fr {w:World}{P:Nat->Prop}{tv:Value}{ts:List TR}(h:zl3 w P tv ts) (hf:Fr w w' S) (hS:∀ g,P g->¬ S g):zl3 w' P tv ts:=by
 obtain⟨xs,a,b,c⟩:=h;refine⟨xs,zb_ a hf (λ g e=>hS g (b g e)),b,λ k t ht=>?_⟩;obtain⟨sv,c1,c2,c3,c4⟩:=c k t ht;exact⟨sv,c1,c2,zb_ c3 hf (λ g e=>hS g (c4 g e)),c4⟩
theorem zjf.fr {w:World}{P:Nat->Prop}{ts:List TR}{pb:PB}{so:Int}{fv:Value}{sb:BA}{n:Int}(h:zjf w P ts pb so fv sb n) (hf:Fr w w' S) (hS:∀ g,P g->¬ S g):zjf w' P ts pb so fv sb n:=by
 obtain⟨a,b,c⟩:=h;refine⟨a,b,?_⟩
 cases pb with
 | recd fs=>
  obtain⟨c1,xs,c2,c3⟩:=c;exact⟨c1,xs,zb_ c2 hf (λ g e=>hS g (b g e)),c3⟩
 | enum l o=>exact c
 | bytes k=>exact c
theorem ZAt.fr {w:World}{P:Nat->Prop}{bz:Nat}{ts:List TR}{env:Nat->Option PB}(h:ZAt w P bz ts env) (hf:Fr w w' S) (hS:∀ g,P g->¬ S g):ZAt w' P bz ts env:=by
 refine⟨h.zP,?_⟩;obtain⟨tv,zs,a,b,c⟩:=h.z;refine⟨tv,zs,hf.blk a (hS _ h.zP),b.fr hf hS,λ k hk pb hp=>?_⟩;obtain⟨so,fv,sb,o,n,c1,c2⟩:=c k hk pb hp;exact⟨so,fv,sb,o,n,c1,c2.fr hf hS⟩
theorem zs_ {w:World}{v:Value}{n:Nat}{xs:List Value}(h:w.ownsRow base e size v n xs){g cap:Nat}(hv:v=.slice (some ⟨g,0,none⟩) n cap){k:Nat}{x:Value}(hx:xs[k]?=some x):w.cell? ⟨g,k,none⟩=some x:=by
 have hlen:k<xs.length:=(ao_.1 hx).1
 rcases h.2 with⟨hn,_⟩|⟨g',cap',cur,hv',hb,hg,_,_,_,ht⟩
 ·rw[hn] at hv;cases hv
 ·rw[hv'] at hv;cases hv;simp only[World.cell?,hg];rw[<- ht,b5_] at hx;split at hx
  ·simpa using hx
  ·cases hx
theorem ZAt.type {w:World}{P:Nat->Prop}{bz:Nat}{ts:List TR}{env:Nat->Option PB}(h:ZAt w P bz ts env){k:Nat}{t:TR}(ht:ts[k]?=some t) :
 ∃ g n cap sv,w.cell? ⟨bz,0,none⟩=some (.slice (some ⟨g,0,none⟩) n cap)/\k<n/\w.cell? ⟨g,k*2,none⟩=some (.int .u8 (t.kind:Int))/\w.cell? ⟨g,k*2+1,none⟩=some sv/\
  w.ownsRow 0 3 1 sv t.subs.length (t.subs.map λ (n:Nat)=>Value.int .i64 (n:Int))/\∀ g,sv.ownBlock=some g->P g:=by
 obtain⟨tv,zs,a,⟨xs,b1,b2,b3⟩,c⟩:=h.z;obtain⟨sv,c1,c2,c3,c4⟩:=b3 k t ht;have hk:k<ts.length:=(ao_.1 ht).1;obtain⟨g,cap,hv⟩:=zk_ b1 (by omega);refine⟨g,ts.length,cap,sv,?_,hk,zs_ b1 hv (by rw[bo_];exact c1),zs_ b1 hv (by rw[bo_];exact c2),c3,c4⟩;rw[a.cell 0,hv];rfl
open Go.RowKit
theorem j6_ {env:Nat->Option PB}:∀ {l:List PT},okTs env l->∀ t∈l,t.isAlts=false/\okT env t
 | [],h,t,ht=>by simp at ht
 | u::r,h,t,ht=>by
  simp only[okTs] at h
  rcases an_.1 ht with rfl|ht
  ·exact⟨h.1,h.2.1⟩
  ·exact j6_ h.2.2 t ht
mutual
def shT:PT->Prop
 | .leaf c _=>zu_ c=true\/z0_ c=true
 | .wrap c _ t=>(c=91\/c=123)/\shT t
 | .alts _ l=>l≠[]/\shTs l
def shTs:List PT->Prop
 | []=>True
 | t::r=>shT t/\shTs r
end
theorem zxx (s:BA) (f:Nat) :
 (∀ i t j,pTyp s f i=.ok (t,j)->shT t)/\(∀ i ts j,vd_ s f i=.ok (ts,j)->ts≠[]/\shTs ts):=by
 induction f with
 | zero=>exact⟨λ i t j h=>by simp[pTyp] at h,λ i t j h=>by simp[vd_] at h⟩
 | succ f ih=>
  obtain⟨ihT,ihA⟩:=ih;refine⟨λ i t j h=>?_,λ i t j h=>?_⟩
  ·rw[zac] at h;unfold zdk at h;split at h
   ·simp only[af_,ab_] at h;obtain⟨rfl,rfl⟩:=h;rename_i hb;exact .inl hb
   ·split at h
    ·rename_i hc
     cases hp:pTyp s f (i+1) with
     | error k=>rw[hp] at h;simp at h
     | ok r=>
      obtain⟨t',j'⟩:=r;rw[hp] at h;simp only at h;split at h
      ·simp only[af_,ab_] at h;obtain⟨rfl,rfl⟩:=h;exact⟨hc,ihT _ _ _ hp⟩
      ·simp at h
    ·split at h
     ·cases hp:vd_ s f (i+1) with
      | error k=>rw[hp] at h;simp at h
      | ok r=>
       obtain⟨t',j'⟩:=r;rw[hp] at h;simp only at h;split at h
       ·simp only[af_,ab_] at h;obtain⟨rfl,rfl⟩:=h;exact ihA _ _ _ hp
       ·simp at h
     ·split at h
      ·simp only[af_,ab_] at h;obtain⟨rfl,rfl⟩:=h;rename_i hb;exact .inr hb
      ·simp at h
  ·rw[jo_] at h;unfold zh7 at h
   cases hp:pTyp s f i with
   | error k=>rw[hp] at h;simp at h
   | ok r=>
    obtain⟨t',j'⟩:=r;rw[hp] at h;have h1:=ihT _ _ _ hp;simp only at h;split at h
    ·cases hq:vd_ s f (j'+1) with
     | error k=>rw[hq] at h;simp at h
     | ok r=>
      obtain⟨ts,k⟩:=r;rw[hq] at h;simp only[af_,ab_] at h;obtain⟨rfl,rfl⟩:=h;exact⟨by simp,h1,(ihA _ _ _ hq).2⟩
    ·simp only[af_,ab_] at h;obtain⟨rfl,rfl⟩:=h;exact⟨by simp,h1,trivial⟩
theorem zon {s:BA}{i:Nat}{t:PT}{j:Nat}(h:pT s i=.ok (t,j)):shT t:=(zxx s _).1 i t j h
theorem zp9 {seen:List Nat}{t:PT}{m:Int}(h:zkn seen t m<0):m<0/\t.kind≠40:=by
 unfold zkn at h;split at h
 ·omega
 ·rename_i hc;refine⟨h,λ e=>hc ⟨.inl e,.inl h⟩⟩
theorem zti {t:PT}(h:t.kind≠40):t.isAlts=false:=by
 cases t<;>simp_all [PT.kind,PT.isAlts]
mutual
theorem zke (env:Nat->Option PB):∀ (t:PT) (m:Int),shT t->mix t m<0->(∀ u∈ya_ t,∃ pb,env u.1=some pb)->m<0/\okT env t
 | .leaf c p,m,hs,hm,hu=>by
  simp only[mix] at hm;refine⟨hm,?_⟩;simp only[okT]
  cases hb:zu_ c with
  | true=>exact .inl rfl
  | false=>
   simp only[shT,hb] at hs;refine .inr ⟨hs.resolve_left (by decide),?_⟩;exact hu (c,p) (by simp[ya_,hb])
 | .wrap c p t,m,hs,hm,hu=>by
  simp only[shT] at hs;have:=zke env t m hs.2 hm hu;exact⟨this.1,hs.1,this.2⟩
 | .alts p l,m,hs,hm,hu=>by
  simp only[shT] at hs;have:=zsm env l [] m hs.2 hm hu;exact⟨this.1,hs.1,this.2⟩
theorem zsm (env:Nat->Option PB):∀ (l:List PT) (seen:List Nat) (m:Int),shTs l->mixs seen l m<0->(∀ u∈xf_ l,∃ pb,env u.1=some pb)->m<0/\okTs env l
 | [],seen,m,hs,hm,hu=>⟨hm,trivial⟩
 | t::r,seen,m,hs,hm,hu=>by
  simp only[shTs] at hs;simp only[mixs] at hm;have h1:=zsm env r _ _ hs.2 hm (λ u hu'=>hu u (by rw[xf_];exact b2_ _ hu'));have h2:=zp9 h1.1;have h3:=zke env t m hs.1 h2.1 (λ u hu'=>hu u (by rw[xf_];exact b6_ _ hu'));exact⟨h3.1,zti h2.2,h3.2,h1.2⟩
end
open Go.RowKit
def za4:List Value:=jk_ 0 0 noB (.slice none 0 0) (.slice none 0 0)
structure DM (w:World) (P:Nat->Prop) (bl:Nat) (s:BA) (bz:Nat) (pl:Bool) (j:Nat) (bad:Bool) (ts:List TR) (env:Nat->Option PB) (W:World):Prop where
 L:LAt W bl s bz pl j bad
 Z:ZAt W P bz ts env
 nP:¬ P bl
 Plt:∀ g,P g->g<w.heap.size
 lt:bl<w.heap.size
 fr:Fr w W (· = bl)
 jl:j<=s.size
 sl:s.size<=4000
section
variable {w W W':World} {P:Nat->Prop} {bl:Nat} {s:BA} {bz:Nat} {pl:Bool} {j j':Nat} {bad bad':Bool} {ts:List TR} {env:Nat->Option PB}
theorem DM.call (M:DM w P bl s bz pl j bad ts env W) (hL:LAt W' bl s bz pl j' bad') (hf:Fr W W' (· = bl)) (hj:j'<=s.size):DM w P bl s bz pl j' bad' ts env W':=
 ⟨hL,M.Z.fr hf (λ _ hg e=>M.nP (e▸hg)),M.nP,M.Plt,M.lt,M.fr.trans hf u_,hj,M.sl⟩
theorem DM.still (M:DM w P bl s bz pl j bad ts env W) (h:ze_ W W'):DM w P bl s bz pl j bad ts env W':=M.call (M.L.still h) ((Fr.refl W _).still h) M.jl
theorem DM.inc (M:DM w P bl s bz pl j bad ts env W) (h:j<s.size):DM w P bl s bz pl (j+1) bad ts env (W.setCell ⟨bl,1,none⟩ (.int .i64 ((j:Int)+1))):=M.call M.L.inc (Fr.one _ _ _) h
theorem DM.own (M:DM w P bl s bz pl j bad ts env W) (hf:Fr W W' (λ g=>w.heap.size<=g)):DM w P bl s bz pl j bad ts env W':=by
 have:=M.lt;exact⟨hf.blk M.L (by omega),M.Z.fr hf (λ g hg=>by have:=M.Plt g hg;omega),M.nP,M.Plt,M.lt,M.fr.trans hf (λ x hx e=>absurd e (by omega)),M.jl,M.sl⟩
theorem DM.alloc (M:DM w P bl s bz pl j bad ts env W) (o:Obj):DM w P bl s bz pl j bad ts env (W.alloc o):=M.own ((Fr.refl W _).alloc o)
theorem DM.put (M:DM w P bl s bz pl j bad ts env W) (a:Addr) (v:Value) (h:w.heap.size<=a.block):DM w P bl s bz pl j bad ts env (W.setCell a v):=M.own ((Fr.refl W _).setCell a v (λ _=>h))
theorem DM.here (M:DM w P bl s bz pl j bad ts env W):DM W P bl s bz pl j bad ts env W:=
 ⟨M.L,M.Z,M.nP,λ g hg=>bl_ (M.Plt g hg) M.fr.size,bl_ M.lt M.fr.size,Fr.refl _ _,M.jl,M.sl⟩
end
def zuz (w:World) (bl:Nat) (s:BA) (bz:Nat) (pl:Bool) (r:Option (DT×Nat)) (e:Ending) (w':World):Prop:=
 ∃ (k:Nat) (n:Int) (tx:BA) (vk vs:Value),e=.returned (.agg (jk_ k n tx vk vs).toArray)/\(∃ a m c,vk=.slice a m c)/\(∃ a m c,vs=.slice a m c)/\Fr w w' (· = bl)/\
 match r with
 | none=>∃ j,j<=s.size/\LAt w' bl s bz pl j true
 | some (d,j)=>j<=s.size/\LAt w' bl s bz pl j false/\DVal w' (λ g=>w.heap.size<=g) d (jk_ k n tx vk vs)
section
variable {w W W':World} {P:Nat->Prop} {bl:Nat} {s:BA} {bz:Nat} {pl:Bool} {j:Nat} {ts:List TR} {env:Nat->Option PB} {k:Nat} {n:Int} {tx:BA} {vk vs:Value} {d:DT} {r:Option (DT×Nat)}
end
open Go.RowKit
structure LM (w:World) (P:Nat->Prop) (bl:Nat) (s:BA) (bz:Nat) (pl:Bool) (j:Nat) (bad:Bool) (ts:List TR) (env:Nat->Option PB) (b0 b1 B c:Nat) (vk vs:Value) (ks:List BA) (n:Nat) (xs:List Value) (W:World):Prop where
 M:DM w P bl s bz pl j bad ts env W
 hb:w.heap.size<=b0/\b0<b1/\b1<B
 bB:B<=W.heap.size
 r0:Blk W b0 za4 32
 r1:Blk W b1 (jk_ c 0 noB vk vs) 32
 kr:W.ownsRow B 9 1 vk ks.length (ks.map Value.string)
 vr:W.ownsRow B 32 5 vs n xs
 ap:∀ g,vk.ownBlock=some g->vs.ownBlock≠some g
def Dts (W:World) (B:Nat) (vk vs:Value) (ds:List DT) (n:Nat) (xs:List Value):Prop:=
 n=ds.length/\∃ X:Nat->List Value,xs=(List.range ds.length).flatMap X/\∀ i d,ds[i]?=some d->DVal W (λ g=>B<=g/\vk.ownBlock≠some g/\vs.ownBlock≠some g) d (X i)
theorem Dts.nil (W:World) (B:Nat) (vk vs:Value):Dts W B vk vs [] 0 []:=⟨rfl,λ _=>[],rfl,λ i d h=>by simp at h⟩
theorem Dts.fr {W W':World}{B:Nat}{vk vs:Value}{ds:List DT}{n:Nat}{xs:List Value}(h:Dts W B vk vs ds n xs) (hf:Fr W W' S) (hS:∀ g,B<=g->vk.ownBlock≠some g->vs.ownBlock≠some g->¬ S g):Dts W' B vk vs ds n xs:=by
 obtain⟨a,X,b,c⟩:=h;exact⟨a,X,b,λ i d e=>(c i d e).fr hf (λ g hg=>hS g hg.1 hg.2.1 hg.2.2)⟩
section
variable {w W W':World} {P:Nat->Prop} {bl:Nat} {s:BA} {bz:Nat} {pl:Bool} {j j':Nat} {bad bad':Bool} {ts:List TR} {env:Nat->Option PB} {b0 b1 B c:Nat} {vk vs:Value} {ks:List BA} {n:Nat} {xs:List Value} {ds:List DT}
theorem LM.call (Q:LM w P bl s bz pl j bad ts env b0 b1 B c vk vs ks n xs W) (hL:LAt W' bl s bz pl j' bad') (hf:Fr W W' (· = bl)) (hj:j'<=s.size):LM w P bl s bz pl j' bad' ts env b0 b1 B c vk vs ks n xs W':=by
 have h1:=Q.M.lt;have h2:=Q.hb;exact⟨Q.M.call hL hf hj,Q.hb,ah_ Q.bB hf.size,hf.blk Q.r0 (by omega),hf.blk Q.r1 (by omega),zb_ Q.kr hf (λ g hg e=>by have:=Q.kr.lt g hg;omega),zb_ Q.vr hf (λ g hg e=>by have:=Q.vr.lt g hg;omega),Q.ap⟩
theorem LM.still (Q:LM w P bl s bz pl j bad ts env b0 b1 B c vk vs ks n xs W) (h:ze_ W W'):LM w P bl s bz pl j bad ts env b0 b1 B c vk vs ks n xs W':=Q.call (Q.M.L.still h) ((Fr.refl W _).still h) Q.M.jl
theorem Dts.still (D:Dts W B vk vs ds n xs) (h:ze_ W W'):Dts W' B vk vs ds n xs:=D.fr ((Fr.refl W (λ _=>False)).still h) (λ _ _ _ _ f=>f)
theorem LM.inc (Q:LM w P bl s bz pl j bad ts env b0 b1 B c vk vs ks n xs W) (h:j<s.size):LM w P bl s bz pl (j+1) bad ts env b0 b1 B c vk vs ks n xs (W.setCell ⟨bl,1,none⟩ (.int .i64 ((j:Int)+1))):=Q.call Q.M.L.inc (Fr.one _ _ _) h
theorem LM.alloc (Q:LM w P bl s bz pl j bad ts env b0 b1 B c vk vs ks n xs W) (o:Obj):LM w P bl s bz pl j bad ts env b0 b1 B c vk vs ks n xs (W.alloc o):=
 ⟨Q.M.alloc o,Q.hb,by have:=Q.bB;simp;omega,Q.r0.alloc o,Q.r1.alloc o,World.ownsRow.alloc Q.kr o,World.ownsRow.alloc Q.vr o,Q.ap⟩
theorem Dts.alloc (D:Dts W B vk vs ds n xs) (o:Obj):Dts (W.alloc o) B vk vs ds n xs:=D.fr ((Fr.refl W (λ _=>False)).alloc o) (λ _ _ _ _ f=>f)
theorem zjh {P:Nat->Prop}{d:DT}(h:DVal W P d v):DVal W (λ g=>P g/\g<W.heap.size) d v:=h.mono (λ _ hg hp=>⟨hp,hg⟩)
theorem LM.key (Q:LM w P bl s bz pl j bad ts env b0 b1 B c vk vs ks n xs W){v5:Value}{key:BA}(hg:(W.alloc o).grownBy w5 vk.ownBlock) (ho:w5.ownsRow B 9 1 v5 (ks.length+1) (ks.map Value.string++[.string key]))
 (hl:v5.ownBlock=vk.ownBlock\/v5.ownBlock=some (W.alloc o).heap.size) :
 LM w P bl s bz pl j bad ts env b0 b1 B c v5 vs (ks++[key]) n xs (w5.setCell ⟨b1,3,none⟩ v5)/\(∀ ds,Dts W B vk vs ds n xs->Dts (w5.setCell ⟨b1,3,none⟩ v5) B v5 vs ds n xs):=by
 have hb:=Q.hb;have hbB:=Q.bB;have hF:Fr W w5 (λ g=>vk.ownBlock=some g):=Fr.grown ((Fr.refl W _).alloc o) hg (λ k e _=>e)
 have hv:∀ g,v5.ownBlock=some g->B<=g/\(vk.ownBlock=some g\/W.heap.size<=g):=λ g hg'=>by
  rcases hl with e|e
  ·exact⟨(Q.kr.lt g (e▸hg')).1,.inl (e▸hg')⟩
  ·rw[e] at hg';simp only[ad_] at hg'
   have:(W.alloc o).heap.size=W.heap.size+1:=by simp
   exact⟨by omega,.inr (by omega)⟩
 have hG:Fr w5 (w5.setCell ⟨b1,3,none⟩ v5) (λ g=>g=b1):=(Fr.refl w5 (λ g=>g=b1)).setCell ⟨b1,3,none⟩ v5 (λ _=>rfl);have hH:Fr W (w5.setCell ⟨b1,3,none⟩ v5) (λ g=>vk.ownBlock=some g\/g=b1):=(hF.mono (λ _ _ e=>.inl e)).trans hG (λ _ _ e=>.inr e);have B1:=hF.blk Q.r1 (λ e=>by have:=Q.kr.lt _ e;omega);refine⟨⟨Q.M.own (hH.mono (λ g _ e=>?_)),Q.hb,ah_ hbB hH.size,hH.blk Q.r0 (λ e=>?_),B1.set 3 v5,?_,zb_ Q.vr hH (λ g hg' e=>?_),λ g hg' e=>?_⟩,λ ds D=>?_⟩
 ·rcases e with e|e
  ·have:=Q.kr.lt g e;omega
  ·omega
 ·rcases e with e|e
  ·have:=Q.kr.lt _ e;omega
  ·omega
 ·rw[al_,ai_,bq_,ap_,a1_];exact zb_ ho hG (λ g hg' e=>by have:=hv g hg';omega)
 ·rcases e with e|e
  ·exact Q.ap g e hg'
  ·have:=Q.vr.lt _ hg';omega
 ·rcases(hv g hg').2 with q|q
  ·exact Q.ap g q e
  ·have:=Q.vr.lt _ e;omega
 ·obtain⟨a,X,b,c⟩:=D;refine⟨a,X,b,λ i d e=>((zjh (c i d e)).fr hH (λ g hg' e=>?_)).mono (λ g _ hg'=>⟨hg'.1.1,λ e=>?_,hg'.1.2.2⟩)⟩
  ·rcases e with e|e
   ·exact hg'.1.2.1 e
   ·have:=hg'.1.1;omega
  ·rcases(hv g e).2 with q|q
   ·exact hg'.1.2.1 q
   ·have:=hg'.2;omega
theorem LM.item (Q:LM w P bl s bz pl j bad ts env b0 b1 B c vk vs ks n xs W){v5:Value}(hg:(W.alloc o).grownBy w5 vs.ownBlock) (ho:w5.ownsRow B 32 5 v5 (n+1) (xs++v))
 (hl:v5.ownBlock=vs.ownBlock\/v5.ownBlock=some (W.alloc o).heap.size) :
 LM w P bl s bz pl j bad ts env b0 b1 B c vk v5 ks (n+1) (xs++v) (w5.setCell ⟨b1,4,none⟩ v5)/\
  (∀ ds d,Dts W B vk vs ds n xs->DVal W (λ g=>B<=g/\vk.ownBlock≠some g/\vs.ownBlock≠some g) d v->Dts (w5.setCell ⟨b1,4,none⟩ v5) B vk v5 (ds++[d]) (n+1) (xs++v)):=by
 have hb:=Q.hb;have hbB:=Q.bB;have hF:Fr W w5 (λ g=>vs.ownBlock=some g):=Fr.grown ((Fr.refl W _).alloc o) hg (λ k e _=>e)
 have hv:∀ g,v5.ownBlock=some g->B<=g/\(vs.ownBlock=some g\/W.heap.size<=g):=λ g hg'=>by
  rcases hl with e|e
  ·exact⟨(Q.vr.lt g (e▸hg')).1,.inl (e▸hg')⟩
  ·rw[e] at hg';simp only[ad_] at hg'
   have:(W.alloc o).heap.size=W.heap.size+1:=by simp
   exact⟨by omega,.inr (by omega)⟩
 have hG:Fr w5 (w5.setCell ⟨b1,4,none⟩ v5) (λ g=>g=b1):=(Fr.refl w5 (λ g=>g=b1)).setCell ⟨b1,4,none⟩ v5 (λ _=>rfl);have hH:Fr W (w5.setCell ⟨b1,4,none⟩ v5) (λ g=>vs.ownBlock=some g\/g=b1):=(hF.mono (λ _ _ e=>.inl e)).trans hG (λ _ _ e=>.inr e);have B1:=hF.blk Q.r1 (λ e=>by have:=Q.vr.lt _ e;omega);refine⟨⟨Q.M.own (hH.mono (λ g _ e=>?_)),Q.hb,ah_ hbB hH.size,hH.blk Q.r0 (λ e=>?_),B1.set 4 v5,zb_ Q.kr hH (λ g hg' e=>?_),zb_ ho hG (λ g hg' e=>by have:=hv g hg';omega),λ g hg' e=>?_⟩,λ ds d D hd=>?_⟩
 ·rcases e with e|e
  ·have:=Q.vr.lt g e;omega
  ·omega
 ·rcases e with e|e
  ·have:=Q.vr.lt _ e;omega
  ·omega
 ·rcases e with e|e
  ·exact Q.ap g hg' e
  ·have:=Q.kr.lt _ hg';omega
 ·rcases(hv g e).2 with q|q
  ·exact Q.ap g hg' q
  ·have:=Q.kr.lt _ hg';omega
 ·have keep:∀ {e v},DVal W (λ g=>B<=g/\vk.ownBlock≠some g/\vs.ownBlock≠some g) e v->DVal (w5.setCell ⟨b1,4,none⟩ v5) (λ g=>B<=g/\vk.ownBlock≠some g/\v5.ownBlock≠some g) e v:=λ he=>
   ((zjh he).fr hH (λ g hg' e=>by
     rcases e with e|e
     ·exact hg'.1.2.2 e
     ·have:=hg'.1.1;omega)).mono (λ g _ hg'=>⟨hg'.1.1,hg'.1.2.1,λ e=>by
     rcases(hv g e).2 with q|q
     ·exact hg'.1.2.2 q
     ·have:=hg'.2;omega⟩)
  obtain⟨rfl,X,rfl,hX⟩:=D;refine⟨by rw[al_,ai_],λ i=>if i<ds.length then X i else v,?_,λ i e he=>?_⟩
  ·rw[al_,ai_,bi_,a5_,z2_ ds.length (λ i=>if i<ds.length then X i else v) X (λ i hi=>by simp[hi])]
   simp
  ·by_cases hi:i<ds.length
   ·rw[av_ hi] at he;simp only[hi,if_true];exact keep (hX i e he)
   ·rw[aw_ (by omega)] at he
    have h0:i-ds.length=0:=by
     rcases bw_ (i-ds.length) with h|h
     ·exact h
     ·rw[bm_ (by simp;omega)] at he;cases he
    rw[h0] at he;simp only[aa_,ad_] at he;subst he;simp only[hi,if_false];exact keep hd
theorem LM.itemCell (Q:LM w P bl s bz pl j bad ts env b0 b1 B c vk vs ks n xs W)(hg:(W.alloc o).grownBy w5 vs.ownBlock):w5.cell? ⟨b1,4,none⟩=some vs/\w5.frozen? ⟨b1,4,none⟩=false:=by
 have hb:=Q.hb;have hF:Fr W w5 (λ g=>vs.ownBlock=some g):=Fr.grown ((Fr.refl W _).alloc o) hg (λ k e _=>e);have B1:=hF.blk Q.r1 (λ e=>by have:=Q.vr.lt _ e;omega);exact⟨B1.cell 4,B1.thaw 4⟩
end
open Go.RowKit
def zwf (acc:List (BA×DT)):Option BA:=acc.getLast?.map Prod.fst
def zzz (keyed:Bool) (acc:List (BA×DT)):List BA:=if keyed=true then acc.map Prod.fst else []
open Go.RowKit
theorem LEat.any {w:World}{P:Nat->Prop}{bl:Nat}{s:BA}{bz:Nat}{pl:Bool}{j:Nat}{bad:Bool}{ts:List TR}{env:Nat->Option PB}{W:World}{d:Nat}(hd:0<d) (M:DM w P bl s bz pl j bad ts env W) (h:LEat W bl s bz pl j bad d w') :
 ∃ j' bad',DM w P bl s bz pl j' bad' ts env w'/\Fr W w' (· = bl)/\H_ ((bad=false/\bt s j=d/\j'=j+1/\bad'=false)\/((bad=true\/bt s j≠d)/\j'=j/\bad'=true)):=by
 have:=M.jl;obtain⟨h1,h2⟩:=h
 cases bad with
 | true=>
  by_cases hb:lk s j true=d
  ·simp[lk] at hb;omega
  ·rw[if_neg hb] at h1;exact⟨j,true,M.call h1 h2 M.jl,h2,.inr ⟨.inl rfl,rfl,rfl⟩⟩
 | false=>
  by_cases hb:lk s j false=d
  ·rw[if_pos hb] at h1;exact⟨j+1,false,M.call h1.1 h2 h1.2,h2,.inl ⟨rfl,by simpa[lk] using hb,rfl,rfl⟩⟩
  ·rw[if_neg hb] at h1;exact⟨j,true,M.call h1 h2 M.jl,h2,.inr ⟨.inr (by simpa[lk] using hb),rfl,rfl⟩⟩
open Go.RowKit
theorem zuw.any {w:World}{P:Nat->Prop}{bl:Nat}{s:BA}{bz:Nat}{pl:Bool}{j kd:Nat}{ts:List TR}{env:Nat->Option PB}{W W':World}{e:Ending}(M:DM w P bl s bz pl j false ts env W) (h:zuw W bl s bz pl j kd e W') :
 ∃ v j' bad',e=.returned (.int .i64 v)/\DM w P bl s bz pl j' bad' ts env W'/\Fr W W' (· = bl)/\H_ ((bad'=false/\vr_ s kd j=some (v,j'))\/(bad'=true/\vr_ s kd j=none)):=by
 obtain⟨k,neg,t,hn,ht,hk,h1,h2,hf,hh⟩:=h;subst hn ht hk
 rcases hh with⟨a,b,c,d⟩|⟨a,c,d⟩
 ·exact⟨_,_,_,d,M.call c hf h2,hf,.inl ⟨rfl,by unfold vr_;exact if_pos a⟩⟩
 ·exact⟨_,_,_,d,M.call c hf h2,hf,.inr ⟨rfl,by unfold vr_;exact if_neg a⟩⟩
theorem zux.any {w:World}{P:Nat->Prop}{bl:Nat}{s:BA}{bz:Nat}{pl:Bool}{j:Nat}{bad:Bool}{ts:List TR}{env:Nat->Option PB}{W W':World}{e:Ending}(M:DM w P bl s bz pl j bad ts env W) (h:zux W bl s bz pl j bad e W') :
 ∃ tx j',e=.returned (.string tx)/\DM w P bl s bz pl j' bad ts env W'/\Fr W W' (· = bl)/\tx.size<=4000/\H_ (tx=s.extract j j'/\j<=j'/\(bad=false->j'=zp_ s j)):=by
 obtain⟨k,h1,h2,h3,h4,h5,h6⟩:=h;refine⟨_,k,h4,M.call h5 h6 h3,h6,?_,rfl,h2,λ hb=>by rw[h1,hb];rfl⟩;have:=M.sl;rw[as_];omega
open Go.RowKit
open Go.RowKit
theorem zf_ {w:World}{n:Nat}{v:Value}{xs:List Value}(h:w.ownsRow base e size v n xs):∃ a c,v=.slice a n c:=by
 rcases h.2 with⟨h1,h0⟩|⟨g,cap,_,h1,_⟩
 ·subst h0;exact⟨_,_,h1⟩
 ·exact⟨_,_,h1⟩
section
variable {w W W':World} {P:Nat->Prop} {bl:Nat} {s:BA} {bz:Nat} {pl:Bool} {j:Nat} {bad:Bool} {ts:List TR} {env:Nat->Option PB} {b0 b1 B c:Nat} {vk vs:Value} {ks:List BA} {n:Nat} {xs:List Value}
end
open Go.RowKit
open Go.RowKit
theorem zuz.any {w W W':World}{P:Nat->Prop}{bl:Nat}{s:BA}{bz:Nat}{pl:Bool}{j:Nat}{bad:Bool}{ts:List TR}{env:Nat->Option PB}{r:Option (DT×Nat)}{e:Ending}(M:DM w P bl s bz pl j bad ts env W) (h:zuz W bl s bz pl r e W') :
 ∃ (k:Nat) (m:Int) (tx:BA) (a1:Option Addr) (m1 c1:Nat) (a2:Option Addr) (m2 c2:Nat) (j':Nat) (bad':Bool),e=.returned (.agg #[.int .u8 (k:Int),.int .i64 m,.string tx,.slice a1 m1 c1,.slice a2 m2 c2])/\DM w P bl s bz pl j' bad' ts env W'/\Fr W W' (· = bl)/\
  H_ ((∃ d,r=some (d,j')/\bad'=false/\DVal W' (λ g=>W.heap.size<=g) d (jk_ k m tx (.slice a1 m1 c1) (.slice a2 m2 c2)))\/(r=none/\bad'=true)):=by
 obtain⟨k,m,tx,vk',vs',he,⟨a1,m1,c1,rfl⟩,⟨a2,m2,c2,rfl⟩,hf,hh⟩:=h
 cases r with
 | none=>
  obtain⟨j',h1,h2⟩:=hh;exact⟨k,m,tx,a1,m1,c1,a2,m2,c2,j',true,he,M.call h2 hf h1,hf,.inr ⟨rfl,rfl⟩⟩
 | some q=>
  obtain⟨d,j'⟩:=q;obtain⟨h1,h2,h3⟩:=hh;exact⟨k,m,tx,a1,m1,c1,a2,m2,c2,j',false,he,M.call h2 hf h1,hf,.inl ⟨d,rfl,rfl,h3⟩⟩
open Go.RowKit
section
variable {w W W':World} {P:Nat->Prop} {bl:Nat} {s:BA} {bz:Nat} {pl:Bool} {j:Nat} {ts:List TR} {env:Nat->Option PB} {k:Nat} {n:Int} {tx:BA} {vk vs:Value} {d:DT} {r:Option (DT×Nat)}
end
theorem DVal.one {w:World}{P:Nat->Prop}{d:DT}(h:DVal w P d v) (g:Nat) (hg:P g) (ho:w.ownsRow 0 32 5 (.slice (some ⟨g,0,none⟩) 1 1) 1 v) (k:Nat) (n:Int) (tx:BA) :
 DVal w P (.mk k n tx [] [d]) (jk_ k n tx (.slice none 0 0) (.slice (some ⟨g,0,none⟩) 1 1)):=by
 refine .mk (λ _=>v) (World.ownsRow_nil _ _ _ _) (λ g e=>by simp[Value.ownBlock] at e) ?_ (λ g' e=>?_) (λ i e he=>?_)
 ·simpa[bi_] using ho
 ·simp only[Value.ownBlock,ad_] at e;subst e;exact hg
 ·cases i with
  | zero=>simp only[aa_,ad_] at he;subst he;exact h
  | succ i=>simp at he
def bw (w:World) (sv:Value):World:=
 ((w.alloc (.cells #[.int .u8 40,sv] 66)).alloc (.cells za4.toArray 32)).alloc (.cells (jk_ 40 0 noB (.slice none 0 0) (.slice none 0 0)).toArray 32)
theorem bw_0 (w:World) (sv:Value):Blk (bw w sv) w.heap.size [.int .u8 40,sv] 66:=((Blk.new w _ _).alloc _).alloc _
theorem bw_1 (w:World) (sv:Value):Blk (bw w sv) (w.heap.size+1) za4 32:=by
 have:=(Blk.new (w.alloc (.cells #[.int .u8 40,sv] 66)) za4.toArray 32).alloc (.cells (jk_ 40 0 noB (.slice none 0 0) (.slice none 0 0)).toArray 32)
 simpa[bw] using this
theorem bw_2 (w:World) (sv:Value):Blk (bw w sv) (w.heap.size+2) (jk_ 40 0 noB (.slice none 0 0) (.slice none 0 0)) 32:=by
 have:=Blk.new ((w.alloc (.cells #[.int .u8 40,sv] 66)).alloc (.cells za4.toArray 32)) (jk_ 40 0 noB (.slice none 0 0) (.slice none 0 0)).toArray 32
 simpa[bw] using this
theorem bw_M {w:World}{P:Nat->Prop}{bl:Nat}{s:BA}{bz:Nat}{pl:Bool}{j:Nat}{bad:Bool}{ts:List TR}{env:Nat->Option PB}(M:DM w P bl s bz pl j bad ts env w) (sv:Value):DM w P bl s bz pl j bad ts env (bw w sv):=((M.alloc _).alloc _).alloc _
open Go.RowKit
theorem zsk {w:World}{n:Nat}{xs:List Value}{a:Option Addr}{m c:Nat}(h:w.ownsRow base e size (.slice a m c) n xs):m=n:=by
 rcases h.2 with⟨h1,h0⟩|⟨g,cap,_,h1,_⟩
 ·cases h1;exact h0.symm
 ·cases h1;rfl
open Go.RowKit
open Go.RowKit
open Go.RowKit
open Go.RowKit
open Go.RowKit
open Go.RowKit
def xn_ (env:Nat->Option PB) (pl:Bool) (t:PT) (s:BA):Option DT:=
 match rdT s env pl (2*s.size+2) t 0 with
 | none=>none
 | some (d,j)=>if j=s.size then some d else none
def lw (w:World) (s:BA) (bz:Nat) (pl:Bool):World:=
 (w.alloc (.cells za4.toArray 32)).alloc (.cells #[.string s,.int .i64 0,.bool false,.pointer (some ⟨bz,0,none⟩),.bool pl] 161)
end Go.Proofs.YthmjjpkjgjklmaaGreatDoor
