import Derived.Test.YtiifagiebikmdaaGreatDoorW06
import Derived.Test.YtiifagiebikmdaaGreatDoorW00
import Derived.Test.YtiifagiebikmdaaGreatDoorW04
import Derived.Deep.DeepCutAuto
import Derived.Test.YtiifagiebikmdaaGreatDoorA00
set_option maxHeartbeats 16000000
set_option maxRecDepth 100000
set_option linter.unusedSimpArgs false
open Go.Proofs.Tryz
namespace Go.Proofs.YtiifagiebikmdaaGreatDoor
open Go.RowKit
variable {i f p fin base size b:Nat}{w' w5:World}{S Q:Nat->Prop}{v:List Value}{R_:Option (List (BA×DT)×Nat)}{R:Nat->Option (DT×Nat)}{acc:List (BA×DT)}{o:Obj}{e:Ending}
def zb_ (k:Nat) (n:Int) (tx:BA) (vk vs:Value):List Value:=[.int .u8 (k:Int),.int .i64 n,.string tx,vk,vs]
inductive DVal (w:World) (P:Nat->Prop):DT->List Value->Prop
 | mk {k:Nat} {n:Int} {tx:BA} {ks:List BA} {ds:List DT} {vk vs:Value} (X:Nat->List Value)
  (hk:w.ownsRow 0 9 1 vk ks.length (ks.map Value.string)) (hkP:∀ g,vk.ownBlock=some g->P g)
  (hs:w.ownsRow 0 37 5 vs ds.length ((List.range ds.length).flatMap X)) (hsP:∀ g,vs.ownBlock=some g->P g)
  (hd:∀ i d,ds[i]?=some d->DVal w P d (X i)):DVal w P (.mk k n tx ks ds) (zb_ k n tx vk vs)
theorem DVal.mono {w:World}{P:Nat->Prop}{d:DT}(h:DVal w P d v) (a:∀ g,g<w.heap.size->P g->Q g):DVal w Q d v:=by
 induction h with
 | mk X hk hkP hs hsP hd ih=>exact .mk X hk (λ g e=>a g (hk.lt g e).2 (hkP g e)) hs (λ g e=>a g (hs.lt g e).2 (hsP g e)) ih
theorem DVal.fr {w:World}{P:Nat->Prop}{d:DT}(h:DVal w P d v) (l:Fr w w' S) (a:∀ g,P g->¬ S g):DVal w' P d v:=by
 induction h with
 | mk X hk hkP hs hsP hd ih=>exact .mk X (za_ hk l (λ g e=>a g (hkP g e))) hkP (za_ hs l (λ g e=>a g (hsP g e))) hsP ih
theorem DVal.len {w:World}{P:Nat->Prop}{d:DT}(h:DVal w P d v):v.length=5:=by cases h;rfl
theorem DVal.kind {w:World}{P:Nat->Prop}{k:Nat}{n:Int}{tx:BA}{ks:List BA}{ds:List DT}{vk vs:Value}(h:DVal w P (.mk k n tx ks ds) (zb_ k n tx vk vs)) (c:Nat):DVal w P (.mk c n tx ks ds) (zb_ c n tx vk vs):=by
 generalize a:zb_ k n tx vk vs=v at h
 cases h with
 | mk X hk hkP hs hsP hd=>
  simp only[zb_,List.cons.injEq,and_true] at a;obtain⟨_,_,_,rfl,rfl⟩:=a;exact .mk X hk hkP hs hsP hd
theorem DVal.bare (w:World) (P:Nat->Prop) (k:Nat) (n:Int) (tx:BA):DVal w P (.mk k n tx [] []) (zb_ k n tx (.slice none 0 0) (.slice none 0 0)):=
 .mk (λ _=>[]) (World.ownsRow_nil _ _ _ _) (λ g e=>by simp[Value.ownBlock] at e) (World.ownsRow_nil _ _ _ _) (λ g e=>by simp[Value.ownBlock] at e) (λ i d h=>by simp at h)
theorem yq_ {w:World}{e:TypeId}{v:Value}{n:Nat}{xs:List Value}(h:w.ownsRow base e size v n xs):w.ownsRow 0 e size v n xs:=by
 refine⟨h.1,?_⟩
 rcases h.2 with h0|⟨g,l,m,a,b,c⟩
 ·exact .inl h0
 ·exact .inr ⟨g,l,m,a,ak_ _,c⟩
def za1 (w:World) (B:Nat) (P:Nat->Prop) (vs:Value) (ds:List DT):Prop:=
 ∃ X:Nat->List Value,w.ownsRow B 37 5 vs ds.length ((List.range ds.length).flatMap X)/\∀ i d,ds[i]?=some d->DVal w P d (X i)
theorem za1.nil (w:World) (B:Nat) (P:Nat->Prop):za1 w B P (.slice none 0 0) []:=⟨λ _=>[],World.ownsRow_nil _ _ _ _,λ i d h=>by simp at h⟩
theorem za1.mono {w:World}{B:Nat}{P:Nat->Prop}{vs:Value}{ds:List DT}(h:za1 w B P vs ds) (l:∀ g,g<w.heap.size->P g->Q g):za1 w B Q vs ds:=by
 obtain⟨X,a,b⟩:=h;exact⟨X,a,λ i d e=>(b i d e).mono l⟩
theorem za1.fr {w:World}{B:Nat}{P:Nat->Prop}{vs:Value}{ds:List DT}(h:za1 w B P vs ds) (l:Fr w w' S) (m:∀ g,P g->¬ S g) (q:∀ g,vs.ownBlock=some g->¬ S g):za1 w' B P vs ds:=by
 obtain⟨X,a,b⟩:=h;exact⟨X,za_ a l q,λ i d e=>(b i d e).fr l m⟩
theorem yi_ (n:Nat) (X Y:Nat->List Value) (h:∀ i,i<n->X i=Y i):(List.range n).flatMap X=(List.range n).flatMap Y:=by
 induction n with
 | zero=>rfl
 | succ n ih=>rw[bh_,a8_,a8_,ih (λ i a=>h i (by omega))];simp[h n (by omega)]
theorem za1.snoc {w:World}{B:Nat}{P:Nat->Prop}{q:Value}{ds:List DT}{d:DT}{X:Nat->List Value}(t:∀ i d,ds[i]?=some d->DVal w P d (X i)) (hd:DVal w P d v)
 (m:Fr w w' S) (l:∀ g,P g->¬ S g) (ho:w'.ownsRow B 37 5 q (ds.length+1) ((List.range ds.length).flatMap X++v)):za1 w' B P q (ds++[d]):=by
 refine⟨λ i=>if i<ds.length then X i else v,?_,λ i e he=>?_⟩
 ·rw[ah_,am_,bh_,a8_,yi_ ds.length _ X (λ i a=>by simp[a])]
  simpa using ho
 ·by_cases a:i<ds.length
  ·rw[au_ a] at he;simp only[a,if_true];exact(t i e he).fr m l
  ·rw[ar_ (by omega)] at he
   have h0:i-ds.length=0:=by
    rcases bx_ (i-ds.length) with h|h
    ·exact h
    ·rw[bn_ (by simp;omega)] at he;cases he
   rw[h0] at he;simp only[aa_,ag_] at he;subst he;simp only[a,if_false];exact hd.fr m l
theorem za1.dval {w:World}{B:Nat}{P:Nat->Prop}{vk vs:Value}{ks:List BA}{ds:List DT}(h:za1 w B P vs ds) (hk:w.ownsRow B 9 1 vk ks.length (ks.map Value.string)) (hP:∀ g,g<w.heap.size->P g->Q g) (h1:∀ g,vk.ownBlock=some g->Q g) (l:∀ g,vs.ownBlock=some g->Q g) (k:Nat) (n:Int) (tx:BA) :
 DVal w Q (.mk k n tx ks ds) (zb_ k n tx vk vs):=by
 obtain⟨X,a,b⟩:=h;exact .mk X (yq_ hk) h1 (yq_ a) l (λ i d e=>(b i d e).mono hP)
mutual
def isT (ts:List TR) (k:Nat):PT->Prop
 | .leaf c _=>ts[k]?=some ⟨c,[]⟩
 | .wrap c _ t=>∃ j,ts[k]?=some ⟨c,[j]⟩/\isT ts j t
 | .alts _ l=>∃ js,ts[k]?=some ⟨40,js⟩/\isTs ts js l
def isTs (ts:List TR) (js:List Nat):List PT->Prop
 | []=>js=[]
 | t::r=>∃ j q,js=j::q/\isT ts j t/\isTs ts q r
end
def PT.isAlts:PT->Bool
 | .alts _ _=>true
 | _=>false
mutual
def okT (env:Nat->Option PB):PT->Prop
 | .leaf c _=>yc_ c=true\/(z5_ c=true/\∃ pb,env c=some pb)
 | .wrap c _ t=>(c=91\/c=123)/\okT env t
 | .alts _ l=>l≠[]/\okTs env l
def okTs (env:Nat->Option PB):List PT->Prop
 | []=>True
 | t::r=>t.isAlts=false/\okT env t/\okTs env r
end
def okB (env:Nat->Option PB):PB->Prop
 | .recd fs=>∀ f∈fs,okT env f.ty
 | .enum l _=>(∀ c∈l.map Prod.fst,0<c)/\l.length<=300
 | .bytes n=>n<=9
def zhz (env:Nat->Option PB):Prop:=∀ c pb,env c=some pb->okB env pb
def zlb (w:World) (P:Nat->Prop) (tv:Value) (ts:List TR):Prop:=
 ∃ xs,w.ownsRow 0 77 2 tv ts.length xs/\(∀ g,tv.ownBlock=some g->P g)/\
  ∀ k t,ts[k]?=some t->∃ sv,xs[2*k]?=some (.int .u8 (t.kind:Int))/\xs[2*k+1]?=some sv/\w.ownsRow 0 3 1 sv t.subs.length (t.subs.map λ (n:Nat)=>Value.int .i64 (n:Int))/\∀ g,sv.ownBlock=some g->P g
def zci (w:World) (P:Nat->Prop) (ts:List TR) (pb:PB) (so:Int) (fv:Value) (sb:BA) (n:Int):Prop:=
 (∃ a m c,fv=.slice a m c)/\(∀ g,fv.ownBlock=some g->P g)/\
 match pb with
 | .recd fs=>so=114/\∃ xs,w.ownsRow 0 80 10 fv fs.length xs/\∀ q f,fs[q]?=some f->∃ num:Nat,xs[10*q+1]?=some (.int .i64 (num:Int))/\isT ts num f.ty
 | .enum l _=>so=101/\sb.data.toList.map UInt8.toNat=l.map Prod.fst
 | .bytes k=>so=102/\n=(k:Int)
structure ZAt (w:World) (P:Nat->Prop) (bz:Nat) (ts:List TR) (env:Nat->Option PB):Prop where
 zP:P bz
 z:∃ tv zs,Blk w bz (tv::zs) 47/\zlb w P tv ts/\
  ∀ k,k<6->∀ pb,env (65+k)=some pb->∃ (so:Int) (fv:Value) (sb:BA) (o n:Int),(∀ p,p<5->zs[5*k+p]?=[Value.int .u8 so,fv,Value.string sb,Value.int .i64 o,Value.int .i64 n][p]?)/\zci w P ts pb so fv sb n
theorem zlb.fr {w:World}{P:Nat->Prop}{tv:Value}{ts:List TR}(h:zlb w P tv ts) (m:Fr w w' S) (l:∀ g,P g->¬ S g):zlb w' P tv ts:=by
 obtain⟨xs,a,b,c⟩:=h;refine⟨xs,za_ a m (λ g e=>l g (b g e)),b,λ k t q=>?_⟩;obtain⟨sv,c1,c2,c3,c4⟩:=c k t q;exact⟨sv,c1,c2,za_ c3 m (λ g e=>l g (c4 g e)),c4⟩
theorem zci.fr {w:World}{P:Nat->Prop}{ts:List TR}{pb:PB}{so:Int}{fv:Value}{sb:BA}{n:Int}(h:zci w P ts pb so fv sb n) (q:Fr w w' S) (m:∀ g,P g->¬ S g):zci w' P ts pb so fv sb n:=by
 obtain⟨a,b,c⟩:=h;refine⟨a,b,?_⟩
 cases pb with
 | recd fs=>
  obtain⟨c1,xs,c2,c3⟩:=c;exact⟨c1,xs,za_ c2 q (λ g e=>m g (b g e)),c3⟩
 | enum l o=>exact c
 | bytes k=>exact c
theorem ZAt.fr {w:World}{P:Nat->Prop}{bz:Nat}{ts:List TR}{env:Nat->Option PB}(h:ZAt w P bz ts env) (m:Fr w w' S) (l:∀ g,P g->¬ S g):ZAt w' P bz ts env:=by
 refine⟨h.zP,?_⟩;obtain⟨tv,zs,a,b,c⟩:=h.z;refine⟨tv,zs,m.blk a (l _ h.zP),b.fr m l,λ k hk pb q=>?_⟩;obtain⟨so,fv,sb,o,n,c1,c2⟩:=c k hk pb q;exact⟨so,fv,sb,o,n,c1,c2.fr m l⟩
theorem zp_ {w:World}{e:TypeId}{v:Value}{n:Nat}{xs:List Value}(h:w.ownsRow base e size v n xs){g cap:Nat}(l:v=.slice (some ⟨g,0,none⟩) n cap){k:Nat}{x:Value}(a:xs[k]?=some x):w.cell? ⟨g,k,none⟩=some x:=by
 have y:k<xs.length:=(as_.1 a).1
 rcases h.2 with⟨hn,_⟩|⟨g',t,u,q,hb,hg,_,_,_,m⟩
 ·rw[hn] at l;cases l
 ·rw[q] at l;cases l;simp only[World.cell?,hg];rw[<- m,b2_] at a;split at a
  ·simpa using a
  ·cases a
theorem ZAt.type {w:World}{P:Nat->Prop}{bz:Nat}{ts:List TR}{env:Nat->Option PB}(h:ZAt w P bz ts env){k:Nat}{t:TR}(q:ts[k]?=some t) :
 ∃ g n l sv,w.cell? ⟨bz,0,none⟩=some (.slice (some ⟨g,0,none⟩) n l)/\k<n/\w.cell? ⟨g,k*2,none⟩=some (.int .u8 (t.kind:Int))/\w.cell? ⟨g,k*2+1,none⟩=some sv/\
  w.ownsRow 0 3 1 sv t.subs.length (t.subs.map λ (n:Nat)=>Value.int .i64 (n:Int))/\∀ g,sv.ownBlock=some g->P g:=by
 obtain⟨tv,zs,a,⟨xs,b1,b2,b3⟩,c⟩:=h.z;obtain⟨sv,c1,c2,c3,c4⟩:=b3 k t q;have hk:k<ts.length:=(as_.1 q).1;obtain⟨g,l,m⟩:=zh_ b1 (by omega);refine⟨g,ts.length,l,sv,?_,hk,zp_ b1 m (by rw[a2_];exact c1),zp_ b1 m (by rw[a2_];exact c2),c3,c4⟩;rw[a.cell 0,m];rfl
open Go.RowKit
mutual
theorem zii (ts:List TR):∀ (t:PT) (b:Nat),(∀ q x,(flat b t)[q]?=some x->ts[b+q]?=some x)->isT ts (b+(flat b t).length-1) t
 | .leaf c p,b,h=>by
  simp only[flat,isT,am_,Nat.add_sub_cancel];exact h 0 _ rfl
 | .wrap c p t,b,h=>by
  have m:=znn b t;have h1:=zii ts t b (λ q x a=>h q x (by rw[flat,au_ (as_.1 a).1];exact a));have g:=h (flat b t).length ⟨c,[b+(flat b t).length-1]⟩ (by rw[flat,ar_ l_];simp);simp only[isT];refine⟨_,?_,h1⟩;rw[flat,ah_,am_,show b+((flat b t).length+1)-1=b+(flat b t).length by omega];exact g
 | .alts p l,b,h=>by
  have h1:=zdr ts l b (λ q x a=>h q x (by rw[flat,au_ (as_.1 a).1];exact a));have g:=h (yl_ b l).length ⟨40,nums b l⟩ (by rw[flat,ar_ l_];simp);simp only[isT];refine⟨_,?_,h1⟩;rw[flat,ah_,am_,show b+((yl_ b l).length+1)-1=b+(yl_ b l).length by omega];exact g
theorem zdr (ts:List TR):∀ (l:List PT) (b:Nat),(∀ q x,(yl_ b l)[q]?=some x->ts[b+q]?=some x)->isTs ts (nums b l) l
 | [],b,h=>by simp[isTs,nums]
 | t::r,b,h=>by
  have h1:=zii ts t b (λ q x a=>h q x (by rw[yl_,au_ (as_.1 a).1];exact a))
  have g:=zdr ts r (b+(flat b t).length) (λ q x a=>by
   rw[bv_]
   refine h _ x ?_
   rw[yl_,ar_ (by omega),Nat.add_sub_cancel_left]
   exact a)
  simp only[isTs];exact⟨_,_,by rw[nums],h1,g⟩
end
theorem zic {ts:List TR}:∀ {l:List PT}{js:List Nat},isTs ts js l->∀ (q:Nat) (t:PT),l[q]?=some t->∃ j,js[q]?=some j/\isT ts j t
 | [],js,h,q,t,ht=>by simp at ht
 | u::r,js,h,q,t,ht=>by
  simp only[isTs] at h;obtain⟨j,g,rfl,h1,a⟩:=h
  cases q with
  | zero=>simp only[aa_,ag_] at ht;subst ht;exact⟨j,rfl,h1⟩
  | succ q=>rw[ab_] at ht⊢;exact zic a q t ht
theorem zib {ts:List TR}:∀ {l:List PT}{js:List Nat},isTs ts js l->js.length=l.length
 | [],js,h=>by simp only[isTs] at h;subst h;rfl
 | u::r,js,h=>by
  simp only[isTs] at h;obtain⟨j,g,rfl,h1,a⟩:=h
  simp[zib a]
theorem zfo {env:Nat->Option PB}:∀ {l:List PT},okTs env l->∀ t∈l,t.isAlts=false/\okT env t
 | [],h,t,a=>by simp at a
 | u::r,h,t,a=>by
  simp only[okTs] at h
  rcases ap_.1 a with rfl|a
  ·exact⟨h.1,h.2.1⟩
  ·exact zfo h.2.2 t a
mutual
def shT:PT->Prop
 | .leaf c _=>yc_ c=true\/z5_ c=true
 | .wrap c _ t=>(c=91\/c=123)/\shT t
 | .alts _ l=>l≠[]/\shTs l
def shTs:List PT->Prop
 | []=>True
 | t::r=>shT t/\shTs r
end
theorem zwe (s:BA) (f:Nat) :
 (∀ i t j,pTyp s f i=.ok (t,j)->shT t)/\(∀ i ts j,x0_ s f i=.ok (ts,j)->ts≠[]/\shTs ts):=by
 induction f with
 | zero=>exact⟨λ i t j h=>by simp[pTyp] at h,λ i t j h=>by simp[x0_] at h⟩
 | succ f ih=>
  obtain⟨m,l⟩:=ih;refine⟨λ i t j h=>?_,λ i t j h=>?_⟩
  ·rw[jl_] at h;unfold za6 at h;split at h
   ·simp only[ae_,ad_] at h;obtain⟨rfl,rfl⟩:=h;rename_i hb;exact .inl hb
   ·split at h
    ·rename_i hc
     cases a:pTyp s f (i+1) with
     | error k=>rw[a] at h;simp at h
     | ok r=>
      obtain⟨q,j'⟩:=r;rw[a] at h;simp only at h;split at h
      ·simp only[ae_,ad_] at h;obtain⟨rfl,rfl⟩:=h;exact⟨hc,m _ _ _ a⟩
      ·simp at h
    ·split at h
     ·cases a:x0_ s f (i+1) with
      | error k=>rw[a] at h;simp at h
      | ok r=>
       obtain⟨q,j'⟩:=r;rw[a] at h;simp only at h;split at h
       ·simp only[ae_,ad_] at h;obtain⟨rfl,rfl⟩:=h;exact l _ _ _ a
       ·simp at h
     ·split at h
      ·simp only[ae_,ad_] at h;obtain⟨rfl,rfl⟩:=h;rename_i hb;exact .inr hb
      ·simp at h
  ·rw[vr_] at h;unfold zgn at h
   cases a:pTyp s f i with
   | error k=>rw[a] at h;simp at h
   | ok r=>
    obtain⟨q,j'⟩:=r;rw[a] at h;have h1:=m _ _ _ a;simp only at h;split at h
    ·cases g:x0_ s f (j'+1) with
     | error k=>rw[g] at h;simp at h
     | ok r=>
      obtain⟨ts,k⟩:=r;rw[g] at h;simp only[ae_,ad_] at h;obtain⟨rfl,rfl⟩:=h;exact⟨by simp,h1,(l _ _ _ g).2⟩
    ·simp only[ae_,ad_] at h;obtain⟨rfl,rfl⟩:=h;exact⟨by simp,h1,trivial⟩
theorem znc {s:BA}{t:PT}{j:Nat}(h:pT s i=.ok (t,j)):shT t:=(zwe s _).1 i t j h
theorem zo4 {a:List Nat}{t:PT}{m:Int}(h:zbf a t m<0):m<0/\t.kind≠40:=by
 unfold zbf at h;split at h
 ·omega
 ·rename_i hc;refine⟨h,λ e=>hc ⟨.inl e,.inl h⟩⟩
theorem zrr {t:PT}(h:t.kind≠40):t.isAlts=false:=by
 cases t<;>simp_all [PT.kind,PT.isAlts]
mutual
theorem zjy (env:Nat->Option PB):∀ (t:PT) (m:Int),shT t->mix t m<0->(∀ u∈zr_ t,∃ pb,env u.1=some pb)->m<0/\okT env t
 | .leaf c p,m,hs,hm,hu=>by
  simp only[mix] at hm;refine⟨hm,?_⟩;simp only[okT]
  cases hb:yc_ c with
  | true=>exact .inl rfl
  | false=>
   simp only[shT,hb] at hs;refine .inr ⟨hs.resolve_left (by decide),?_⟩;exact hu (c,p) (by simp[zr_,hb])
 | .wrap c p t,m,hs,hm,hu=>by
  simp only[shT] at hs;have:=zjy env t m hs.2 hm hu;exact⟨this.1,hs.1,this.2⟩
 | .alts p l,m,hs,hm,hu=>by
  simp only[shT] at hs;have:=zq7 env l [] m hs.2 hm hu;exact⟨this.1,hs.1,this.2⟩
theorem zq7 (env:Nat->Option PB):∀ (l:List PT) (g:List Nat) (m:Int),shTs l->mixs g l m<0->(∀ u∈zs_ l,∃ pb,env u.1=some pb)->m<0/\okTs env l
 | [],g,m,hs,hm,hu=>⟨hm,trivial⟩
 | t::r,g,m,hs,hm,hu=>by
  simp only[shTs] at hs;simp only[mixs] at hm;have h1:=zq7 env r _ _ hs.2 hm (λ u a=>hu u (by rw[zs_];exact List.mem_append_right _ a));have h:=zo4 h1.1;have q:=zjy env t m hs.1 h.1 (λ u a=>hu u (by rw[zs_];exact List.mem_append_left _ a));exact⟨q.1,zrr h.2,q.2,h1.2⟩
end
open Go.RowKit
def zg_:List Value:=zb_ 0 0 noB (.slice none 0 0) (.slice none 0 0)
structure DM (w:World) (P:Nat->Prop) (bl:Nat) (s:BA) (bz:Nat) (pl:Bool) (j:Nat) (bad:Bool) (ts:List TR) (env:Nat->Option PB) (W:World):Prop where
 L:LAt W bl s bz pl j bad
 Z:ZAt W P bz ts env
 nP:¬ P bl
 Plt:∀ g,P g->g<w.heap.size
 lt:bl<w.heap.size
 fr:Fr w W (· = bl)
 jl:j<=s.size
 sl:s.size<=4000
section
variable {w W W':World} {P:Nat->Prop} {bl:Nat} {s:BA} {bz:Nat} {pl:Bool} {j j':Nat} {bad bad':Bool} {ts:List TR} {env:Nat->Option PB}
theorem DM.call (M:DM w P bl s bz pl j bad ts env W) (g:LAt W' bl s bz pl j' bad') (a:Fr W W' (· = bl)) (h:j'<=s.size):DM w P bl s bz pl j' bad' ts env W':=
 ⟨g,M.Z.fr a (λ _ hg e=>M.nP (e▸hg)),M.nP,M.Plt,M.lt,M.fr.trans a u_,h,M.sl⟩
theorem DM.still (M:DM w P bl s bz pl j bad ts env W) (h:zd_ W W'):DM w P bl s bz pl j bad ts env W':=M.call (M.L.still h) ((Fr.refl W _).still h) M.jl
theorem DM.inc (M:DM w P bl s bz pl j bad ts env W) (h:j<s.size):DM w P bl s bz pl (j+1) bad ts env (W.setCell ⟨bl,1,none⟩ (.int .i64 ((j:Int)+1))):=M.call M.L.inc (Fr.one _ _ _) h
theorem DM.spoil (M:DM w P bl s bz pl j bad ts env W):DM w P bl s bz pl j true ts env (W.setCell ⟨bl,2,none⟩ (.bool true)):=M.call M.L.spoil (Fr.one _ _ _) M.jl
theorem DM.own (M:DM w P bl s bz pl j bad ts env W) (a:Fr W W' (λ g=>w.heap.size<=g)):DM w P bl s bz pl j bad ts env W':=by
 have:=M.lt;exact⟨a.blk M.L (by omega),M.Z.fr a (λ g hg=>by have:=M.Plt g hg;omega),M.nP,M.Plt,M.lt,M.fr.trans a (λ x h e=>absurd e (by omega)),M.jl,M.sl⟩
theorem DM.alloc (M:DM w P bl s bz pl j bad ts env W) (o:Obj):DM w P bl s bz pl j bad ts env (W.alloc o):=M.own ((Fr.refl W _).alloc o)
theorem DM.put (M:DM w P bl s bz pl j bad ts env W) (a:Addr) (v:Value) (h:w.heap.size<=a.block):DM w P bl s bz pl j bad ts env (W.setCell a v):=M.own ((Fr.refl W _).setCell a v (λ _=>h))
theorem DM.here (M:DM w P bl s bz pl j bad ts env W):DM W P bl s bz pl j bad ts env W:=
 ⟨M.L,M.Z,M.nP,λ g hg=>a5_ (M.Plt g hg) M.fr.size,a5_ M.lt M.fr.size,Fr.refl _ _,M.jl,M.sl⟩
end
def z6_ (w:World) (bl:Nat) (s:BA) (bz:Nat) (pl:Bool) (r:Option (DT×Nat)) (e:Ending) (w':World):Prop:=
 ∃ (k:Nat) (n:Int) (tx:BA) (vk vs:Value),e=.returned (.agg (zb_ k n tx vk vs).toArray)/\(∃ a m c,vk=.slice a m c)/\(∃ a m c,vs=.slice a m c)/\Fr w w' (· = bl)/\
 match r with
 | none=>∃ j,j<=s.size/\LAt w' bl s bz pl j true
 | some (d,j)=>j<=s.size/\LAt w' bl s bz pl j false/\DVal w' (λ g=>w.heap.size<=g) d (zb_ k n tx vk vs)
def j9_ (s:BA) (env:Nat->Option PB) (pl:Bool) (ts:List TR) (f:Nat) (t:PT) (i:Nat):Prop:=
 ∀ (w:World) (P:Nat->Prop) (bl bz k:Nat),DM w P bl s bz pl i false ts env w->isT ts k t->
  Calls prog 34 #[.pointer (some ⟨bl,0,none⟩),.int .i64 (k:Int)] w (z6_ w bl s bz pl (rdT s env pl f t i))
section
variable {w W W':World} {P:Nat->Prop} {bl:Nat} {s:BA} {bz:Nat} {pl:Bool} {j:Nat} {ts:List TR} {env:Nat->Option PB} {k:Nat} {n:Int} {tx:BA} {vk vs:Value} {d:DT} {r:Option (DT×Nat)}
theorem x9_ (M:DM w P bl s bz pl j false ts env W) (a:DVal W (λ g=>w.heap.size<g) d (zb_ k n tx vk vs)) (m:Fr W W' (λ g=>g=w.heap.size)) (t:r=some (d,j)) :
 z6_ w bl s bz pl r (.returned (.agg (zb_ k n tx vk vs).toArray)) W':=by
 have l:=M.own (m.mono (λ _ _ e=>by omega));have q:=(a.fr m (λ g hg=>by omega)).mono (Q:=λ g=>w.heap.size<=g) (λ g _ hg=>by omega);refine⟨k,n,tx,vk,vs,rfl,?_,?_,l.fr,?_⟩
 ·generalize h:zb_ k n tx vk vs=v at a
  cases a with
  | mk X hk hkP hs hsP hd=>
   simp only[zb_,List.cons.injEq,and_true] at h;obtain⟨_,_,_,rfl,rfl⟩:=h;exact zn_ hk
 ·generalize h:zb_ k n tx vk vs=v at a
  cases a with
  | mk X hk hkP hs hsP hd=>
   simp only[zb_,List.cons.injEq,and_true] at h;obtain⟨_,_,_,rfl,rfl⟩:=h;exact zn_ hs
 ·subst t;exact⟨M.jl,l.L,q⟩
theorem v4_ (M:DM w P bl s bz pl j true ts env W) (h1:∃ a m c,vk=.slice a m c) (l:∃ a m c,vs=.slice a m c) (q:Fr W W' (λ g=>g=w.heap.size)) (t:r=none) :
 z6_ w bl s bz pl r (.returned (.agg (zb_ k n tx vk vs).toArray)) W':=by
 have h:=M.own (q.mono (λ _ _ e=>by omega));refine⟨k,n,tx,vk,vs,rfl,h1,l,h.fr,?_⟩;subst t;exact⟨j,M.jl,h.L⟩
end
def dw (w:World) (c:Nat) (sv:Value):World:=
 ((w.alloc (.cells zg_.toArray 37)).alloc (.cells #[.int .u8 (c:Int),sv] 77)).alloc (.cells (zb_ c 0 noB (.slice none 0 0) (.slice none 0 0)).toArray 37)
theorem dw_0 (w:World) (c:Nat) (sv:Value):Blk (dw w c sv) w.heap.size zg_ 37:=((Blk.new w _ _).alloc _).alloc _
theorem dw_1 (w:World) (c:Nat) (sv:Value):Blk (dw w c sv) (w.heap.size+1) [.int .u8 (c:Int),sv] 77:=by
 have:=(Blk.new (w.alloc (.cells zg_.toArray 37)) #[.int .u8 (c:Int),sv] 77).alloc (.cells (zb_ c 0 noB (.slice none 0 0) (.slice none 0 0)).toArray 37)
 simpa[dw] using this
theorem dw_2 (w:World) (c:Nat) (sv:Value):Blk (dw w c sv) (w.heap.size+2) (zb_ c 0 noB (.slice none 0 0) (.slice none 0 0)) 37:=by
 have:=Blk.new ((w.alloc (.cells zg_.toArray 37)).alloc (.cells #[.int .u8 (c:Int),sv] 77)) (zb_ c 0 noB (.slice none 0 0) (.slice none 0 0)).toArray 37
 simpa[dw] using this
theorem dw_M {w:World}{P:Nat->Prop}{bl:Nat}{s:BA}{bz:Nat}{pl:Bool}{j:Nat}{bad:Bool}{ts:List TR}{env:Nat->Option PB}(M:DM w P bl s bz pl j bad ts env w) (c:Nat) (sv:Value):DM w P bl s bz pl j bad ts env (dw w c sv):=((M.alloc _).alloc _).alloc _
open Go.RowKit
structure LM (w:World) (P:Nat->Prop) (bl:Nat) (s:BA) (bz:Nat) (pl:Bool) (j:Nat) (bad:Bool) (ts:List TR) (env:Nat->Option PB) (b0 b1 B c:Nat) (vk vs:Value) (ks:List BA) (n:Nat) (xs:List Value) (W:World):Prop where
 M:DM w P bl s bz pl j bad ts env W
 hb:w.heap.size<=b0/\b0<b1/\b1<B
 bB:B<=W.heap.size
 r0:Blk W b0 zg_ 37
 r1:Blk W b1 (zb_ c 0 noB vk vs) 37
 kr:W.ownsRow B 9 1 vk ks.length (ks.map Value.string)
 vr:W.ownsRow B 37 5 vs n xs
 ap:∀ g,vk.ownBlock=some g->vs.ownBlock≠some g
def Dts (W:World) (B:Nat) (vk vs:Value) (ds:List DT) (n:Nat) (xs:List Value):Prop:=
 n=ds.length/\∃ X:Nat->List Value,xs=(List.range ds.length).flatMap X/\∀ i d,ds[i]?=some d->DVal W (λ g=>B<=g/\vk.ownBlock≠some g/\vs.ownBlock≠some g) d (X i)
theorem Dts.nil (W:World) (B:Nat) (vk vs:Value):Dts W B vk vs [] 0 []:=⟨rfl,λ _=>[],rfl,λ i d h=>by simp at h⟩
theorem Dts.fr {W W':World}{B:Nat}{vk vs:Value}{ds:List DT}{n:Nat}{xs:List Value}(h:Dts W B vk vs ds n xs) (m:Fr W W' S) (l:∀ g,B<=g->vk.ownBlock≠some g->vs.ownBlock≠some g->¬ S g):Dts W' B vk vs ds n xs:=by
 obtain⟨a,X,b,c⟩:=h;exact⟨a,X,b,λ i d e=>(c i d e).fr m (λ g hg=>l g hg.1 hg.2.1 hg.2.2)⟩
section
variable {w W W':World} {P:Nat->Prop} {bl:Nat} {s:BA} {bz:Nat} {pl:Bool} {j j':Nat} {bad bad':Bool} {ts:List TR} {env:Nat->Option PB} {b0 b1 B c:Nat} {vk vs:Value} {ks:List BA} {n:Nat} {xs:List Value} {ds:List DT}
theorem LM.call (Q:LM w P bl s bz pl j bad ts env b0 b1 B c vk vs ks n xs W) (h:LAt W' bl s bz pl j' bad') (a:Fr W W' (· = bl)) (l:j'<=s.size):LM w P bl s bz pl j' bad' ts env b0 b1 B c vk vs ks n xs W':=by
 have h1:=Q.M.lt;have m:=Q.hb;exact⟨Q.M.call h a l,Q.hb,ai_ Q.bB a.size,a.blk Q.r0 (by omega),a.blk Q.r1 (by omega),za_ Q.kr a (λ g hg e=>by have:=Q.kr.lt g hg;omega),za_ Q.vr a (λ g hg e=>by have:=Q.vr.lt g hg;omega),Q.ap⟩
theorem LM.dts (Q:LM w P bl s bz pl j bad ts env b0 b1 B c vk vs ks n xs W) (D:Dts W B vk vs ds n xs) (a:Fr W W' (· = bl)):Dts W' B vk vs ds n xs:=by
 have h1:=Q.M.lt;have h:=Q.hb;exact D.fr a (λ g hg _ _ e=>by omega)
theorem LM.still (Q:LM w P bl s bz pl j bad ts env b0 b1 B c vk vs ks n xs W) (h:zd_ W W'):LM w P bl s bz pl j bad ts env b0 b1 B c vk vs ks n xs W':=Q.call (Q.M.L.still h) ((Fr.refl W _).still h) Q.M.jl
theorem Dts.still (D:Dts W B vk vs ds n xs) (h:zd_ W W'):Dts W' B vk vs ds n xs:=D.fr ((Fr.refl W (λ _=>False)).still h) (λ _ _ _ _ f=>f)
theorem LM.inc (Q:LM w P bl s bz pl j bad ts env b0 b1 B c vk vs ks n xs W) (h:j<s.size):LM w P bl s bz pl (j+1) bad ts env b0 b1 B c vk vs ks n xs (W.setCell ⟨bl,1,none⟩ (.int .i64 ((j:Int)+1))):=Q.call Q.M.L.inc (Fr.one _ _ _) h
theorem LM.spoil (Q:LM w P bl s bz pl j bad ts env b0 b1 B c vk vs ks n xs W):LM w P bl s bz pl j true ts env b0 b1 B c vk vs ks n xs (W.setCell ⟨bl,2,none⟩ (.bool true)):=Q.call Q.M.L.spoil (Fr.one _ _ _) Q.M.jl
theorem LM.alloc (Q:LM w P bl s bz pl j bad ts env b0 b1 B c vk vs ks n xs W) (o:Obj):LM w P bl s bz pl j bad ts env b0 b1 B c vk vs ks n xs (W.alloc o):=
 ⟨Q.M.alloc o,Q.hb,by have:=Q.bB;simp;omega,Q.r0.alloc o,Q.r1.alloc o,World.ownsRow.alloc Q.kr o,World.ownsRow.alloc Q.vr o,Q.ap⟩
theorem Dts.alloc (D:Dts W B vk vs ds n xs) (o:Obj):Dts (W.alloc o) B vk vs ds n xs:=D.fr ((Fr.refl W (λ _=>False)).alloc o) (λ _ _ _ _ f=>f)
theorem zi1 {P:Nat->Prop}{d:DT}(h:DVal W P d v):DVal W (λ g=>P g/\g<W.heap.size) d v:=h.mono (λ _ hg a=>⟨a,hg⟩)
theorem LM.key (Q:LM w P bl s bz pl j bad ts env b0 b1 B c vk vs ks n xs W){l:Value}{key:BA}(hg:(W.alloc o).grownBy w5 vk.ownBlock) (ho:w5.ownsRow B 9 1 l (ks.length+1) (ks.map Value.string++[.string key]))
 (hl:l.ownBlock=vk.ownBlock\/l.ownBlock=some (W.alloc o).heap.size) :
 LM w P bl s bz pl j bad ts env b0 b1 B c l vs (ks++[key]) n xs (w5.setCell ⟨b1,3,none⟩ l)/\(∀ ds,Dts W B vk vs ds n xs->Dts (w5.setCell ⟨b1,3,none⟩ l) B l vs ds n xs):=by
 have hb:=Q.hb;have z:=Q.bB;have u:Fr W w5 (λ g=>vk.ownBlock=some g):=Fr.grown ((Fr.refl W _).alloc o) hg (λ k e _=>e)
 have t:∀ g,l.ownBlock=some g->B<=g/\(vk.ownBlock=some g\/W.heap.size<=g):=λ g h=>by
  rcases hl with e|e
  ·exact⟨(Q.kr.lt g (e▸h)).1,.inl (e▸h)⟩
  ·rw[e] at h;simp only[ag_] at h
   have:(W.alloc o).heap.size=W.heap.size+1:=by simp
   exact⟨by omega,.inr (by omega)⟩
 have x:Fr w5 (w5.setCell ⟨b1,3,none⟩ l) (λ g=>g=b1):=(Fr.refl w5 (λ g=>g=b1)).setCell ⟨b1,3,none⟩ l (λ _=>rfl);have m:Fr W (w5.setCell ⟨b1,3,none⟩ l) (λ g=>vk.ownBlock=some g\/g=b1):=(u.mono (λ _ _ e=>.inl e)).trans x (λ _ _ e=>.inr e);have y:=u.blk Q.r1 (λ e=>by have:=Q.kr.lt _ e;omega);refine⟨⟨Q.M.own (m.mono (λ g _ e=>?_)),Q.hb,ai_ z m.size,m.blk Q.r0 (λ e=>?_),y.set 3 l,?_,za_ Q.vr m (λ g h e=>?_),λ g h e=>?_⟩,λ ds D=>?_⟩
 ·rcases e with e|e
  ·have:=Q.kr.lt g e;omega
  ·omega
 ·rcases e with e|e
  ·have:=Q.kr.lt _ e;omega
  ·omega
 ·rw[ah_,am_,be_,ay_,a6_];exact za_ ho x (λ g h e=>by have:=t g h;omega)
 ·rcases e with e|e
  ·exact Q.ap g e h
  ·have:=Q.vr.lt _ h;omega
 ·rcases(t g h).2 with q|q
  ·exact Q.ap g q e
  ·have:=Q.vr.lt _ e;omega
 ·obtain⟨a,X,b,c⟩:=D;refine⟨a,X,b,λ i d e=>((zi1 (c i d e)).fr m (λ g h e=>?_)).mono (λ g _ h=>⟨h.1.1,λ e=>?_,h.1.2.2⟩)⟩
  ·rcases e with e|e
   ·exact h.1.2.1 e
   ·have:=h.1.1;omega
  ·rcases(t g e).2 with q|q
   ·exact h.1.2.1 q
   ·have:=h.2;omega
theorem LM.item (Q:LM w P bl s bz pl j bad ts env b0 b1 B c vk vs ks n xs W){l:Value}(hg:(W.alloc o).grownBy w5 vs.ownBlock) (ho:w5.ownsRow B 37 5 l (n+1) (xs++v))
 (hl:l.ownBlock=vs.ownBlock\/l.ownBlock=some (W.alloc o).heap.size) :
 LM w P bl s bz pl j bad ts env b0 b1 B c vk l ks (n+1) (xs++v) (w5.setCell ⟨b1,4,none⟩ l)/\
  (∀ ds d,Dts W B vk vs ds n xs->DVal W (λ g=>B<=g/\vk.ownBlock≠some g/\vs.ownBlock≠some g) d v->Dts (w5.setCell ⟨b1,4,none⟩ l) B vk l (ds++[d]) (n+1) (xs++v)):=by
 have hb:=Q.hb;have C:=Q.bB;have x:Fr W w5 (λ g=>vs.ownBlock=some g):=Fr.grown ((Fr.refl W _).alloc o) hg (λ k e _=>e)
 have u:∀ g,l.ownBlock=some g->B<=g/\(vs.ownBlock=some g\/W.heap.size<=g):=λ g a=>by
  rcases hl with e|e
  ·exact⟨(Q.vr.lt g (e▸a)).1,.inl (e▸a)⟩
  ·rw[e] at a;simp only[ag_] at a
   have:(W.alloc o).heap.size=W.heap.size+1:=by simp
   exact⟨by omega,.inr (by omega)⟩
 have y:Fr w5 (w5.setCell ⟨b1,4,none⟩ l) (λ g=>g=b1):=(Fr.refl w5 (λ g=>g=b1)).setCell ⟨b1,4,none⟩ l (λ _=>rfl);have m:Fr W (w5.setCell ⟨b1,4,none⟩ l) (λ g=>vs.ownBlock=some g\/g=b1):=(x.mono (λ _ _ e=>.inl e)).trans y (λ _ _ e=>.inr e);have z:=x.blk Q.r1 (λ e=>by have:=Q.vr.lt _ e;omega);refine⟨⟨Q.M.own (m.mono (λ g _ e=>?_)),Q.hb,ai_ C m.size,m.blk Q.r0 (λ e=>?_),z.set 4 l,za_ Q.kr m (λ g a e=>?_),za_ ho y (λ g a e=>by have:=u g a;omega),λ g a e=>?_⟩,λ ds d D hd=>?_⟩
 ·rcases e with e|e
  ·have:=Q.vr.lt g e;omega
  ·omega
 ·rcases e with e|e
  ·have:=Q.vr.lt _ e;omega
  ·omega
 ·rcases e with e|e
  ·exact Q.ap g a e
  ·have:=Q.kr.lt _ a;omega
 ·rcases(u g e).2 with q|q
  ·exact Q.ap g a q
  ·have:=Q.kr.lt _ a;omega
 ·have keep:∀ {e v},DVal W (λ g=>B<=g/\vk.ownBlock≠some g/\vs.ownBlock≠some g) e v->DVal (w5.setCell ⟨b1,4,none⟩ l) (λ g=>B<=g/\vk.ownBlock≠some g/\l.ownBlock≠some g) e v:=λ he=>
   ((zi1 he).fr m (λ g a e=>by
     rcases e with e|e
     ·exact a.1.2.2 e
     ·have:=a.1.1;omega)).mono (λ g _ a=>⟨a.1.1,a.1.2.1,λ e=>by
     rcases(u g e).2 with q|q
     ·exact a.1.2.2 q
     ·have:=a.2;omega⟩)
  obtain⟨rfl,X,rfl,A⟩:=D;refine⟨by rw[ah_,am_],λ i=>if i<ds.length then X i else v,?_,λ i e he=>?_⟩
  ·rw[ah_,am_,bh_,a8_,yi_ ds.length (λ i=>if i<ds.length then X i else v) X (λ i t=>by simp[t])]
   simp
  ·by_cases t:i<ds.length
   ·rw[au_ t] at he;simp only[t,if_true];exact keep (A i e he)
   ·rw[ar_ (by omega)] at he
    have h0:i-ds.length=0:=by
     rcases bx_ (i-ds.length) with h|h
     ·exact h
     ·rw[bn_ (by simp;omega)] at he;cases he
    rw[h0] at he;simp only[aa_,ag_] at he;subst he;simp only[t,if_false];exact keep hd
theorem LM.itemCell (Q:LM w P bl s bz pl j bad ts env b0 b1 B c vk vs ks n xs W)(hg:(W.alloc o).grownBy w5 vs.ownBlock):w5.cell? ⟨b1,4,none⟩=some vs/\w5.frozen? ⟨b1,4,none⟩=false:=by
 have hb:=Q.hb;have h:Fr W w5 (λ g=>vs.ownBlock=some g):=Fr.grown ((Fr.refl W _).alloc o) hg (λ k e _=>e);have a:=h.blk Q.r1 (λ e=>by have:=Q.vr.lt _ e;omega);exact⟨a.cell 4,a.thaw 4⟩
theorem LM.keyCell (Q:LM w P bl s bz pl j bad ts env b0 b1 B c vk vs ks n xs W)(hg:(W.alloc o).grownBy w5 vk.ownBlock):w5.cell? ⟨b1,3,none⟩=some vk/\w5.frozen? ⟨b1,3,none⟩=false:=by
 have hb:=Q.hb;have h:Fr W w5 (λ g=>vk.ownBlock=some g):=Fr.grown ((Fr.refl W _).alloc o) hg (λ k e _=>e);have a:=h.blk Q.r1 (λ e=>by have:=Q.kr.lt _ e;omega);exact⟨a.cell 3,a.thaw 3⟩
theorem LM.dval (Q:LM w P bl s bz pl j bad ts env b0 b1 B c vk vs ks n xs W) (D:Dts W B vk vs ds n xs) (k:Nat):DVal W (λ g=>B<=g) (.mk k 0 noB ks ds) (zb_ k 0 noB vk vs):=by
 obtain⟨rfl,X,rfl,a⟩:=D;exact .mk X (yq_ Q.kr) (λ g e=>(Q.kr.lt g e).1) (yq_ Q.vr) (λ g e=>(Q.vr.lt g e).1) (λ i d e=>(a i d e).mono (λ g _ hg=>hg.1))
end
open Go.RowKit
def zgi (acc:List (BA×DT)):Option (List (BA×DT)×Nat)->Option (List (BA×DT)×Nat)
 | none=>none
 | some (l,e)=>some (acc++l,e)
def jc_ (acc:List (BA×DT)):Option BA:=acc.getLast?.map Prod.fst
def zpq (R:Nat->Option (DT×Nat)) (s:BA) (fin:Nat) (keyed:Bool) (n:Nat) (acc:List (BA×DT)) (j:Nat):Option (List (BA×DT)×Nat):=
 if bt s j=fin then some (acc,j+1) else if bt s j=44 then zgi acc (xi_ R s fin keyed n (jc_ acc) (j+1)) else none
def zpa (R:Nat->Option (DT×Nat)) (s:BA) (fin:Nat) (keyed:Bool) (n:Nat) (acc:List (BA×DT)) (k:BA) (j:Nat):Option (List (BA×DT)×Nat):=
 match R j with
 | none=>none
 | some (d,e)=>zpq R s fin keyed n (acc++[(k,d)]) e
theorem zpx (x:Option (List (BA×DT)×Nat)):zgi [] x=x:=by
 match x with
 | none=>rfl
 | some (r,j)=>rfl
theorem zgh (R:Nat->Option (DT×Nat)) (s:BA) (fin:Nat) (keyed:Bool) (n:Nat) (acc:List (BA×DT)) (last:Option BA) (j:Nat):zgi acc (xi_ R s fin keyed (n+1) last j) =
 match zfh s keyed last j with
 | none=>none
 | some (k,a)=>zpa R s fin keyed n acc k a:=by
 rw[xi_]
 cases zfh s keyed last j with
 | none=>rfl
 | some q=>
  obtain⟨k,a⟩:=q;simp only[zpa]
  cases R a with
  | none=>rfl
  | some q=>
   obtain⟨d,e⟩:=q;simp only[zpq];split
   ·rfl
   ·split
    ·have:jc_ (acc++[(k,d)])=some k:=by simp[jc_]
     rw[this]
     cases xi_ R s fin keyed n (some k) (e+1) with
     | none=>rfl
     | some q=>simp[zgi]
    ·rfl
def zuf (keyed:Bool):Option (List (BA×DT)×Nat)->Option (DT×Nat)
 | none=>none
 | some (l,e)=>some (.mk 0 0 noB (if keyed=true then l.map Prod.fst else []) (l.map Prod.snd),e)
def v7_ (keyed:Bool) (acc:List (BA×DT)):List BA:=if keyed=true then acc.map Prod.fst else []
def LInv (R_:Option (List (BA×DT)×Nat)) (R:Nat->Option (DT×Nat)) (fin:Nat) (keyed:Bool) (i:Nat) (w:World) (P:Nat->Prop) (bl:Nat) (s:BA) (bz:Nat) (pl:Bool) (ts:List TR) (env:Nat->Option PB) (m:Nat) (W:World):Prop:=
 ∃ vk vs ks n xs,
  ((∃ acc j,LM w P bl s bz pl j false ts env w.heap.size (w.heap.size+1) (w.heap.size+2) 0 vk vs ks n xs W/\Dts W (w.heap.size+2) vk vs (acc.map Prod.snd) n xs/\ks=v7_ keyed acc/\s.size+2-j<=m/\
   ((acc=[]/\j=i/\R_=if bt s i=fin then some ([],i+1) else zgi [] (xi_ R s fin keyed (s.size+2) none i))\/(acc≠[]/\i+acc.length<=j/\∃ nn,s.size<nn+j/\R_=zpq R s fin keyed nn acc j)))\/
   (∃ j,LM w P bl s bz pl j true ts env w.heap.size (w.heap.size+1) (w.heap.size+2) 0 vk vs ks n xs W/\R_=none))
theorem zni {w:World}{P:Nat->Prop}{bl:Nat}{s:BA}{bz:Nat}{pl:Bool}{bad:Bool}{ts:List TR}{env:Nat->Option PB}(M:DM w P bl s bz pl i bad ts env w) :
 LM w P bl s bz pl i bad ts env w.heap.size (w.heap.size+1) (w.heap.size+2) 0 (.slice none 0 0) (.slice none 0 0) [] 0 [] ((w.alloc (.cells zg_.toArray 37)).alloc (.cells zg_.toArray 37)):=by
 refine⟨(M.alloc _).alloc _,by omega,by simp,(Blk.new w _ _).alloc _,?_,World.ownsRow_nil _ _ _ _,World.ownsRow_nil _ _ _ _,λ g hg=>by simp[Value.ownBlock] at hg⟩;have:=Blk.new (w.alloc (.cells zg_.toArray 37)) zg_.toArray 37
 have e:(w.alloc (.cells zg_.toArray 37)).heap.size=w.heap.size+1:=by simp
 rw[e] at this;exact this
theorem zhm:Tryz.prog.underlying 35=some (.slice 37):=by kernel_rfl
theorem zif:(Tryz.prog.info? 37).map (λ i=>(i.zero,i.size,i.bytes))=some (some (.agg zg_.toArray),5,80):=by kernel_rfl
theorem zm1:Tryz.prog.underlying 34=some (.slice 9):=by kernel_rfl
theorem zyw:(Tryz.prog.info? 9).map (λ i=>(i.zero,i.size,i.bytes))=some (some (.string noB),1,16):=by kernel_rfl
def zzl (s:BA) (env:Nat->Option PB) (pl:Bool) (ts:List TR) (t:PT):Prop:=
 ∀ (w:World) (P:Nat->Prop) (bl bz k i:Nat),DM w P bl s bz pl i true ts env w->isT ts k t->
  Calls prog 34 #[.pointer (some ⟨bl,0,none⟩),.int .i64 (k:Int)] w (z6_ w bl s bz pl none)
open Go.RowKit
theorem zk_ {w:World}{o:Nat}{v:Value}(h:w.cell? ⟨b,o,none⟩=some v):b<w.heap.size:=World.block_lt_of_cell? w ⟨b,o,none⟩ h
theorem zdy {w:World}{o:Nat}{v:Value}(h:w.cell? ⟨b,o,none⟩=some v) (X:Obj):(w.alloc X).cell? ⟨b,o,none⟩=some v:=by
 rw[World.cell?_alloc_past X b o (zk_ h)];exact h
theorem zl_ {w:World}{o:Nat}{v:Value}(h:w.cell? ⟨b,o,none⟩=some v) (X Y Z:Obj):(((w.alloc X).alloc Y).alloc Z).cell? ⟨b,o,none⟩=some v:=zdy (zdy (zdy h X) Y) Z
theorem LEat.any {w:World}{P:Nat->Prop}{bl:Nat}{s:BA}{bz:Nat}{pl:Bool}{j:Nat}{bad:Bool}{ts:List TR}{env:Nat->Option PB}{W:World}{d:Nat}(hd:0<d) (M:DM w P bl s bz pl j bad ts env W) (h:LEat W bl s bz pl j bad d w') :
 ∃ j' bad',DM w P bl s bz pl j' bad' ts env w'/\Fr W w' (· = bl)/\H_ ((bad=false/\bt s j=d/\j'=j+1/\bad'=false)\/((bad=true\/bt s j≠d)/\j'=j/\bad'=true)):=by
 have:=M.jl;obtain⟨h1,a⟩:=h
 cases bad with
 | true=>
  by_cases hb:lk s j true=d
  ·simp[lk] at hb;omega
  ·rw[if_neg hb] at h1;exact⟨j,true,M.call h1 a M.jl,a,.inr ⟨.inl rfl,rfl,rfl⟩⟩
 | false=>
  by_cases hb:lk s j false=d
  ·rw[if_pos hb] at h1;exact⟨j+1,false,M.call h1.1 a h1.2,a,.inl ⟨rfl,by simpa[lk] using hb,rfl,rfl⟩⟩
  ·rw[if_neg hb] at h1;exact⟨j,true,M.call h1 a M.jl,a,.inr ⟨.inr (by simpa[lk] using hb),rfl,rfl⟩⟩
theorem zz9 {s:BA}{env:Nat->Option PB}{pl:Bool}{ts:List TR}:j9_ s env pl ts (f+1) (.leaf 110 p) i:=by
 intro w P bl bz k M hk;simp only[isT] at hk;obtain⟨g,m,a2,sv,z0,a3,D,z2,ho,C⟩:=M.Z.type hk;simp only[af_] at D;refine hq_ λ a0 H=>?_;have a5:=M.lt;have a6:=zk_ z0;have a7:=zk_ D;have c3:=M.L.c3;have c2:=M.L.c2;have J:=M.jl;have K:=M.sl;obtain⟨t,sn,u,rfl⟩:=zn_ ho;have y:=q_ (dw_M M 110 (.slice t sn u));have E:=q_ (dw_0 w 110 (.slice t sn u));have B1:=q_ (dw_1 w 110 (.slice t sn u));have F:=q_ (dw_2 w 110 (.slice t sn u));have d2:=λ X Y Z=>zl_ c2 X Y Z
 have a4:(k:Int)<(m:Int):=by omega
 replace M:=q_ M;replace ho:=q_ ho;replace C:=q_ C;replace hk:=q_ hk
 go_in
 go_wp2_with (go_at_call 59;refine(xo_ 78 y.o.L K J rfl (by decide)).mono ?_;rintro e w1 ⟨rfl,z⟩;obtain⟨j1,a1,q,l,I⟩:=LEat.any (by decide) y.o z;have a:=l.blk E.o (by omega);have h:=l.blk F.o (by omega);have r0:=a.cell 0;have r1:=a.cell 1;have V:=a.cell 2;have r3:=a.cell 3;have r4:=a.cell 4;have t0:=h.cell 0;have t1:=h.cell 1;have t2:=h.cell 2;have t3:=h.cell 3;have t4:=h.cell 4;obtain⟨g0,g1,g2,g3,g4⟩:=a.t5;simp only[zg_,zb_,aa_,ab_,af_] at r0 r1 V r3 r4 t0 t1 t2 t3 t4;replace q:=q_ q;replace l:=q_ l;replace a:=q_ a;replace h:=q_ h;clear z)
 have G:=Blk.five a.o (.int .u8 110) (.int .i64 0) (.string noB) (.slice none 0 0) (.slice none 0 0);obtain⟨N,O,T,q3,U⟩:=G.d5;have A:=Fr.five w1 (w.heap.size) (.int .u8 110) (.int .i64 0) (.string noB) (.slice none 0 0) (.slice none 0 0);generalize (((((World.setCell w1 ⟨w.heap.size,0,none⟩ (.int .u8 110)).setCell ⟨w.heap.size,1,none⟩ (.int .i64 0)).setCell ⟨w.heap.size,2,none⟩ (.string noB)).setCell ⟨w.heap.size,3,none⟩ (.slice none 0 0)).setCell ⟨w.heap.size,4,none⟩ (.slice none 0 0))=W5 at *;refine bodyPost_ret (v:=.agg (zb_ 110 0 noB (.slice none 0 0) (.slice none 0 0)).toArray) (by simp[results,results34,go_sem,N,O,T,q3,U,zb_]) rfl ?_;rw[H.o]
 rcases I.o with⟨_,x,rfl,rfl⟩|⟨x,rfl,rfl⟩
 ·exact x9_ q.o (DVal.bare _ _ 110 0 noB) A (by simp[rdT,xx_,x])
 ·exact v4_ q.o ⟨_,_,_,rfl⟩ ⟨_,_,_,rfl⟩ A (by simp[rdT,xx_];simpa using x)
open Go.RowKit
theorem zz7 {s:BA}{env:Nat->Option PB}{pl:Bool}{ts:List TR}:j9_ s env pl ts (f+1) (.leaf 116 p) i:=by
 intro w P bl bz k M hk;simp only[isT] at hk;obtain⟨g,m,a7,sv,z0,a8,z1,z2,ho,a1⟩:=M.Z.type hk;simp only[af_] at z1;refine hq_ λ a5 Q_=>?_;have b4:=M.lt;have b5:=zk_ z0;have b6:=zk_ z1;have c3:=M.L.c3;have c2:=M.L.c2;have N:=M.jl;have O:=M.sl;obtain⟨G,sn,H,rfl⟩:=zn_ ho;have D:=q_ (dw_M M 116 (.slice G sn H));have B0:=q_ (dw_0 w 116 (.slice G sn H));have B1:=q_ (dw_1 w 116 (.slice G sn H));have B2:=q_ (dw_2 w 116 (.slice G sn H));have d2:=λ X Y Z=>zl_ c2 X Y Z
 have a9:(k:Int)<(m:Int):=by omega
 replace M:=q_ M;replace ho:=q_ ho;replace a1:=q_ a1;replace hk:=q_ hk;obtain⟨c,hc⟩:∃ c,bt s i=c:=⟨_,rfl⟩;have a0:=q_ (show lk s i false=c by simp[lk,hc])
 by_cases E:c=84
 ·subst E;have a4:i<s.size:=zj_ (by omega);replace hc:=q_ hc
  go_in
  go_wp2_with (go_at_call 60;refine(y9_ D.o.L O N).mono ?_;rintro e w1 ⟨rfl,A⟩;rw[a0.o];have u:=D.o.still A;have q:=(Fr.refl _ (λ g=>g=bl)).still A;have x:=q.blk B0.o (by omega);have y:=q.blk B2.o (by omega);have p1:=y.cell 1;have p2:=y.thaw 1;simp only[zb_,aa_,ab_] at p1;have l:=u.put ⟨w.heap.size+1+1,1,none⟩ (.int .i64 1) (by simp;omega);have E2:=Blk.set y 1 (.int .i64 1);have h:=Blk.other x (a:=⟨w.heap.size+2,1,none⟩) (.int .i64 1) (by simp);have c1:=l.L.c1;have f1:=l.L.thaw 1;have J:=l.inc a4;have z:=Blk.other E2 (a:=⟨bl,1,none⟩) (.int .i64 ((i:Int)+1)) (by simp;omega);have t:=Blk.other h (a:=⟨bl,1,none⟩) (.int .i64 ((i:Int)+1)) (by simp;omega);have r0:=t.cell 0;have r1:=t.cell 1;have r2:=t.cell 2;have r3:=t.cell 3;have r4:=t.cell 4;have t0:=z.cell 0;have t1:=z.cell 1;have t2:=z.cell 2;have t3:=z.cell 3;have t4:=z.cell 4;obtain⟨g0,g1,g2,g3,g4⟩:=t.t5;simp only[zg_,zb_,aa_,ab_,aj_,al_,af_] at r0 r1 r2 r3 r4 t0 t1 t2 t3 t4;replace u:=q_ u;replace l:=q_ l;replace J:=q_ J;replace q:=q_ q;replace x:=q_ x;replace y:=q_ y;replace h:=q_ h;replace E2:=q_ E2;replace t:=q_ t;replace z:=q_ z)
  have I:=Blk.five t.o (.int .u8 116) (.int .i64 1) (.string noB) (.slice none 0 0) (.slice none 0 0);obtain⟨T,U,V,q3,q4⟩:=I.d5;have F:=Fr.five ((w1.setCell ⟨w.heap.size+1+1,1,none⟩ (.int .i64 1)).setCell ⟨bl,1,none⟩ (.int .i64 ((i:Int)+1))) (w.heap.size) (.int .u8 116) (.int .i64 1) (.string noB) (.slice none 0 0) (.slice none 0 0);generalize (((((World.setCell ((w1.setCell ⟨w.heap.size+1+1,1,none⟩ (.int .i64 1)).setCell ⟨bl,1,none⟩ (.int .i64 ((i:Int)+1))) ⟨w.heap.size,0,none⟩ (.int .u8 116)).setCell ⟨w.heap.size,1,none⟩ (.int .i64 1)).setCell ⟨w.heap.size,2,none⟩ (.string noB)).setCell ⟨w.heap.size,3,none⟩ (.slice none 0 0)).setCell ⟨w.heap.size,4,none⟩ (.slice none 0 0))=W5 at *;refine bodyPost_ret (v:=.agg (zb_ 116 1 noB (.slice none 0 0) (.slice none 0 0)).toArray) (by simp[results,results34,go_sem,T,U,V,q3,q4,zb_]) rfl ?_;rw[Q_.o];exact x9_ J.o (DVal.bare _ _ 116 1 noB) F (by simp[rdT,xx_,hc.o])
 ·have b7:((c:Int)==84)=false:=by simp;omega
  replace hc:=q_ hc;replace E:=q_ E
  go_in
  go_wp2_with (first
   |(go_at_call 60;refine(y9_ D.o.L O N).mono ?_;rintro e w1 ⟨rfl,A⟩;rw[a0.o];have u:=D.o.still A;have q:=(Fr.refl _ (λ g=>g=bl)).still A;have x:=q.blk B0.o (by omega);have y:=q_ (q.blk B2.o (by omega));replace u:=q_ u;replace q:=q_ q;replace x:=q_ x)
   |(go_at_call 59;refine(xo_ 70 u.o.L O N rfl (by decide)).mono ?_;rintro e w2 ⟨rfl,hE⟩;obtain⟨j2,a6,l,C,hJ⟩:=LEat.any (by decide) u.o hE;have h:=C.blk x.o (by omega);have E2:=C.blk y.o (by omega);have r0:=h.cell 0;have r1:=h.cell 1;have r2:=h.cell 2;have r3:=h.cell 3;have r4:=h.cell 4;have t0:=E2.cell 0;have t1:=E2.cell 1;have t2:=E2.cell 2;have t3:=E2.cell 3;have t4:=E2.cell 4;obtain⟨g0,g1,g2,g3,g4⟩:=h.t5;simp only[zg_,zb_,aa_,ab_,af_] at r0 r1 r2 r3 r4 t0 t1 t2 t3 t4;replace l:=q_ l;replace C:=q_ C;replace h:=q_ h;replace E2:=q_ E2;clear hE))
  have I:=Blk.five h.o (.int .u8 116) (.int .i64 0) (.string noB) (.slice none 0 0) (.slice none 0 0);obtain⟨T,U,V,q3,q4⟩:=I.d5;have F:=Fr.five w2 (w.heap.size) (.int .u8 116) (.int .i64 0) (.string noB) (.slice none 0 0) (.slice none 0 0);generalize (((((World.setCell w2 ⟨w.heap.size,0,none⟩ (.int .u8 116)).setCell ⟨w.heap.size,1,none⟩ (.int .i64 0)).setCell ⟨w.heap.size,2,none⟩ (.string noB)).setCell ⟨w.heap.size,3,none⟩ (.slice none 0 0)).setCell ⟨w.heap.size,4,none⟩ (.slice none 0 0))=W5 at *;refine bodyPost_ret (v:=.agg (zb_ 116 0 noB (.slice none 0 0) (.slice none 0 0)).toArray) (by simp[results,results34,go_sem,T,U,V,q3,q4,zb_]) rfl ?_;rw[Q_.o]
  rcases hJ.o with⟨_,K,rfl,rfl⟩|⟨K,_,rfl⟩
  ·exact x9_ l.o (DVal.bare _ _ 116 0 noB) F (by simp[rdT,xx_,K])
  ·have a2:bt s i≠70:=by simpa using K
   have a3:bt s i≠84:=by rw[hc.o];exact E.o
   exact v4_ l.o ⟨_,_,_,rfl⟩ ⟨_,_,_,rfl⟩ F (by simp[rdT,xx_,a2,a3])
theorem zd5.any {w:World}{P:Nat->Prop}{bl:Nat}{s:BA}{bz:Nat}{pl:Bool}{j kd:Nat}{ts:List TR}{env:Nat->Option PB}{W W':World}(M:DM w P bl s bz pl j false ts env W) (h:zd5 W bl s bz pl j kd e W') :
 ∃ v j' bad',e=.returned (.int .i64 v)/\DM w P bl s bz pl j' bad' ts env W'/\Fr W W' (· = bl)/\H_ ((bad'=false/\jj_ s kd j=some (v,j'))\/(bad'=true/\jj_ s kd j=none)):=by
 obtain⟨k,neg,t,hn,q,hk,h1,l,g,m⟩:=h;subst hn q hk
 rcases m with⟨a,b,c,d⟩|⟨a,c,d⟩
 ·exact⟨_,_,_,d,M.call c g l,g,.inl ⟨rfl,by unfold jj_;exact if_pos a⟩⟩
 ·exact⟨_,_,_,d,M.call c g l,g,.inr ⟨rfl,by unfold jj_;exact if_neg a⟩⟩
theorem z0c {s:BA}{env:Nat->Option PB}{pl:Bool}{ts:List TR}:j9_ s env pl ts (f+1) (.leaf 105 p) i:=by
 intro w P bl bz k M hk;simp only[isT] at hk;obtain⟨g,m,a2,sv,z0,a3,G,z2,ho,F⟩:=M.Z.type hk;simp only[af_] at G;refine hq_ λ a0 K=>?_;have a5:=M.lt;have a6:=zk_ z0;have a7:=zk_ G;have c3:=M.L.c3;have c2:=M.L.c2;have O:=M.jl;have T:=M.sl;obtain⟨u,sn,x,rfl⟩:=zn_ ho;have C:=q_ (dw_M M 105 (.slice u sn x));have H:=q_ (dw_0 w 105 (.slice u sn x));have B1:=q_ (dw_1 w 105 (.slice u sn x));have I:=q_ (dw_2 w 105 (.slice u sn x));have d2:=λ X Y Z=>zl_ c2 X Y Z
 have a4:(k:Int)<(m:Int):=by omega
 replace M:=q_ M;replace ho:=q_ ho;replace F:=q_ F;replace hk:=q_ hk
 go_in
 go_wp2_with (go_at_call 61;refine(zg4 (kd:=105) C.o.L T O).mono ?_;intro e w1 E;obtain⟨v,j1,a1,rfl,z,q,N⟩:=E.any C.o;have y:=q.blk H.o (by omega);have l:=q.blk I.o (by omega);have U:=l.cell 1;have p2:=l.thaw 1;simp only[zb_,aa_,ab_] at U;have t:=z.put ⟨w.heap.size+1+1,1,none⟩ (.int .i64 v) (by simp;omega);have E2:=Blk.set l 1 (.int .i64 v);have h:=Blk.other y (a:=⟨w.heap.size+2,1,none⟩) (.int .i64 v) (by simp);have r0:=h.cell 0;have r1:=h.cell 1;have r2:=h.cell 2;have r3:=h.cell 3;have r4:=h.cell 4;have t0:=E2.cell 0;have t1:=E2.cell 1;have t2:=E2.cell 2;have t3:=E2.cell 3;have t4:=E2.cell 4;obtain⟨g0,g1,g2,g3,g4⟩:=h.t5;simp only[zg_,zb_,aa_,ab_,aj_,al_,af_] at r0 r1 r2 r3 r4 t0 t1 t2 t3 t4;replace z:=q_ z;replace t:=q_ t;replace q:=q_ q;replace y:=q_ y;replace l:=q_ l;replace h:=q_ h;replace E2:=q_ E2;clear E)
 have J:=Blk.five h.o (.int .u8 105) (.int .i64 v) (.string noB) (.slice none 0 0) (.slice none 0 0);obtain⟨V,q1,q2,q3,q4⟩:=J.d5;have D:=Fr.five (w1.setCell ⟨w.heap.size+1+1,1,none⟩ (.int .i64 v)) (w.heap.size) (.int .u8 105) (.int .i64 v) (.string noB) (.slice none 0 0) (.slice none 0 0);generalize (((((World.setCell (w1.setCell ⟨w.heap.size+1+1,1,none⟩ (.int .i64 v)) ⟨w.heap.size,0,none⟩ (.int .u8 105)).setCell ⟨w.heap.size,1,none⟩ (.int .i64 v)).setCell ⟨w.heap.size,2,none⟩ (.string noB)).setCell ⟨w.heap.size,3,none⟩ (.slice none 0 0)).setCell ⟨w.heap.size,4,none⟩ (.slice none 0 0))=W5 at *;refine bodyPost_ret (v:=.agg (zb_ 105 v noB (.slice none 0 0) (.slice none 0 0)).toArray) (by simp[results,results34,go_sem,V,q1,q2,q3,q4,zb_]) rfl ?_;rw[K.o]
 rcases N.o with⟨rfl,A⟩|⟨rfl,A⟩
 ·exact x9_ t.o (DVal.bare _ _ 105 v noB) D (by simp[rdT,xx_,A])
 ·exact v4_ t.o ⟨_,_,_,rfl⟩ ⟨_,_,_,rfl⟩ D (by simp[rdT,xx_,A])
theorem z0b {s:BA}{env:Nat->Option PB}{pl:Bool}{ts:List TR}:j9_ s env pl ts (f+1) (.leaf 108 p) i:=by
 intro w P bl bz k M hk;simp only[isT] at hk;obtain⟨g,m,a2,sv,z0,a3,G,z2,ho,F⟩:=M.Z.type hk;simp only[af_] at G;refine hq_ λ a0 K=>?_;have a5:=M.lt;have a6:=zk_ z0;have a7:=zk_ G;have c3:=M.L.c3;have c2:=M.L.c2;have O:=M.jl;have T:=M.sl;obtain⟨u,sn,x,rfl⟩:=zn_ ho;have C:=q_ (dw_M M 108 (.slice u sn x));have H:=q_ (dw_0 w 108 (.slice u sn x));have B1:=q_ (dw_1 w 108 (.slice u sn x));have I:=q_ (dw_2 w 108 (.slice u sn x));have d2:=λ X Y Z=>zl_ c2 X Y Z
 have a4:(k:Int)<(m:Int):=by omega
 replace M:=q_ M;replace ho:=q_ ho;replace F:=q_ F;replace hk:=q_ hk
 go_in
 go_wp2_with (go_at_call 61;refine(zg4 (kd:=108) C.o.L T O).mono ?_;intro e w1 E;obtain⟨v,j1,a1,rfl,z,q,N⟩:=E.any C.o;have y:=q.blk H.o (by omega);have l:=q.blk I.o (by omega);have U:=l.cell 1;have p2:=l.thaw 1;simp only[zb_,aa_,ab_] at U;have t:=z.put ⟨w.heap.size+1+1,1,none⟩ (.int .i64 v) (by simp;omega);have E2:=Blk.set l 1 (.int .i64 v);have h:=Blk.other y (a:=⟨w.heap.size+2,1,none⟩) (.int .i64 v) (by simp);have r0:=h.cell 0;have r1:=h.cell 1;have r2:=h.cell 2;have r3:=h.cell 3;have r4:=h.cell 4;have t0:=E2.cell 0;have t1:=E2.cell 1;have t2:=E2.cell 2;have t3:=E2.cell 3;have t4:=E2.cell 4;obtain⟨g0,g1,g2,g3,g4⟩:=h.t5;simp only[zg_,zb_,aa_,ab_,aj_,al_,af_] at r0 r1 r2 r3 r4 t0 t1 t2 t3 t4;replace z:=q_ z;replace t:=q_ t;replace q:=q_ q;replace y:=q_ y;replace l:=q_ l;replace h:=q_ h;replace E2:=q_ E2;clear E)
 have J:=Blk.five h.o (.int .u8 108) (.int .i64 v) (.string noB) (.slice none 0 0) (.slice none 0 0);obtain⟨V,q1,q2,q3,q4⟩:=J.d5;have D:=Fr.five (w1.setCell ⟨w.heap.size+1+1,1,none⟩ (.int .i64 v)) (w.heap.size) (.int .u8 108) (.int .i64 v) (.string noB) (.slice none 0 0) (.slice none 0 0);generalize (((((World.setCell (w1.setCell ⟨w.heap.size+1+1,1,none⟩ (.int .i64 v)) ⟨w.heap.size,0,none⟩ (.int .u8 108)).setCell ⟨w.heap.size,1,none⟩ (.int .i64 v)).setCell ⟨w.heap.size,2,none⟩ (.string noB)).setCell ⟨w.heap.size,3,none⟩ (.slice none 0 0)).setCell ⟨w.heap.size,4,none⟩ (.slice none 0 0))=W5 at *;refine bodyPost_ret (v:=.agg (zb_ 108 v noB (.slice none 0 0) (.slice none 0 0)).toArray) (by simp[results,results34,go_sem,V,q1,q2,q3,q4,zb_]) rfl ?_;rw[K.o]
 rcases N.o with⟨rfl,A⟩|⟨rfl,A⟩
 ·exact x9_ t.o (DVal.bare _ _ 108 v noB) D (by simp[rdT,xx_,A])
 ·exact v4_ t.o ⟨_,_,_,rfl⟩ ⟨_,_,_,rfl⟩ D (by simp[rdT,xx_,A])
theorem zbm.any {w:World}{P:Nat->Prop}{bl:Nat}{s:BA}{bz:Nat}{pl:Bool}{j:Nat}{bad:Bool}{ts:List TR}{env:Nat->Option PB}{W W':World}(M:DM w P bl s bz pl j bad ts env W) (h:zbm W bl s bz pl j bad e W') :
 ∃ tx j',e=.returned (.string tx)/\DM w P bl s bz pl j' bad ts env W'/\Fr W W' (· = bl)/\tx.size<=4000/\H_ (tx=s.extract j j'/\j<=j'/\(bad=false->j'=zw_ s j)):=by
 obtain⟨k,h1,g,l,m,q,a⟩:=h;refine⟨_,k,m,M.call q a l,a,?_,rfl,g,λ hb=>by rw[h1,hb];rfl⟩;have:=M.sl;rw[bb_];omega
theorem zz8 {s:BA}{env:Nat->Option PB}{pl:Bool}{ts:List TR}:j9_ s env pl ts (f+1) (.leaf 115 p) i:=by
 intro w P bl bz k M hk;simp only[isT] at hk;obtain⟨g,m,a9,sv,z0,b4,z1,z2,ho,V⟩:=M.Z.type hk;simp only[af_] at z1;refine hq_ λ a6 Q_=>?_;have b6:=M.lt;have b7:=zk_ z0;have b8:=zk_ z1;have c3:=M.L.c3;have c2:=M.L.c2;have a4:=M.jl;have K:=M.sl;obtain⟨D,sn,E,rfl⟩:=zn_ ho;have N:=q_ (dw_M M 115 (.slice D sn E));have B0:=q_ (dw_0 w 115 (.slice D sn E));have B1:=q_ (dw_1 w 115 (.slice D sn E));have B2:=q_ (dw_2 w 115 (.slice D sn E));have d2:=λ X Y Z=>zl_ c2 X Y Z
 have b5:(k:Int)<(m:Int):=by omega
 replace M:=q_ M;replace ho:=q_ ho;replace V:=q_ V;replace hk:=q_ hk
 go_in
 go_wp2_with (first
  |(go_at_call 62;refine(zar q.o.L K q.o.jl).mono ?_;intro e w2 U;obtain⟨tx,j2,rfl,I,z,hx,hK⟩:=U.any q.o;have G:=z.blk F.o (by omega);have E2:=z.blk D2.o (by omega);have p1:=E2.cell 2;have p2:=E2.thaw 2;simp only[zb_,aa_,ab_] at p1;have t:=I.put ⟨w.heap.size+1+1,2,none⟩ (.string tx) (by simp;omega);have H:=Blk.set E2 2 (.string tx);have G0:=q_ (Blk.other G (a:=⟨w.heap.size+2,2,none⟩) (.string tx) (by simp));replace I:=q_ I;replace t:=q_ t;replace z:=q_ z;replace G:=q_ G;replace E2:=q_ E2;replace H:=q_ H;clear U)
  |(go_at_call 59;refine(xo_ 34 t.o.L K t.o.jl rfl (by decide)).mono ?_;rintro e w4 ⟨rfl,x⟩;obtain⟨j4,a8,C,A,a3⟩:=LEat.any (by decide) t.o x;have h:=A.blk G0.o (by omega);have l:=A.blk H.o (by omega);have r0:=h.cell 0;have r1:=h.cell 1;have r2:=h.cell 2;have r3:=h.cell 3;have r4:=h.cell 4;have t0:=l.cell 0;have t1:=l.cell 1;have t2:=l.cell 2;have t3:=l.cell 3;have t4:=l.cell 4;obtain⟨g0,g1,g2,g3,g4⟩:=h.t5;simp only[zg_,zb_,aa_,ab_,aj_,al_,af_] at r0 r1 r2 r3 r4 t0 t1 t2 t3 t4;replace C:=q_ C;replace A:=q_ A;replace h:=q_ h;replace l:=q_ l;clear x)
  |(go_at_call 59;refine(xo_ 34 N.o.L K a4 rfl (by decide)).mono ?_;rintro e w1 ⟨rfl,x⟩;obtain⟨j1,a7,q,y,T⟩:=LEat.any (by decide) N.o x;have F:=y.blk B0.o (by omega);have D2:=q_ (y.blk B2.o (by omega));replace q:=q_ q;replace y:=q_ y;replace F:=q_ F;clear x))
 have L5:=Blk.five h.o (.int .u8 115) (.int .i64 0) (.string tx) (.slice none 0 0) (.slice none 0 0);obtain⟨q0,q1,q2,q3,q4⟩:=L5.d5;have O:=Fr.five w4 (w.heap.size) (.int .u8 115) (.int .i64 0) (.string tx) (.slice none 0 0) (.slice none 0 0);generalize (((((World.setCell w4 ⟨w.heap.size,0,none⟩ (.int .u8 115)).setCell ⟨w.heap.size,1,none⟩ (.int .i64 0)).setCell ⟨w.heap.size,2,none⟩ (.string tx)).setCell ⟨w.heap.size,3,none⟩ (.slice none 0 0)).setCell ⟨w.heap.size,4,none⟩ (.slice none 0 0))=W5 at *;refine bodyPost_ret (v:=.agg (zb_ 115 0 tx (.slice none 0 0) (.slice none 0 0)).toArray) (by simp[results,results34,go_sem,q0,q1,q2,q3,q4,zb_]) rfl ?_;rw[Q_.o];obtain⟨a5,b9,a0⟩:=hK.o
 rcases a3.o with⟨rfl,u,rfl,rfl⟩|⟨u,rfl,rfl⟩
 ·rcases T.o with⟨_,h1,rfl,_⟩|⟨_,_,hb⟩
  ·have J:=a0 rfl;subst a5;refine x9_ C.o (DVal.bare _ _ 115 0 _) O ?_;rw[J] at u⊢
   simp[rdT,xx_,h1,u]
  ·cases hb
 ·refine v4_ C.o ⟨_,_,_,rfl⟩ ⟨_,_,_,rfl⟩ O ?_
  rcases T.o with⟨_,h1,rfl,rfl⟩|⟨h1,_,hb⟩
  ·have J:=a0 rfl;rw[J] at u
   have a2:bt s (zw_ s (i+1))≠34:=by simpa using u
   simp[rdT,xx_,a2]
  ·have a1:bt s i≠34:=by simpa using h1
   simp[rdT,xx_,a1]
open Go.RowKit
theorem zid {ts:List TR}{k:Nat}{t:PT}(h:isT ts k t):∃ l,ts[k]?=some ⟨t.kind,l⟩:=by
 cases t with
 | leaf c p=>exact⟨_,h⟩
 | wrap c p t=>obtain⟨j,h,_⟩:=h;exact⟨_,h⟩
 | alts p l=>obtain⟨j,h,_⟩:=h;exact⟨_,h⟩
theorem zpl {s:BA}{env:Nat->Option PB}{pl:Bool}{ts:List TR}(t:PT):zzl s env pl ts t:=by
 intro w P bl bz k i M hk;obtain⟨l,hk⟩:=zid hk;obtain⟨c,hc⟩:∃ c,t.kind=c:=⟨_,rfl⟩;rw[hc] at hk;obtain⟨g,m,a1,sv,z0,a2,E,z2,ho,y⟩:=M.Z.type hk;simp only at E;refine hq_ λ a0 F=>?_;have a4:=M.lt;have a5:=zk_ z0;have a6:=zk_ E;have c3:=M.L.c3;have c2:=M.L.c2;obtain⟨u,sn,x,rfl⟩:=zn_ ho;have a:=dw_0 w c (.slice u sn x);have h:=dw_2 w c (.slice u sn x);have r0:=a.cell 0;have U:=h.cell 0;have G:=a.thaw 0;have r1:=a.cell 1;have V:=h.cell 1;have H:=a.thaw 1;have N:=a.cell 2;have t2:=h.cell 2;have I:=a.thaw 2;have O:=a.cell 3;have t3:=h.cell 3;have J:=a.thaw 3;have T:=a.cell 4;have t4:=h.cell 4;have K:=a.thaw 4;have d2:=λ X Y Z=>zl_ c2 X Y Z;simp only[dw,zg_,zb_,noB,aa_,ab_,af_] at r0 r1 N O T U V t2 t3 t4 G H I J K;clear a h
 have a3:(k:Int)<(m:Int):=by omega
 replace M:=q_ M;replace ho:=q_ ho;replace y:=q_ y;replace hk:=q_ hk
 go_in
 go_wp2_with fail
 have q:=((Blk.new w (zb_ c 0 noB (.slice none 0 0) (.slice none 0 0)).toArray 37).alloc (.cells #[.int .u8 (c:Int),.slice u sn x] 77)).alloc (.cells (zb_ c 0 noB (.slice none 0 0) (.slice none 0 0)).toArray 37);have z:=q.cell 0;have A:=q.cell 1;have C:=q.cell 2;have q3:=q.cell 3;have D:=q.cell 4;simp only[zb_,noB,aa_,ab_] at z A C q3 D;refine bodyPost_ret (v:=.agg (zb_ c 0 noB (.slice none 0 0) (.slice none 0 0)).toArray) (by simp[results,results34,go_sem,z,A,C,q3,D,zb_,noB]) rfl ?_;rw[F.o];exact v4_ (((M.o.alloc _).alloc _).alloc _) ⟨_,_,_,rfl⟩ ⟨_,_,_,rfl⟩ (Fr.refl _ _) rfl
open Go.RowKit
theorem zo_ {w:World}{n:Nat}{e:TypeId}{v:Value}{xs:List Value}(h:w.ownsRow base e size v n xs):∃ a c,v=.slice a n c:=by
 rcases h.2 with⟨h1,h0⟩|⟨g,l,_,h1,_⟩
 ·subst h0;exact⟨_,_,h1⟩
 ·exact⟨_,_,h1⟩
section
variable {w W W':World} {P:Nat->Prop} {bl:Nat} {s:BA} {bz:Nat} {pl:Bool} {j:Nat} {bad:Bool} {ts:List TR} {env:Nat->Option PB} {b0 b1 B c:Nat} {vk vs:Value} {ks:List BA} {n:Nat} {xs:List Value}
theorem LEat.lm {d:Nat}(hd:0<d) (Q:LM w P bl s bz pl j bad ts env b0 b1 B c vk vs ks n xs W) (h:LEat W bl s bz pl j bad d W') :
 ∃ j' bad',LM w P bl s bz pl j' bad' ts env b0 b1 B c vk vs ks n xs W'/\Fr W W' (· = bl)/\H_ ((bad=false/\bt s j=d/\j'=j+1/\bad'=false)\/((bad=true\/bt s j≠d)/\j'=j/\bad'=true)):=by
 obtain⟨j',bad',a,g,l⟩:=LEat.any hd Q.M h;exact⟨j',bad',Q.call a.L g a.jl,g,l⟩
theorem zbm.lm (Q:LM w P bl s bz pl j bad ts env b0 b1 B c vk vs ks n xs W) (h:zbm W bl s bz pl j bad e W') :
 ∃ tx j',e=.returned (.string tx)/\LM w P bl s bz pl j' bad ts env b0 b1 B c vk vs ks n xs W'/\Fr W W' (· = bl)/\tx.size<=4000/\H_ (tx=s.extract j j'/\j<=j'/\(bad=false->j'=zw_ s j)):=by
 obtain⟨tx,j',he,a,g,m,l⟩:=zbm.any Q.M h;exact⟨tx,j',he,Q.call a.L g a.jl,g,m,l⟩
theorem z6_.lm {r:Option (DT×Nat)}(Q:LM w P bl s bz pl j bad ts env b0 b1 B c vk vs ks n xs W) (h:z6_ W bl s bz pl r e W') :
 ∃ (k:Nat) (m:Int) (tx:BA) (a:Option Addr) (t c1:Nat) (l:Option Addr) (u c2:Nat) (j':Nat) (bad':Bool),e=.returned (.agg #[.int .u8 (k:Int),.int .i64 m,.string tx,.slice a t c1,.slice l u c2])/\LM w P bl s bz pl j' bad' ts env b0 b1 B c vk vs ks n xs W'/\Fr W W' (· = bl)/\
  H_ ((∃ d,r=some (d,j')/\bad'=false/\DVal W' (λ g=>B<=g/\vk.ownBlock≠some g/\vs.ownBlock≠some g) d (zb_ k m tx (.slice a t c1) (.slice l u c2)))\/(r=none/\bad'=true)):=by
 obtain⟨k,m,tx,D,E,he,⟨a,t,c1,rfl⟩,⟨l,u,c2,rfl⟩,x,z⟩:=h;have C:=Q.bB
 cases r with
 | none=>
  obtain⟨j',h1,y⟩:=z;exact⟨k,m,tx,a,t,c1,l,u,c2,j',true,he,Q.call y x h1,x,.inr ⟨rfl,rfl⟩⟩
 | some q=>
  obtain⟨d,j'⟩:=q;obtain⟨h1,y,A⟩:=z;refine⟨k,m,tx,a,t,c1,l,u,c2,j',false,he,Q.call y x h1,x,.inl ⟨d,rfl,rfl,A.mono (λ g _ hg=>⟨by omega,λ e=>?_,λ e=>?_⟩)⟩⟩
  ·have:=Q.kr.lt g e;omega
  ·have:=Q.vr.lt g e;omega
end
def Out1 (R_:Option (List (BA×DT)×Nat)) (R:Nat->Option (DT×Nat)) (s:BA) (fin:Nat) (keyed:Bool) (acc:List (BA×DT)) (i j j':Nat) (bad':Bool):Prop:=
 (bad'=false/\j<=j'/\i+acc.length<=j'/\∃ nn,s.size<nn+j'/\R_=zgi acc (xi_ R s fin keyed nn (jc_ acc) j'))\/(bad'=true/\R_=none)
def Out2 (R_:Option (List (BA×DT)×Nat)) (R:Nat->Option (DT×Nat)) (s:BA) (fin:Nat) (keyed:Bool) (acc:List (BA×DT)) (i j:Nat) (tx:BA) (j':Nat) (bad':Bool):Prop:=
 (bad'=false/\j<=j'/\i+acc.length<=j'/\∃ nn,s.size<nn+1+j'/\R_=if bt s j'=58 then zpa R s fin keyed nn acc tx (j'+1) else none)\/(bad'=true/\R_=none)
def Out3 (R_:Option (List (BA×DT)×Nat)) (R:Nat->Option (DT×Nat)) (s:BA) (fin:Nat) (keyed:Bool) (acc:List (BA×DT)) (ks:List BA) (i j j':Nat) (bad':Bool):Prop:=
 (bad'=false/\j<=j'/\i+acc.length<=j'/\∃ nn key,(∀ d,ks=v7_ keyed (acc++[(key,d)]))/\s.size<nn+1+j'/\R_=zpa R s fin keyed nn acc key j')\/(bad'=true/\R_=none)
theorem zos {s:BA}{keyed:Bool}{j:Nat}(g:j=i) (hc:bt s j≠fin) (a:R_=if bt s i=fin then some ([],i+1) else zgi [] (xi_ R s fin keyed (s.size+2) none i)) :
 Out1 R_ R s fin keyed [] i j j false:=by
 subst g;rw[if_neg hc] at a;exact .inl ⟨rfl,l_,by simp,s.size+2,by omega,a⟩
theorem zq5 {s:BA}{keyed:Bool}{j nn j':Nat}{bad':Bool}(hc:bt s j≠fin) (l:i+acc.length<=j) (m:s.size<nn+j) (a:R_=zpq R s fin keyed nn acc j)
 (g:(bt s j=44/\j'=j+1/\bad'=false)\/(bt s j≠44/\j'=j/\bad'=true)):Out1 R_ R s fin keyed acc i j j' bad':=by
 unfold zpq at a;rw[if_neg hc] at a
 rcases g with⟨h,rfl,rfl⟩|⟨h,rfl,rfl⟩
 ·rw[if_pos h] at a;exact .inl ⟨rfl,by omega,by omega,nn,by omega,a⟩
 ·rw[if_neg h] at a;exact .inr ⟨rfl,a⟩
theorem zor {s:BA}{j j':Nat}{bad':Bool}(t:j'<=s.size) (h:Out1 R_ R s fin false acc i j j' bad') (ks:List BA) (l:bad'=false->ks=v7_ false acc):Out3 R_ R s fin false acc ks i j j' bad':=by
 rcases h with⟨rfl,h1,g,nn,q,a⟩|h
 ·obtain⟨m,rfl⟩:∃ m,nn=m+1:=⟨nn-1,by omega⟩;rw[zgh] at a;refine .inl ⟨rfl,h1,g,m,noB,λ d=>by rw[l rfl];rfl,by omega,a⟩
 ·exact .inr h
theorem zl5 {s:BA}{j j' a:Nat}{bad':Bool}{tx:BA}(z:j'<=s.size) (h:Out1 R_ R s fin true acc i j j' bad') (q:tx=s.extract j' a/\j'<=a/\(bad'=false->a=zw_ s j')) :
 (zgo (jc_ acc) tx=true->Out2 R_ R s fin true acc i j tx a bad')/\(zgo (jc_ acc) tx=false->Out2 R_ R s fin true acc i j tx a true):=by
 rcases h with⟨rfl,h1,u,nn,y,g⟩|h
 ·obtain⟨m,rfl⟩:∃ m,nn=m+1:=⟨nn-1,by omega⟩;rw[zgh] at g;have t:=q.2.2 rfl;unfold zfh at g;rw[if_pos rfl,<- t,<- q.1] at g;refine⟨λ l=>.inl ⟨rfl,by omega,by omega,m,by omega,?_⟩,λ l=>.inr ⟨rfl,?_⟩⟩
  ·rw[g,l]
   by_cases hb:bt s a=58
   ·rw[if_pos ⟨hb,rfl⟩,if_pos hb]
   ·rw[if_neg (λ x=>hb x.1),if_neg hb]
  ·rw[g,l,if_neg (λ x=>by simp at x)]
 ·exact⟨λ _=>.inr h,λ _=>.inr ⟨rfl,h.2⟩⟩
theorem znf {s:BA}{j j' g:Nat}{bad bad':Bool}{tx:BA}{ks:List BA}(q:ks=v7_ true acc) (h:Out2 R_ R s fin true acc i j tx j' bad)
 (l:(bad=false/\bt s j'=58/\g=j'+1/\bad'=false)\/((bad=true\/bt s j'≠58)/\g=j'/\bad'=true)):Out3 R_ R s fin true acc (ks++[tx]) i j g bad':=by
 rcases h with⟨rfl,h1,t,nn,u,a⟩|⟨rfl,h⟩
 ·rcases l with⟨_,hb,rfl,rfl⟩|⟨hb,rfl,rfl⟩
  ·rw[if_pos hb] at a;exact .inl ⟨rfl,by omega,by omega,nn,tx,λ d=>by rw[q];simp[v7_],by omega,a⟩
  ·have m:bt s g≠58:=by simpa using hb
   rw[if_neg m] at a;exact .inr ⟨rfl,a⟩
 ·rcases l with⟨hb,_⟩|⟨_,rfl,rfl⟩
  ·cases hb
  ·exact .inr ⟨rfl,h⟩
theorem zbq {ks:List BA}(a:ks=v7_ true acc):(ks=[]->jc_ acc=none)/\(∀ q g,ks=q++[g]->jc_ acc=some g):=by
 unfold v7_ at a;rw[if_pos rfl] at a;subst a;refine⟨λ h=>?_,λ q g h=>?_⟩
 ·rw[List.map_eq_nil_iff] at h;subst h;rfl
 ·unfold jc_;rw[<- List.getLast?_map,h]
  simp
end Go.Proofs.YtiifagiebikmdaaGreatDoor
